import PyProof.Rows.All
import Wide.All
import OpenK.AllK
import Wide.FinOn
import PyProof.EqAt
import PyProof.EqKinds
import PyProof.TupleCall
import KE.BitLaws
import Open.SpecLaws
import KE.OsHead
import KE.OsGo
import KE.KTryMore
import KE.KSuperObj
import PyProof.Draws
import KE.IntBitsLaws
import KE.KSortTupG
import KE.KLam
import KE.KDictList
import KE.KListMore
import PyProof.P3In
import PySem.Challenge.RW_lutesounds_s04_pure
set_option Elab.async false
set_option linter.all false
set_option maxRecDepth 100000
set_option maxHeartbeats 4000000
theorem Dm.{u} {c:Prop}{h:Decidable c}(hc:c){α:Sort u}{t e:α}:ite c t e=t:=if_pos hc
theorem Dn.{u} {c:Prop}{h:Decidable c}(hc:¬c){α:Sort u}{t e:α}:ite c t e=e:=if_neg hc
noncomputable section
open Array renaming length_toList->fy,getElem?_setIfInBounds_ne->gj,getElem?_eq_some_iff->lp,getElem?_toList->ma,getElem?_eq_getElem->qw,getElem?_eq_none->ue,toArray_toList->xr,append_assoc->xW,forIn_toList->ya,toList->yc,toList_zip->yS
open Array.Perm renaming refl->zn
open Bool renaming false_ne_true->bw,noConfusion->fj,false_eq_true->fx,and_eq_true->iz,eq_false_iff->jq,true_and->jz,eq_iff_iff->ko,false_and->li,eq_false_or_eq_true->vV,and_false->wY,and_eq_true_iff->xg,or_true->yl,or_false->Az,and_true->Bc,not_not->Br
open Eq renaming trans->uP
open Except renaming error->Bu
open False renaming elim->fk
open ForInStep renaming yield->uR
open Int renaming toNat_natCast->jo,toNat_of_nonneg->kq,gcd->qr,neg_ediv_of_dvd->qy,mul_ediv_cancel_left->rj,ofNat_dvd_left->si,natAbs_natCast->sj,natCast_mul->uX,fdiv_eq_ediv_of_nonneg->vg,natAbs_mul->vx,natCast_dvd_natCast->wa,add_comm->wv,neg_mul->xl,mul_pos->y3,one_mul->y4,natCast_pow->zj,mul_le_mul->zY,ofNat_le->Bq,pow_add->Cf
open List renaming length_map->ai,getElem?_eq_getElem->aj,mem_cons_of_mem->aq,getElem?_map->au,getElem?_eq_some_iff->az,mem_cons_self->bc,getD_eq_getElem?_getD->bf,mem_of_getElem?->bn,length_append->bp,mem_cons->bq,size_toArray->br,mem_append->bu,map_cons->dc,length_cons->de,map_append->dh,take_add_one->dq,mem_append_right->dy,length_take->eq,take_length->ez,mem_singleton->fq,length_drop->fw,pairwise_cons->gh,drop_eq_getElem_cons->gy,mem_map->il,take_append_drop->iu,nodup_cons->iy,getElem_mem->jb,append_nil->jh,lookup->jk,mem_of_mem_drop->jl,range->jm,find?_cons->js,getLastD_eq_getLast?->jt,all_eq_true->jv,any_eq_true->jw,getElem?_of_mem->kg,lookup_cons->lg,contains_cons->lq,find?_eq_none->lv,findIdx?_eq_some_iff_getElem->md,pairwise_iff_getElem->mh,length_range->mo,mem_of_mem_take->mw,getElem?_set_self->oj,take_of_length_le->oy,mem_filter->pc,map_take->pp,find?_append->qd,idxOf_lt_length_of_mem->qe,mem_range->qf,length->qg,pairwise_append->qi,cons_append->qp,getLast?_eq_getElem?->qv,mem_map_of_mem->qz,of_mem_zip->rp,getElem?_take->sh,reverse_cons->uc,nodup_append->ui,map_drop->uz,mem_append_left->uJ,getElem?_set_ne->uK,range_succ->uW,filterMap_cons->uY,length_reverse->u5,getD->vd,getElem?_append_right->vm,getElem?_drop->vy,getElem_idxOf->vz,getElem?_append_left->vE,mem_of_find?_eq_some->vF,pairwise_map->vO,append_assoc->vP,getElem?_take_of_lt->vS,getElem_inj->vZ,drop_length->wb,getElem?_cons_succ->wc,idxOf?_eq_some_iff->wf,map_map->wy,all_append->wD,any_append->wF,getElem?_eq_none->wL,length_filter_le->wS,drop_drop->xj,take_take->xk,mem_of_getLast?->xp,nodup_nil->xt,length_pos_iff->xB,getElem?_range->xF,drop_succ_cons->xI,take_succ_cons->xK,map_congr_left->xM,sum_cons->xS,mem_filterMap->xY,map_nil->yk,foldl_append->yo,all_eq_false->yp,getLast?_map->yr,filter_cons->yH,map_reverse->yO,mem_reverse->yP,length_set->y9,sum_append->zg,find?_some->zh,foldl_cons->zi,replicate->zB,forIn_nil->zK,drop_take->z0,find?_map->z4,find?->Cs
open List.Pairwise renaming nil->mv,sublist->wQ,imp_of_mem->Ba
open List.Perm renaming refl->xo
open List.Sublist renaming refl->Cw
open List.cons renaming inj->xQ
open Nat renaming le_refl->aw,lt_of_lt_of_le->bv,ne_of_lt->cp,le_trans->cu,mul_comm->dk,zero_le->du,gcd_mul_left->gq,lt_irrefl->jf,zero_add->ke,pow_pos->kh,mul_left_comm->km,mul_assoc->ky,le_add_right->lh,pow_le_pow_right->mq,mul_pos->mr,pow_add->ms,ne_of_gt->om,lt_trans->ot,gcd->ow,dvd_trans->pq,lt_succ_of_lt->qc,pow_mul->ss,Coprime->tj,le_of_lt->tm,le_of_eq->tu,le_of_succ_le->ud,gcd_dvd_right->uh,gcd_dvd_left->uv,lt_of_not_le->uw,add_assoc->uy,le_succ->uM,lt_of_le_of_lt->vt,mul_one->vM,mul_pow->vN,lt_succ_self->v5,succ_ne_self->v7,pow_lt_pow_iff_left->wd,gcd_pos_of_pos_left->we,pow_zero->ww,mul_lt_mul_right->xm,pow_lt_pow_left->xG,gcd_comm->yn,dvd_refl->yq,sub_self->yt,add_zero->yx,min_eq_left->zp,gcd_assoc->Bb,pow_succ->Bp,zero_mul->Bs,min_self->Bt,two_mul->Cg,one_mul->Ci,one_pos->Cj
open Nat.Coprime renaming pow->wE,mul_right->wO
open Ne renaming symm->cw
open Option renaming isSome_iff_exists->rb,none->w8,isSome_map->yw,getD_none->yG,bind_some->yJ,map->Cv
open Option.some renaming inj->cz
open Or renaming inl->vT,inr->Bo
open PyProof renaming noPylong_small->wl
open PyProof.Rows renaming callWith_type1->df,seqObj->mz,slot_tuple_getitem->nk,envOfC->vk,arrOf->vB,listUpdate_at->vX,AllBare->wk,subscriptTail_builtinR->wq,boot_enumerate->w6,subscriptTail->xO,callWith_builtin1->yF,get?_update_seq->zm,Call_->zw,boot_range->zx,slicePart_none->zC,Subscript_->zE,boot_sorted->Be,iadd_int->Bv
open PyProof.Rows.G renaming tupKindC->x9,tupKeyC->yR
open PyProof.Rows.G.KeepsTups renaming refl->Dd
open PyProof.Rows.IsTup renaming new->Cy
open PyProof.Rows.SortSt renaming mk'->Ct
open PySem renaming wpAny_bind->ae,Addr->ag,Value->ah,Shared->ak,wpAny_pure->ao,Program->bb,starEach->be,wpAny->bi,model->bo,World->cb,sizeLine_eq->cf,Paired->cg,mem_of_lookup->cq,Heap->cr,boot_len->cy,Around->dj,Stmt->dm,mainGlobals->fh,FuncData->fv,rawInt->ge,wpAny_newObj_type->gg,keywordEach->gr,backTo->ie,wpAny_mono->ig,wpAny_Call_Name_kw->ij,wpAny_holding->io,cellsFrom->ip,wpAny_field->iw,bootBuiltins->jn,wpAny_setField->jp,Scope->jr,compEnvC->ju,wpAny_standAt->jx,attributeBase->jy,backToKw->kf,wpAny_typeNameOfWhole_valiter->ki,compareOp->kj,wpAny_callSpecial?_slot->kl,getMethod->kz,NameKind->lj,wpAny_passesOwn->mi,holding->mj,foldedSetIterable->ml,wpAny_pyIter_enum->mn,wpAny_typeNameOf_valiter->ng,plainObj_wpAny_Assign_Attribute->nj,standAt->nq,codeAny->nw,callWith->nz,wpAny_call_entry->oa,codeAny_mono->oo,behindInMarks->ph,wpAny_truthy_bool->qb,Within->qk,swapsWith->qm,wpAny_execs_nil->rm,letOwnedTupleGo->rn,sysModules->sd,wpAny_pyIter_tuple->sg,sliceBounds->sr,binaryOp->tq,wpAny_loadPart_at->uf,wpAny_isOneOf_valiter->uo,wpAny_call->ur,pushCells->ut,strIterType->uO,pushCells_keeps->uQ,wpAny_isSubtype_exc->u4,tupleKind->u9,Arguments->vc,assignEach->vf,recursionLimit->vi,wpAny_newFunctionEnv_cells->vn,wpAny_letOwnedTupleGo_enum->vq,firstArgMember->vv,tupleKind_room_in1->vC,Builtin->vJ,wpAny_dictEntries->vR,wpAny_attempt->vU,wpAny_lookBehind->v3,pastItsLine_dict->v4,noteFrame->v6,setFlight->v8,builtinsNs->wj,Keyword->wm,getItem->wo,typeLookup->wp,wpAny_pyNext_enum_endD->wr,wpAny_specialOf->wB,wpAny_dictEpoch->wH,wpAny_isTrue_Compare1->wJ,codeAny_call_function->wK,codeAny_handlers_test->wM,builtinLookup_eq_fast->wN,wpAny_loadName_local->wT,wpAny_loadPart->wU,cLine->wV,bindArgs->wW,subscripted->wX,PyData->wZ,codeAny_call_builtin->w9,wpAny_seqItems->xb,Params->xf,intBits_pow_le->xh,BindsTo->xw,notedBy->xx,DictEntry->xz,wpAny_loadName_cell->xA,wpAt_of_wpAny->xD,wpAny_handleBy_cons->xE,wpAny_handled->xR,entryOfKey->xV,pyNext->xX,IsPart->x3,IsEnum->x5,Operator->yd,wpAny_assign_Name->ye,wpAny_nsSet1->yg,callerA->yu,isTrue->yz,wpAny_execs_cons->yA,assign->yB,Result->yE,wpAny_pyIter_zip->yI,checkBuiltinCall->yK,wpAny_madeBy_exc->yL,wpAny_isInstance->yN,Model->yW,seqIndex_of->yX,excClassObj->yY,wpAny_throw->yZ,wpAt_bind->zc,typeLookup_type->zf,ItemsOf->zr,wpAny_Name->zu,bindL->zz,bindC->zA,typeOf->zH,call_meets->zJ,closureFor->zM,newFunctionEnv->zO,setField->zQ,isInstance->zS,ownStreamTells->zT,raisedInstance->zU,arm_exec_Raise->zV,intBits_mul_le->zZ,atKey->z7,wpAny_fieldsOf->z8,storeName->Bf,CmpOp->Bg,inplaceOp->Bh,onTheHeap->Bi,spliced->Bl,getAttr->Bm,setAttr->Bn,call->Cu,Fin->Dc
open PySem.Around renaming frames_deeper->uN,under->yi
open PySem.AutoSeq1 renaming wpAny_loadPart'->my,list_insert_list_int_val_1->wG
open PySem.Builtin.Dict renaming showsAll->wR,noArgs->Cm
open PySem.Builtin.Dict_items renaming ownsTuple->pf,newIterator->yU,dictOf->Ak
open PySem.Builtin.List renaming listExtendWith->kx,listFitsIndex->qj,listTooLong->rc,listSameRef->vW,listItems->wu,listLengthHint->zt,listUpdate->Bj
open PySem.Builtin.Range renaming rangeSize->v0,small->Ck
open PySem.Builtin.Slice renaming slicePlaces->me,sliceAdjust->qu,sliceApplied->vo,slicePartIndex->y8,sliceFields->Aj
open PySem.Builtin.SmallTypes renaming nextOf->mf
open PySem.Builtin.Tuple renaming tupleExact->mx,tupleItemsOf->zD
open PySem.Calls renaming spliced_nil->tz,Name_function_global->ve,spliced_cons->vj
open PySem.CmpOp renaming NotIn->Ca,In->De
open PySem.Code renaming quiet_builtin->x6,isFrame->yj,frames->Cd
open PySem.EntryCells renaming newEntry->xC
open PySem.EqMixed renaming eq_bool_str->Ac,eq_str_bool->Ad,ne_bool_str->Ah,ne_str_bool->Ai,eq_int_str->Ap,eq_str_int->Ar,ne_int_str->Aw,ne_str_int->Ay
open PySem.EqNone renaming eq_none_none->z9,eq_none_bool->Aa,eq_bool_none->Ab,ne_none_none->Ae,ne_none_bool->Af,ne_bool_none->Ag,eq_none_int->Am,eq_none_str->An,eq_int_none->Ao,eq_str_none->Aq,ne_none_int->As,ne_none_str->Au,ne_int_none->Av,ne_str_none->Ax
open PySem.Expr renaming Call->Db
open PySem.F renaming plainAttrs_list->dw,slot_list_append->fb,type_list_append->ff,slot_dict_valueiterator_next->jc,slot_tuple_iterator_next->lu,excBase_ValueError->qh,args_dict_valueiterator_next_1->uj,entry_dict_valueiterator_next->ul,args_tuple_iterator_next_1->uS,entry_tuple_iterator_next->u6,attr_ValueError->v9,slot_dict_values_iter->wg,slot_dict_values->yb
open PySem.Heap renaming get?_push_of_some->am,lt_size->bg,get?_push_size->bj,size_push->fu,get?_update_self->je,get?_update_other->ku,get?_update_ne->ny,SameBut->ql,get?_push_ne->vL,size_update->yT,push->Bk,ExtBut->Ce
open PySem.Heap.IsSliceOf renaming new->Cq
open PySem.Heap.Ns1 renaming of_empty->yh
open PySem.Heap.SameBut renaming update->qx
open PySem.IsRange renaming new->Cc
open PySem.NameKind renaming free->rg,cell->xP
open PySem.Obj renaming mapSeq->fm,data_mapFields->ou,mapFields->pj,isFreed_of_fields->um,cls_mapFields->ym
open PySem.Paired renaming length->cn
open PySem.PassesOwn renaming leaving->bh
open PySem.PyData renaming canLayAll0->uk,depthAll->wI,eqvAll->xU
open PySem.SeqAt.EqAt renaming int_str->Cn,str_int->Co
open PySem.Str renaming ofString->mm,length->Cr
open PySem.Value renaming ref->cj,none->iq,type->ji,builtin->ux,int->vY,str->yy,isStrOf->Al,isInt->Bw,bytes->By,float->Bz,bool->Cp
open PySem.Value.type renaming inj->zW
open PySem.W renaming Frag->aa,keepIn->fi,mg_of->gc,fnOf->ik,findIn->im,emptyDict->jd,codeIn->jg,instObj->kn,exmOne->oe,WData->oh,callWith_K->oq,kla_obj->pd,methodCall_KW->qa,isFn->qo,Looks->rh,findCls->rq,cellsFrom_some->ub,plainGet->uq,length_le_weightAllW->uV,plainGet_of->uZ,callWith_K0->u0,nsIn->u7,lookIn->vh,CodeHd->vA,mg_none_of->vD,methodObj->vG,hasDictIn->vH,specialIn->vK,WellAll->wt,envX->wx,takerIn->wz,makesIn->wA,readsIn->wC,kla_fn->xq,codeHd_of_K->xJ,codeRec_of->xZ,plainOver->yf,handedIn->yC,any_some->yD,WRecords->yM,kla_eval->yQ,codeHdIn->yV,exm_one->zd,InstAt->zy,WalkOS->z6
open PySem.W.Codec renaming inInt->kr,encAll->ug,denoteAll->uT,app->xy,inLen->y6,withinAll->zo
open PySem.W.Looks renaming here->on,ld->uu
open PySem.W.WData renaming weightAll->uU,int->Da
open PySem.Within renaming cons->vI,nil->Cz
open Sum renaming inl->lw,inr->xu
open Sum.inl renaming inj->Bx
open True renaming intro->jj
open UInt8 renaming ofNat->vQ,le_iff_toNat_le->wP,toNat_ofNat'->x8,toNat_inj->ze,toNat_lt->z5
section
inductive Ex2 {A0 A1:Type} (p:A0->A1->Prop):Prop
 |intro(a:A0) (b:A1) (h:p a b):Ex2 p
inductive Ex3 {A0 A1 A2:Type} (p:A0->A1->A2->Prop):Prop
 |intro(a:A0) (b:A1) (c:A2) (h:p a b c):Ex3 p
inductive Ex4 {A0 A1 A2 A3:Type} (p:A0->A1->A2->A3->Prop):Prop
 |intro(a:A0) (b:A1) (c:A2) (d:A3) (h:p a b c d):Ex4 p
inductive Ex5 {A0 A1 A2 A3 A4:Type} (p:A0->A1->A2->A3->A4->Prop):Prop
 |intro(a:A0) (b:A1) (c:A2) (d:A3) (e:A4) (h:p a b c d e):Ex5 p
inductive Ex6 {A0 A1 A2 A3 A4 A5:Type} (p:A0->A1->A2->A3->A4->A5->Prop):Prop
 |intro(a:A0) (b:A1) (c:A2) (d:A3) (e:A4) (f:A5) (h:p a b c d e f):Ex6 p
inductive Ex7 {A0 A1 A2 A3 A4 A5 A6:Type} (p:A0->A1->A2->A3->A4->A5->A6->Prop):Prop
 |intro(a:A0) (b:A1) (c:A2) (d:A3) (e:A4) (f:A5) (g:A6) (h:p a b c d e f g):Ex7 p
inductive Ex8 {A0 A1 A2 A3 A4 A5 A6 A7:Type} (p:A0->A1->A2->A3->A4->A5->A6->A7->Prop):Prop
 |intro(a:A0) (b:A1) (c:A2) (d:A3) (e:A4) (f:A5) (g:A6) (h:A7) (h:p a b c d e f g h):Ex8 p
inductive Ex9 {A0 A1 A2 A3 A4 A5 A6 A7 A8:Type} (p:A0->A1->A2->A3->A4->A5->A6->A7->A8->Prop):Prop
 |intro(a:A0) (b:A1) (c:A2) (d:A3) (e:A4) (f:A5) (g:A6) (h:A7) (i:A8) (h:p a b c d e f g h i):Ex9 p
inductive Ex12 {A0 A1 A2 A3 A4 A5 A6 A7 A8 A9 A10 A11:Type} (p:A0->A1->A2->A3->A4->A5->A6->A7->A8->A9->A10->A11->Prop):Prop
 |intro(a:A0) (b:A1) (c:A2) (d:A3) (e:A4) (f:A5) (g:A6) (h:A7) (i:A8) (j:A9) (k:A10) (l:A11) (h:p a b c d e f g h i j k l):Ex12 p
end
section
namespace L2
open PySem PySem.Spec PyProof.Rows
abbrev Key:=Sum Int Str
def OP:Key->ah->Bool
 | .inl k,v=>Bw k v
 | .inr x,v=>Al x v
def tD (w:cb):Key->Int
 | .inl k=>hashInt k
 | .inr x=>hashStr w x
theorem B3:∀{k:Key} {v:ah},OP k v=true->(∃i t,k=lw i/\v=vY i t)\/(∃x t,k=xu x/\v=yy x t)
 | .inl i,v,h=>by
   obtain⟨t,e⟩:=Value.isInt_shape (k:=i) (v:=v) h;exact .inl ⟨i,t,rfl,e⟩
 | .inr x,v,h=>by
   obtain⟨t,e⟩:=Value.isStrOf_shape (x:=x) (v:=v) h;exact .inr ⟨x,t,rfl,e⟩
theorem X3 (i:Int) (t:Tok):OP (.inl i) (.int i t)=true:=by simp[OP,Bw]
theorem X4 (x:Str) (t:Tok):OP (.inr x) (.str x t)=true:=by simp[OP,Al]
theorem iK (a b:Int):decide ((lw a:Key)=lw b)=(a==b):=by
 by_cases e:a=b
 ·subst e;simp
 ·have h:¬(lw a:Key)=lw b:=λq=>e (Bx q);rw[decide_eq_false h];exact(beq_eq_false_iff_ne.mpr e).symm
theorem iL (a b:Str):decide ((xu a:Key)=xu b)=decide (a=b):=by
 by_cases e:a=b
 ·subst e;simp
 ·have h:¬(xu a:Key)=xu b:=λq=>e (Sum.inr.inj q);rw[decide_eq_false h,decide_eq_false e]
theorem iM (a:Int) (b:Str):decide ((lw a:Key)=xu b)=false:=decide_eq_false (λq=>nomatch q)
theorem iN (a:Str) (b:Int):decide ((xu a:Key)=lw b)=false:=decide_eq_false (λq=>nomatch q)
def DH (prog:bb) (w:cb):PySem.KeyKind prog w Key where
 is:=OP
 hash:=tD w
 inj:=λv a b ha hb=>by
  rcases B3 ha with⟨i,t,rfl,rfl⟩|⟨x,t,rfl,rfl⟩
  ·rcases B3 hb with⟨j,u,rfl,e⟩|⟨y,u,rfl,e⟩
   ·injection e with e1 _;rw[e1]
   ·exact nomatch e
  ·rcases B3 hb with⟨j,u,rfl,e⟩|⟨y,u,rfl,e⟩
   ·exact nomatch e
   ·injection e with e1 _;rw[e1]
 byValue:=λk v h=>by
  rcases B3 h with⟨i,t,rfl,rfl⟩|⟨x,t,rfl,rfl⟩<;>rfl
 pyHash:=λhv h=>by
  rcases B3 hv with⟨i,t,rfl,rfl⟩|⟨x,t,rfl,rfl⟩
  ·exact wpAny_pyHash_int h
  ·exact wpAny_pyHash_str h
 eqBool:=λhu hv h=>by
  rcases B3 hu with⟨i,t,rfl,rfl⟩|⟨x,t,rfl,rfl⟩
  ·rcases B3 hv with⟨j,u,rfl,rfl⟩|⟨y,u,rfl,rfl⟩
   ·rw[iK] at h;exact wpAny_eqBool_int h
   ·rw[iM] at h;exact Cn i t y u _ _ _ _ h
  ·rcases B3 hv with⟨j,u,rfl,rfl⟩|⟨y,u,rfl,rfl⟩
   ·rw[iN] at h;exact Co x t j u _ _ _ _ h
   ·rw[iL] at h;exact wpAny_eqBool_str h
 «strs»:=λk x t v h=>by
  rcases B3 h with⟨i,u,rfl,e⟩|⟨y,u,rfl,e⟩
  ·exact nomatch e
  ·injection e with e1 _;subst e1;cases v<;>rfl
theorem RK (prog:bb) (w:cb) (i:Int) (t:Tok):(DH prog w).is (.inl i) (.int i t)=true:=X3 i t
theorem RL (prog:bb) (w:cb) (x:Str) (t:Tok):(DH prog w).is (.inr x) (.str x t)=true:=X4 x t
inductive V where
 |non|bl (b:Bool)|int (i:Int)|str (x:Str)|byt (b:Array UInt8)|flt (b:UInt64)|ref (a:ag)|ty (n:String)
 deriving DecidableEq
def RelV:V->ah->Prop
 | .non,u=>u=iq
 | .bl b,u=>u=Cp b
 | .int i,u=>∃t,u=vY i t
 | .str x,u=>∃t,u=yy x t
 | .byt b,u=>∃t,u=By b t
 | .flt b,u=>∃t,u=Bz b t
 | .ref a,u=>u=cj a
 | .ty n,u=>u=ji n
abbrev Vals:List V->List ah->Prop:=cg RelV
theorem Vals.length {xs:List V} {us:List ah} (r:Vals xs us):xs.length=us.length:=cn r
theorem Vals.get:∀{xs:List V} {us:List ah} {i:Nat} {x:V},Vals xs us->xs[i]? =some x->∃u,us[i]? =some u/\RelV x u
 |_,_,_,_,.nil,e=>by simp at e
 |_,_,0,_,.cons r _,e=>by simp at e;subst e;exact⟨_,rfl,r⟩
 |_,_,i+1,x,.cons _ t,e=>by
  obtain⟨u,h1,h2⟩:=Vals.get (i:=i) (x:=x) t (by simpa using e);exact⟨u,by simpa using h1,h2⟩
theorem Vals.set {x:V} {u:ah} (r:RelV x u):∀{xs:List V} {us:List ah} (i:Nat),Vals xs us->Vals (xs.set i x) (us.set i u)
 |_,_,_,.nil=>.nil
 |_,_,0,.cons _ t=>.cons r t
 |_,_,i+1,.cons q t=>.cons q (Vals.set r i t)
theorem Vals.append:∀{xs ys:List V} {us ws:List ah},Vals xs us->Vals ys ws->Vals (xs++ys) (us++ws)
 |_,_,_,_,.nil,s=>s
 |_,_,_,_,.cons r t,s=>.cons r (Vals.append t s)
theorem Vals.take:∀{xs:List V} {us:List ah} (n:Nat),Vals xs us->Vals (xs.take n) (us.take n)
 |_,_,0,_=>.nil
 |_,_,_+1,.nil=>.nil
 |_,_,n+1,.cons r t=>.cons r (Vals.take n t)
theorem Vals.drop:∀{xs:List V} {us:List ah} (n:Nat),Vals xs us->Vals (xs.drop n) (us.drop n)
 |_,_,0,r=>r
 |_,_,_+1,.nil=>.nil
 |_,_,n+1,.cons _ t=>Vals.drop n t
def RelO:Option V->Option ah->Prop
 |some v,some u=>RelV v u
 |none,none=>True
 |_,_=>False
def KV {κ:Type}:List (κ×V)->List (κ×ah)->Prop:=cg λ(p:κ×V) (q:κ×ah)=>p.1=q.1/\RelV p.2 q.2
def kV:Key->V
 | .inl i=>.int i
 | .inr x=>.str x
inductive HO where
 |lst (xs:List V)
 |tup (xs:List V)
 |dK (Dj:List (Key×V))|dT (Dj:List (List Key×V))
 |set (S:Int->Bool) (n:Nat)
 |ins (C dx:ag) (fs:List (Str×V))
 |own (x:ag)
 |xd (fs:List (Str×V))
 |met (f x:ag)
 |rng (lo hi:Int)
 |frz (o:Obj) (u:HO)
 |tbl (ps:Array ah)
 |ext (φ:cr->Prop)
abbrev Hp:=ag->Option HO
def upd (H:Hp) (a:ag) (o:HO):Hp:=λb=>if b=a then some o else H b
theorem upd_same {H:Hp} {a:ag} {o:HO}:upd H a o a=some o:=by unfold upd;rw[Dm rfl]
theorem AE {H:Hp} {a b:ag} {o:HO} (h:b≠a):upd H a o b=H b:=by unfold upd;rw[Dn h]
theorem dM {H:Hp} {a:ag} {o u:HO}:upd (upd H a o) a u=upd H a u:=by
 funext b;unfold upd;split<;>rfl
theorem B6 {H:Hp} {a b:ag} {o u:HO} (h:H a=some o) (h':H b=some u) (d:o≠u):a≠b:=by
 intro e;subst e;rw[h] at h';exact d (cz h')
theorem AG {H:Hp} {a b:ag} {o:HO} (h:H a=some o) (h':H b=none):a≠b:=by
 intro e;subst e;rw[h] at h';cases h'
section
variable (P:bb) (w:cb)
def ObjOk (H:Hp) (h:cr) (a:ag):HO->Prop
 | .lst xs=>xs.length<=sizeLine/\Ex2 λ(Di:List ah) (n:Nat)=>Vals xs Di/\h.get? a=some { cls:=.type "list",data:=.seq Di.toArray n }
 | .tup xs=>xs.length<=sizeLine/\∃Di:List ah,Vals xs Di/\IsTup h a Di.toArray
 | .dK Dj=>Dj.length<=sizeLine/\(a==sd)=false/\∃vs,KV Dj vs/\h.DictOf (DH P w) a vs
 | .dT Dj=>Dj.length<=sizeLine/\(a==sd)=false/\∃xs:List (List Key×ag×ah),
  cg (λ(p:List Key×V) (q:List Key×ag×ah)=>p.1=q.1/\H q.2.1=some (.tup (p.1.map kV))/\RelV p.2 q.2.2) Dj xs/\
  Ex3 λo es ep=>h.get? a=some o/\o.ExactDict/\o.data= .dict es ep/\es.toList=xs.map (xV (u9 (DH P w)))/\(xs.map (·.1)).Nodup
 | .set S n=>h.SetOf (intKind P w) a S n
 | .ins C dx fs=>H dx=some (.own a)/\fs.length<=1000/\dx≠a/\h.get? a=some (kn C dx)/\
  ∃mA,h.Ns1 dx mA/\(∀f,RelO (fs.lookup f) (mA f))/\qk mA (fs.map (·.1))
 | .own _=>∃o,h.get? a=some o
 | .xd fs=>∃mA,h.Ns1 a mA/\∀f,RelO (fs.lookup f) (mA f)
 | .rng lo hi=>Ex3 λt u v=>h.get? a=some { cls:=.type "range",data:=.fields #[.int lo t,.int hi u,.int 1 v] }
 | .frz o u=>h.get? a=some o/\ObjOk H h a u
 | .tbl ps=>h.get? a=some { cls:=.none,data:=.fields ps }
 | .met f x=>h.get? a=some (vG (.ref f) (.ref x))
 | .ext φ=>φ h/\(∃o,h.get? a=some o)/\∀h1 h2:cr,φ h1->(∀o,h1.get? a=some o->h2.get? a=some o)->φ h2
def HOk (H:Hp) (h:cr):Prop:=∀a o,H a=some o->ObjOk P w H h a o
end
section
variable {P:bb} {w:cb} {H H':Hp} {h h':cr} {a:ag} {o:HO}
theorem ObjOk.lt (x:ObjOk P w H h a o):a<h.objs.size:=by
 cases o with
 |lst xs=>obtain⟨_,_,_,_,e⟩:=x;exact bg e
 |tup xs=>obtain⟨_,_,_,p⟩:=x;exact p.lt
 |dK Dj=>obtain⟨_,_,_,_,o,_,_,e,_⟩:=x;exact bg e
 |dT Dj=>obtain⟨_,_,_,_,o,_,_,e,_⟩:=x;exact bg e
 |set S n=>obtain⟨o,_,_,_,e,_⟩:=x;exact bg e
 |ins C dx fs=>obtain⟨_,_,_,e,_⟩:=x;exact bg e
 |own y=>obtain⟨_,e⟩:=x;exact bg e
 |xd fs=>obtain⟨_,⟨_,_,_,e,_⟩,_⟩:=x;exact bg e
 |rng lo hi=>obtain⟨_,_,_,e⟩:=x;exact bg e
 |frz ob u=>obtain⟨e,_⟩:=x;exact bg e
 |tbl ps=>exact bg (show h.get? a=some _ from x)
 |met f y=>exact bg (show h.get? a=some _ from x)
 |ext φ=>obtain⟨_,⟨_,e⟩,_⟩:=x;exact bg e
theorem cg.mapP {α β:Type} {F G:α->β->Prop}:∀{l₁:List α} {l₂:List β},cg F l₁ l₂->(∀a b,F a b->G a b)->cg G l₁ l₂
 |_,_,.nil,_=>.nil
 |_,_,.cons r t,f=>.cons (f _ _ r) (cg.mapP t f)
theorem cg.imp' {α β:Type} {F G:α->β->Prop} (f:∀a b,F a b->G a b) {l₁:List α} {l₂:List β} (r:cg F l₁ l₂):cg G l₁ l₂:=cg.mapP r f
theorem ObjOk.stay (x:ObjOk P w H h a o) (k:∀b u,(b=a\/H b=some (.own a))->h.get? b=some u->h'.get? b=some u)
 (ho:∀b,H b=some (.own a)->H' b=some (.own a)) (ht:∀b xs,H b=some (.tup xs)->H' b=some (.tup xs)):ObjOk P w H' h' a o:=by
 induction o with
 |lst xs=>obtain⟨z,Di,n,r,e⟩:=x;exact⟨z,Di,n,r,k _ _ (.inl rfl) e⟩
 |tup xs=>obtain⟨z,Di,r,ob,e,c⟩:=x;exact⟨z,Di,r,ob,k _ _ (.inl rfl) e,c⟩
 |dK Dj=>obtain⟨z,y,vs,r,ob,es,ep,e,c⟩:=x;exact⟨z,y,vs,r,ob,es,ep,k _ _ (.inl rfl) e,c⟩
 |dT Dj=>
  obtain⟨z,y,xs,r,ob,es,ep,e,c⟩:=x;exact⟨z,y,xs,cg.mapP r λp q z=>⟨z.1,ht _ _ z.2.1,z.2.2⟩,ob,es,ep,k _ _ (.inl rfl) e,c⟩
 |set S n=>obtain⟨ob,es,ep,t,e,c⟩:=x;exact⟨ob,es,ep,t,k _ _ (.inl rfl) e,c⟩
 |ins C dx fs=>
  obtain⟨d,z,ne,e,mA,⟨od,es,ep,e2,c⟩,r⟩:=x;exact⟨ho _ d,z,ne,k _ _ (.inl rfl) e,mA,⟨od,es,ep,k _ _ (.inr d) e2,c⟩,r⟩
 |own y=>obtain⟨ob,e⟩:=x;exact⟨ob,k _ _ (.inl rfl) e⟩
 |xd fs=>obtain⟨mA,⟨od,es,ep,e,c⟩,r⟩:=x;exact⟨mA,⟨od,es,ep,k _ _ (.inl rfl) e,c⟩,r⟩
 |rng lo hi=>obtain⟨t,u,v,e⟩:=x;exact⟨t,u,v,k _ _ (.inl rfl) e⟩
 |frz ob u ih=>obtain⟨e,q⟩:=x;exact⟨k _ _ (.inl rfl) e,ih q⟩
 |tbl ps=>
  have e:h.get? a=some { cls:=.none,data:=.fields ps }:=x;show h'.get? a=some { cls:=.none,data:=.fields ps };exact k a _ (.inl rfl) e
 |met f y=>
  have e:h.get? a=some (vG (.ref f) (.ref y)):=x;show h'.get? a=some (vG (.ref f) (.ref y));exact k a _ (.inl rfl) e
 |ext φ=>obtain⟨p,⟨o,e⟩,st⟩:=x;exact⟨st _ _ p λo q=>k _ _ (.inl rfl) q,⟨o,k _ _ (.inl rfl) e⟩,st⟩
theorem HOk.lt (x:HOk P w H h) (e:H a=some o):a<h.objs.size:=(x a o e).lt
theorem HOk.fresh (x:HOk P w H h) (e:h.objs.size<=a):H a=none:=by
 cases q:H a with
 |none=>rfl
 |some u=>exact absurd (bv (x.lt q) e) (jf _)
theorem HOk.kept (x:HOk P w H h) (k:∀b u,h.get? b=some u->h'.get? b=some u):HOk P w H h':=λa o e=>
 (x a o e).stay (λb u _ q=>k b u q) (λ_ q=>q) λ_ _ q=>q
theorem HOk.laid (x:HOk P w H h) (k:∀b u,h.get? b=some u->h'.get? b=some u) (hp:h.objs.size<=a) (new:ObjOk P w (upd H a o) h' a o):HOk P w (upd H a o) h':=λb u e=>by
 have hn:=x.fresh hp;by_cases hb:b=a
 ·subst hb;rw[upd_same] at e;cases e;exact new
 ·rw[AE hb] at e;exact(x b u e).stay (λc v _ q=>k c v q) (λc q=>by rw[AE (AG q hn)];exact q) λc xs q=>by rw[AE (AG q hn)];exact q
end
def Rd (H:Hp) (a:ag) (u:HO):Prop:=H a=some u\/∃o,H a=some (.frz o u)
theorem Rd.ok {P:bb} {w:cb} {H:Hp} {h:cr} {a:ag} {u:HO} (r:Rd H a u) (x:HOk P w H h):ObjOk P w H h a u:=by
 rcases r with r|⟨o,r⟩
 ·exact x a u r
 ·obtain⟨_,q⟩:=x a _ r;exact q
def Mut:Option HO->Prop
 |some (.lst _)=>True
 |some (.dK _)=>True
 |some (.dT _)=>True
 |some (.set _ _)=>True
 |some (.ins _ _ _)=>True
 |some (.ext _)=>True
 |_=>False
section
variable {P:bb} {w:cb} {H:Hp} {h h':cr} {x e:ag} {o':HO}
theorem HOk.write (ok:HOk P w H h) (mu:Mut (H x)) (he:e=x\/H e=some (.own x)) (k:∀b u,b≠e->h.get? b=some u->h'.get? b=some u) (heo:∃u,h'.get? e=some u)
 (new:ObjOk P w (upd H x o') h' x o'):HOk P w (upd H x o') h':=λb u q=>by
 have nown:∀c y,H c=some (.own y)->c≠x:=λc y r z=>by subst z;rw[r] at mu;exact mu
 have ntup:∀c xs,H c=some (.tup xs)->c≠x:=λc xs r z=>by subst z;rw[r] at mu;exact mu
 by_cases hb:b=x
 ·subst hb;rw[upd_same] at q;cases q;exact new
 ·rw[AE hb] at q;by_cases hbe:b=e
  ·have q':H b=some (.own x):=by
    rcases he with z|z
    ·exact absurd (hbe.trans z) hb
    ·rw[hbe];exact z
   rw[q] at q';cases q';obtain⟨v,hv⟩:=heo;exact⟨v,by rw[hbe];exact hv⟩
  ·refine(ok b u q).stay (λc v hc r=>k c v ?_ r) (λc r=>by rw[AE (nown c b r)];exact r) λc xs r=>by rw[AE (ntup c xs r)];exact r
   rcases hc with rfl|hc
   ·exact hbe
   ·rintro rfl;rcases he with z|z
    ·exact nown c b hc z
    ·rw[hc] at z;cases z;exact hb rfl
end
structure Un (fs ex:List ag) (H H':Hp) (h h':cr):Prop where
 keep:∀b o,h.get? b=some o->H b=none->b∉fs->b∉ex->h'.get? b=some o
 slot:∀b o,h.get? b=some o->H b=none->b∈fs->b∉ex->∃sl,h'.get? b=some { o with slots:=sl }
 free:∀b o,h.get? b=some o->H b=none->b∉ex->H' b=none
 there:∀b o,h.get? b=some o->b∉ex->∃o',h'.get? b=some o'
 tups:∀b xs,H b=some (.tup xs)->H' b=some (.tup xs)
 frzs:∀b o u,H b=some (.frz o u)->H' b=some (.frz o u)
 tbls:∀b ps,H b=some (.tbl ps)->∃more,H' b=some (.tbl (ps++more))
section
variable {fs fs' ex ex':List ag} {H H1 H2:Hp} {h h1 h2 h':cr} {a x e:ag} {o:HO}
theorem Un.any (u:Un fs ex H H1 h h1) {b:ag} {ob:Obj} (q:h.get? b=some ob) (n:H b=none) (hx:b∉ex):∃sl,h1.get? b=some { ob with slots:=sl }:=by
 by_cases hb:b∈fs
 ·exact u.slot b ob q n hb hx
 ·exact⟨ob.slots,u.keep b ob q n hb hx⟩
theorem Un.trans (a:Un fs ex H H1 h h1) (b:Un fs ex H1 H2 h1 h2):Un fs ex H H2 h h2 where
 keep:=λc ob q n hc hx=>b.keep c ob (a.keep c ob q n hc hx) (a.free c ob q n hx) hc hx
 slot:=λc ob q n hc hx=>by
  obtain⟨sl,e1⟩:=a.slot c ob q n hc hx;obtain⟨sl',e2⟩:=b.slot c _ e1 (a.free c ob q n hx) hc hx;exact⟨sl',e2⟩
 free:=λc ob q n hx=>by
  obtain⟨o',e1⟩:=a.there c ob q hx;exact b.free c o' e1 (a.free c ob q n hx) hx
 there:=λc ob q hx=>by
  obtain⟨o',e1⟩:=a.there c ob q hx;exact b.there c o' e1 hx
 tups:=λc xs q=>b.tups c xs (a.tups c xs q)
 frzs:=λc ob xs q=>b.frzs c ob xs (a.frzs c ob xs q)
 tbls:=λc ps q=>by
  obtain⟨m1,e1⟩:=a.tbls c ps q;obtain⟨m2,e2⟩:=b.tbls c _ e1;exact⟨m1++m2,by rw[e2,xW]⟩
theorem Un.kept (k:∀b u,h.get? b=some u->h'.get? b=some u):Un fs ex H H h h':=
 ⟨λb ob q _ _ _=>k b ob q,λb ob q _ _ _=>⟨ob.slots,k b ob q⟩,λ_ _ _ n _=>n,λb ob q _=>⟨ob,k b ob q⟩,λ_ _ q=>q,λ_ _ _ q=>q,λ_ ps q=>⟨#[],by rw[q];simp⟩⟩
theorem Un.refl:Un fs ex H H h h:=Un.kept λ_ _ q=>q
theorem Un.laid (k:∀b u,h.get? b=some u->h'.get? b=some u) (hp:h.objs.size<=a) (hn:H a=none):Un fs ex H (upd H a o) h h' where
 keep:=λb u q _ _ _=>k b u q
 slot:=λb u q _ _ _=>⟨u.slots,k b u q⟩
 free:=λb u q n _=>by rw[AE (cp (bv (bg q) hp))];exact n
 there:=λb u q _=>⟨u,k b u q⟩
 tups:=λb xs q=>by rw[AE (AG q hn)];exact q
 frzs:=λb u xs q=>by rw[AE (AG q hn)];exact q
 tbls:=λb ps q=>⟨#[],by rw[AE (AG q hn),q];simp⟩
theorem Un.write (mu:Mut (H x)) (he:e=x\/H e=some (.own x)) (k:∀b u,b≠e->h.get? b=some u->h'.get? b=some u) (heo:∃u,h'.get? e=some u):Un fs ex H (upd H x o) h h':=by
 have hx:∀b,H b=none->b≠x:=λb n z=>by subst z;rw[n] at mu;exact mu
 have hb:∀b,H b=none->b≠e:=λb n z=>by
  subst z;rcases he with r|r
  ·exact hx b n r
  ·rw[n] at r;cases r
 have hm:∀b u,H b=some u->¬Mut (some u)->b≠x:=λb u q nm z=>by subst z;rw[q] at mu;exact nm mu
 refine⟨λb u q n _ _=>k b u (hb b n) q,λb u q n _ _=>⟨u.slots,k b u (hb b n) q⟩,λb u q n _=>by rw[AE (hx b n)];exact n,λb u q _=>?_,
  λb xs q=>by rw[AE (hm b _ q λz=>z)];exact q,λb u xs q=>by rw[AE (hm b _ q λz=>z)];exact q,λb ps q=>⟨#[],by rw[AE (hm b _ q λz=>z),q];simp⟩⟩
 by_cases hbe:b=e
 ·subst hbe;exact heo
 ·exact⟨u,k b u hbe q⟩
theorem Un.mono (u:Un fs ex H H1 h h1) (hs:∀b∈fs,b∈fs') (hx:∀b∈ex,b∈ex'):Un fs' ex' H H1 h h1:=
 ⟨λb ob q n hb he=>u.keep b ob q n (λz=>hb (hs b z)) λz=>he (hx b z),λ_ _ q n _ he=>u.any q n λz=>he (hx _ z),λb ob q n he=>u.free b ob q n λz=>he (hx b z),λb ob q he=>u.there b ob q λz=>he (hx b z),u.tups,u.frzs,u.tbls⟩
end
def trk (h:cr) (H:Hp):List ag:=(jm h.objs.size).filter λa=>(H a).isSome
def OF (h:cr) (H:Hp):cr:=PySem.W.hideAll h (trk h H)
theorem X5 (h:cr) (H:Hp):(OF h H).objs.size=h.objs.size:=PySem.W.hideAll_size _ _
theorem ZE {h:cr} {H:Hp} {b:ag} {o:Obj} (e:h.get? b=some o) (n:H b=none):(OF h H).get? b=some o:=
 PySem.W.hideAll_get _ e λhm=>by
  have q:(H b).isSome=true:=(pc.mp hm).2;rw[n] at q;simp at q
theorem dO {h:cr} {H:Hp} {b:ag} {o:Obj} (e:(OF h H).get? b=some o):h.get? b=some o/\H b=none:=by
 have e':h.get? b=some o:=PySem.W.of_hideAll (trk h H) e;refine⟨e',?_⟩;cases q:H b with
 |none=>rfl
 |some x=>
  have hm:b∈trk h H:=pc.mpr ⟨qf.mpr (bg e'),by simp[q]⟩;have z:(OF h H).get? b=none:=PySem.W.hideAll_none (trk h H) hm;rw[z] at e;cases e
def dP (g h:cr) (L:ag):List (ag×Obj):=(jm h.objs.size).filterMap λa=>if a=L\/(g.get? a).isSome=true then none else(h.get? a).map λo=>(a,o)
def Dg (g h:cr) (L d:ag):List (ag×Obj):=(dP g h L).filter λp=>decide (p.1≠d)
structure Mod (K:aa) (mg:Str->Option ah) (base:cr):Prop where
 kin:K.In base
 glob:base.Ns fh mg
 blt:∃mb,base.Ns wj mb/\∀x:Str,x≠"__name__"->mb x=jn x
 nolimit:base.NoLimit
structure Cx where
 prog:bb
 w:cb
 K:aa
 mg:Str->Option ah
 base:cr
 A:dj
 N:List Str
 s_0:ak
 H_0:Hp
 env:Env
 outer:List Env
 stack:List Env
 ex:List ag
 fn:Str->Bool
 calm:Bool
 pn:List (ag×Obj)
 xe:ah->ak->Prop
def frs (l:List Env):List ag:=l.filterMap (·.frame)
abbrev Cx.fs (X:Cx):List ag:=frs X.outer
def Vis (sc:jr) (x:Str):Prop:=sc.names.lookup x=some .local\/sc.names.lookup x=some .cell\/sc.names.lookup x=some .free
def Loc (sc:jr) (x:Str):Prop:=sc.names.lookup x=some .local\/sc.names.lookup x=some .cell
def tE (env:Env) (h:cr) (m:Str->Option ah) (x:Str) (u:ah):Prop:=
 (env.kindOf x=some .local/\m x=some u)\/((env.kindOf x=some .cell\/env.kindOf x=some .free)/\∃c,env.cells.lookup x=some c/\h.IsCell c (some u))
structure Cx.Ok (X:Cx):Prop where
 mod:Mod X.K X.mg X.base
 kind:X.env.scope.kind= .function
 glob:X.env.globals=fh
 blt:X.env.builtins=wj
 above:X.s_0.heap.objs.size<=X.env.locals
 inj:∀x y c,X.env.cells.lookup x=some c->X.env.cells.lookup y=some c->x=y
 has:∀x,(X.env.kindOf x=some .cell\/X.env.kindOf x=some .free)->∃c,X.env.cells.lookup x=some c
 cab:∀x c,X.fn x=true->X.env.cells.lookup x=some c->X.s_0.heap.objs.size<=c
 hd:X.calm=true->X.A.handled=none
 frames:X.A.frames=some X.stack
 stk:X.stack=X.outer\/(X.stack=X.env::X.outer/\X.env.frame=some X.env.locals)
 exf:∀b∈X.ex,b≠X.env.locals/\∀x c,X.env.cells.lookup x=some c->c≠b
 bs:∀b o,X.base.get? b=some o->X.s_0.heap.get? b=some o/\X.H_0 b=none
 bsz:X.base.objs.size<=X.s_0.heap.objs.size
 noex:∀b o,X.base.get? b=some o->b∉X.ex
 exfs:∀b∈X.ex,b∉X.fs
 funs:X.s_0.heap.FunFrames X.base X.outer
 frf:∀b∈X.fs,X.H_0 b=none
structure Inv (X:Cx) (Df:List (ag×Obj)) (σ:List (Option V)) (H:Hp) (s:ak):Prop where
 ok:X.Ok
 os:s.os=X.s_0.os
 bare:wk s.gens
 base:Un X.fs X.ex X.H_0 H X.s_0.heap s.heap
 loc:∃m,s.heap.Ns X.env.locals m/\∀(i:Nat) (x:Str) (v:V),X.N[i]? =some x->σ[i]? =some (some v)->Vis X.env.scope x->∃u,RelV v u/\tE X.env s.heap m x u
 cell:∀x c,X.env.cells.lookup x=some c->∃v,s.heap.IsCell c v
 free:H X.env.locals=none
 freeC:∀x c,X.env.cells.lookup x=some c->H c=none
 pin:∀p∈X.pn++Df,s.heap.get? p.1=some p.2/\H p.1=none/\p.1≠X.env.locals/\p.1∉X.fs/\∀v,p.2.data≠.cell v
 hok:HOk X.prog X.w H s.heap
 len:σ.length=X.N.length
section
variable {X:Cx} {Df:List (ag×Obj)} {σ:List (Option V)} {H H':Hp} {s:ak} {h':cr}
theorem Cx.Ok.nofr (ok:X.Ok) {b:ag} {o:Obj} (e:X.base.get? b=some o):b∉X.fs:=λhb=>by
 have:=(ok.funs.mem hb).1;rw[e] at this;cases this
theorem Inv.bs (I:Inv X Df σ H s):∀b o,X.base.get? b=some o->s.heap.get? b=some o/\H b=none:=λb o e=>
 ⟨I.base.keep b o (I.ok.bs b o e).1 (I.ok.bs b o e).2 (I.ok.nofr e) (I.ok.noex b o e),I.base.free b o (I.ok.bs b o e).1 (I.ok.bs b o e).2 (I.ok.noex b o e)⟩
theorem Inv.bk (I:Inv X Df σ H s):∀b o,X.base.get? b=some o->s.heap.get? b=some o:=λb o e=>(I.bs b o e).1
theorem Inv.mod (I:Inv X Df σ H s):Mod X.K X.mg X.base:=I.ok.mod
theorem Inv.kIn (I:Inv X Df σ H s):X.K.In s.heap:=I.ok.mod.kin.keeps I.bk
theorem Inv.nolimit (I:Inv X Df σ H s):s.heap.NoLimit:=I.ok.mod.nolimit.keeps I.bk
theorem Inv.fr (I:Inv X Df σ H s):∃m,Fr X.base X.env.locals s.heap m:=
 let ⟨m,hn,_⟩:=I.loc
 ⟨m,hn,I.bk,cu I.ok.bsz I.ok.above⟩
theorem Inv.lt (I:Inv X Df σ H s):X.env.locals<s.heap.objs.size:=let ⟨_,hn,_⟩:=I.loc;hn.lt
theorem Inv.sz (I:Inv X Df σ H s):X.s_0.heap.objs.size<=s.heap.objs.size:=cu I.ok.above (tm I.lt)
theorem Inv.nofs (I:Inv X Df σ H s) {a:ag} (h:s.heap.objs.size<=a):a∉X.fs:=λhb=>by
 obtain⟨_,o,ho,_⟩:=I.ok.funs.mem hb;exact absurd (bv (bg ho) (cu I.sz h)) (jf _)
theorem Inv.cne (I:Inv X Df σ H s):∀x c,X.env.cells.lookup x=some c->c≠X.env.locals:=λx c e z=>by
 obtain⟨v,o,ho,hd⟩:=I.cell x c e;obtain⟨m,⟨o',es,ep,ho',hd',_⟩,_⟩:=I.loc;rw[z,ho'] at ho;cases ho;rw[hd'] at hd;cases hd
theorem Inv.funs (I:Inv X Df σ H s):s.heap.FunFrames X.base X.outer:=by
 have all:∀(l:List Env),(∀b∈frs l,b∈X.fs)->X.s_0.heap.FunFrames X.base l->s.heap.FunFrames X.base l:=by
  intro l;induction l with
  |nil=>intro _ _;trivial
  |cons env r ih=>
   intro hs hl;obtain⟨hk,⟨L,o,hf,hn,ho,hd⟩,hr⟩:=hl;have hL:L∈X.fs:=hs L (by unfold frs;rw[uY,hf];exact bc);obtain⟨sl,e⟩:=I.base.slot L o ho (I.ok.frf L hL) hL λz=>I.ok.exfs L z hL;exact⟨hk,⟨L,_,hf,hn,e,hd⟩,ih (λb hb=>hs b (by unfold frs;rw[uY,hf];exact aq _ hb)) hr⟩
 exact all X.outer (λ_ hb=>hb) I.ok.funs
theorem Inv.stack (I:Inv X Df σ H s):s.heap.FunFrames X.base X.stack:=by
 rcases I.ok.stk with e|⟨e,hf⟩
 ·rw[e];exact I.funs
 ·rw[e];obtain⟨m,hn,_⟩:=I.loc;refine .cons (by rw[I.ok.kind];decide) hf hn ?_ I.funs;exact Heap.get?_none_of_le (cu I.ok.bsz I.ok.above)
theorem Inv.stkSub (I:Inv X Df σ H s):∀b∈frs X.stack,b∈X.env.locals::X.fs:=λb hb=>by
 rcases I.ok.stk with e|⟨e,hf⟩
 ·rw[e] at hb;exact aq _ hb
 ·rw[e] at hb;unfold frs at hb;rw[uY,hf] at hb;exact hb
theorem Inv.stkFree (I:Inv X Df σ H s):∀b∈frs X.stack,H b=none:=λb hb=>by
 rcases bq.mp (I.stkSub b hb) with e|hb
 ·rw[e];exact I.free
 ·obtain⟨_,o,ho,_⟩:=I.ok.funs.mem hb;exact I.base.free b o ho (I.ok.frf b hb) λz=>I.ok.exfs b z hb
theorem Inv.step {g':Array GenState} {t':Nat} {d':Drawn} {ch:List ag} (I:Inv X Df σ H s)
 (hch:∀b∈ch,(b∈X.ex\/X.s_0.heap.objs.size<=b)/\b≠X.env.locals/\(∀x c,X.env.cells.lookup x=some c->c≠b)/\∀p∈X.pn++Df,p.1≠b)
 (keep:∀b o,b≠X.env.locals->b∉X.fs->b∉ch->s.heap.get? b=some o->H b=none->h'.get? b=some o)
 (slot:∀b o,b≠X.env.locals->b∈X.fs->b∉ch->s.heap.get? b=some o->H b=none->∃sl,h'.get? b=some { o with slots:=sl }) (free:∀b o,b∉ch->s.heap.get? b=some o->H b=none->H' b=none)
 (there:∀b o,b∉ch->s.heap.get? b=some o->∃o',h'.get? b=some o')
 (tups:∀b xs,H b=some (.tup xs)->H' b=some (.tup xs)) (frzs:∀b o u,H b=some (.frz o u)->H' b=some (.frz o u)) (tbls:∀b ps,H b=some (.tbl ps)->∃more,H' b=some (.tbl (ps++more)))
 (ns:∀m,s.heap.Ns X.env.locals m->h'.Ns X.env.locals m) (hok:HOk X.prog X.w H' h') (hg:wk g'):
 Inv X Df σ H' { s with heap:=h',gens:=g',drawn:=d',toks:=t' }:=by
 have neL:∀b o,X.s_0.heap.get? b=some o->b≠X.env.locals:=λb o e=>cp (bv (bg e) I.ok.above);have neC:∀b o,X.s_0.heap.get? b=some o->b∉X.ex->b∉ch:=λb o e hx hb=>by
  rcases(hch b hb).1 with z|z
  ·exact hx z
  ·exact absurd (bv (bg e) z) (jf _)
 have cellK:∀x c,X.env.cells.lookup x=some c->∀v,s.heap.IsCell c v->h'.IsCell c v:=λx c e v ⟨o,ho,hd⟩=>by
  have nch:c∉ch:=λz=>(hch c z).2.2.1 x c e rfl;by_cases hc:c∈X.fs
  ·obtain⟨sl,q⟩:=slot c o (I.cne x c e) hc nch ho (I.freeC x c e);exact⟨_,q,hd⟩
  ·exact⟨o,keep c o (I.cne x c e) hc nch ho (I.freeC x c e),hd⟩
 refine⟨I.ok,I.os,hg,⟨λb o e n hb hx=>?_,λb o e n hb hx=>?_,λb o e n hx=>?_,λb o e hx=>?_,λb xs e=>tups b xs (I.base.tups b xs e),λb o xs e=>frzs b o xs (I.base.frzs b o xs e),λb ps e=>?_⟩,?_,λx c e=>?_,?_,λx c e=>?_,λp hp=>?_,hok,I.len⟩
 ·exact keep b o (neL b o e) hb (neC b o e hx) (I.base.keep b o e n hb hx) (I.base.free b o e n hx)
 ·obtain⟨sl,e1⟩:=I.base.slot b o e n hb hx;obtain⟨sl',e2⟩:=slot b _ (neL b o e) hb (neC b o e hx) e1 (I.base.free b o e n hx);exact⟨sl',e2⟩
 ·obtain⟨o',e1⟩:=I.base.there b o e hx;exact free b o' (neC b o e hx) e1 (I.base.free b o e n hx)
 ·obtain⟨o',e1⟩:=I.base.there b o e hx;exact there b o' (neC b o e hx) e1
 ·obtain⟨m1,e1⟩:=I.base.tbls b ps e;obtain⟨m2,e2⟩:=tbls b _ e1;exact⟨m1++m2,by rw[e2,xW]⟩
 ·obtain⟨m,hn,hl⟩:=I.loc;refine⟨m,ns m hn,λi x v e1 e2 e3=>?_⟩;obtain⟨u,r,l⟩:=hl i x v e1 e2 e3;refine⟨u,r,?_⟩;rcases l with l|⟨k,c,e,z⟩
  ·exact .inl l
  ·exact .inr ⟨k,c,e,cellK x c e _ z⟩
 ·obtain⟨v,z⟩:=I.cell x c e;exact⟨v,cellK x c e v z⟩
 ·obtain⟨m,⟨o,_,_,ho,_⟩,_⟩:=I.loc;exact free _ o (λz=>(hch _ z).2.1 rfl) ho I.free
 ·obtain⟨v,o,ho,hd⟩:=I.cell x c e;exact free c o (λz=>(hch c z).2.2.1 x c e rfl) ho (I.freeC x c e)
 ·obtain⟨e,n,ne,nf,d⟩:=I.pin p hp;have nch:p.1∉ch:=λz=>(hch p.1 z).2.2.2 p hp rfl;exact⟨keep p.1 p.2 ne nf nch e n,free p.1 p.2 nch e n,ne,nf,d⟩
theorem Inv.un {t':Nat} (I:Inv X Df σ H s) (u:Un X.fs [] H H' s.heap h') (hok:HOk X.prog X.w H' h'):Inv X Df σ H' { s with heap:=h',toks:=t' }:=by
 obtain⟨m,⟨o,es,ep,ho,r⟩,_⟩:=id I.loc;obtain⟨sl,hL⟩:=u.any ho I.free (by simp);exact I.step (g':=s.gens) (d':=s.drawn) (ch:=[]) (λ_ z=>nomatch z) (λb o _ hb _ e n=>u.keep b o e n hb (by simp)) (λb o _ hb _ e n=>u.slot b o e n hb (by simp)) (λb o _ e n=>u.free b o e n (by simp)) (λb o _ e=>u.there b o e (by simp)) u.tups u.frzs u.tbls (λm' hm=>by
  obtain⟨o',es',ep',ho',r'⟩:=hm;rw[ho] at ho';cases ho';exact⟨_,es',ep',hL,r'⟩) hok I.bare
theorem Inv.call {g':Array GenState} {t':Nat} {d':Drawn} {ch:List ag} (I:Inv X Df σ H s) (u:Un (frs X.stack) ch H H' s.heap h') (hok:HOk X.prog X.w H' h') (hg:wk g')
 (hch:∀b∈ch,(b∈X.ex\/X.s_0.heap.objs.size<=b)/\b≠X.env.locals/\(∀x c,X.env.cells.lookup x=some c->c≠b)/\∀p∈X.pn++Df,p.1≠b):
 Inv X Df σ H' { s with heap:=h',gens:=g',drawn:=d',toks:=t' }:=by
 obtain⟨m,⟨o,es,ep,ho,r⟩,_⟩:=id I.loc;obtain⟨sl,hL⟩:=u.any ho I.free λz=>(hch _ z).2.1 rfl;exact I.step (ch:=ch) hch (λb o hL hb hc e n=>u.keep b o e n (λz=>(bq.mp (I.stkSub b z)).elim hL hb) hc) (λb o _ _ hc e n=>u.any e n hc) (λb o hc e n=>u.free b o e n hc) (λb o hc e=>u.there b o e hc) u.tups u.frzs u.tbls (λm' hm=>by
  obtain⟨o',es',ep',ho',r'⟩:=hm;rw[ho] at ho';cases ho';exact⟨_,es',ep',hL,r'⟩) hok hg
theorem Inv.turned {t':Nat} {it:ag} (I:Inv X Df σ H s) (k:∀b o,b≠it->s.heap.get? b=some o->h'.get? b=some o) (hn:H it=none) (hL:it≠X.env.locals)
 (h1:it∈X.ex\/X.s_0.heap.objs.size<=it) (h2:∀x c,X.env.cells.lookup x=some c->c≠it) (h3:∀p∈X.pn++Df,p.1≠it):Inv X Df σ H { s with heap:=h',toks:=t' }:=by
 have nit:∀b u,H b=some u->b≠it:=λb u e z=>by rw[z,hn] at e;cases e
 refine I.step (g':=s.gens) (d':=s.drawn) (ch:=[it]) (λb hb=>?_) (λb o _ _ hc e _=>k b o (λz=>hc (by simp[z])) e) (λb o _ _ hc e _=>⟨o.slots,k b o (λz=>hc (by simp[z])) e⟩) (λ_ _ _ _ n=>n)
  (λb o hc e=>⟨o,k b o (λz=>hc (by simp[z])) e⟩) (λ_ _ e=>e) (λ_ _ _ e=>e) (λb ps e=>⟨#[],by rw[e];simp⟩) (λm hm=>?_) (λb u e=>?_) I.bare
 ·have e:b=it:=by simpa using hb
  subst e;exact⟨h1,hL,h2,h3⟩
 ·obtain⟨o,es,ep,ho,r⟩:=hm;exact⟨o,es,ep,k _ o (cw hL) ho,r⟩
 ·refine(I.hok b u e).stay (λc v hc q=>k c v ?_ q) (λ_ q=>q) λ_ _ q=>q;rcases hc with z|z
  ·rw[z];exact nit b u e
  ·exact nit c _ z
theorem Inv.tok (I:Inv X Df σ H s) (t:Nat):Inv X Df σ H { s with toks:=t }:=I.un (h':=s.heap) (t':=t) Un.refl I.hok
theorem Inv.kept {t':Nat} (I:Inv X Df σ H s) (k:∀b u,s.heap.get? b=some u->h'.get? b=some u):Inv X Df σ H { s with heap:=h',toks:=t' }:=I.un (Un.kept k) (I.hok.kept k)
theorem Inv.laid {a:ag} {o:HO} {t':Nat} (I:Inv X Df σ H s) (k:∀b u,s.heap.get? b=some u->h'.get? b=some u) (hp:s.heap.objs.size<=a) (new:ObjOk X.prog X.w (upd H a o) h' a o):
 Inv X Df σ (upd H a o) { s with heap:=h',toks:=t' }:=I.un (Un.laid k hp (I.hok.fresh hp)) (I.hok.laid k hp new)
theorem Inv.write {x e:ag} {o:HO} {t':Nat} (I:Inv X Df σ H s) (mu:Mut (H x)) (he:e=x\/H e=some (.own x)) (k:∀b u,b≠e->s.heap.get? b=some u->h'.get? b=some u) (heo:∃u,h'.get? e=some u)
 (new:ObjOk X.prog X.w (upd H x o) h' x o):Inv X Df σ (upd H x o) { s with heap:=h',toks:=t' }:=I.un (Un.write mu he k heo) (I.hok.write mu he k heo new)
theorem Inv.weak {σ':List (Option V)} (I:Inv X Df σ H s) (hl:σ'.length=σ.length) (w:∀(i:Nat) v,σ'[i]? =some (some v)->σ[i]? =some (some v)):Inv X Df σ' H s:=
 ⟨I.ok,I.os,I.bare,I.base,let ⟨m,hn,hl'⟩:=I.loc;⟨m,hn,λi x v e1 e2 e3=>hl' i x v e1 (w i v e2) e3⟩,I.cell,I.free,I.freeC,I.pin,I.hok,hl.trans I.len⟩
theorem Inv.pins_of {pins':List (ag×Obj)} (I:Inv X Df σ H s) (h:∀p∈pins',s.heap.get? p.1=some p.2/\H p.1=none/\p.1≠X.env.locals/\p.1∉X.fs/\∀v,p.2.data≠.cell v):Inv X pins' σ H s:=
 ⟨I.ok,I.os,I.bare,I.base,I.loc,I.cell,I.free,I.freeC,λp hp=>(bu.mp hp).elim (λz=>I.pin p (uJ _ z)) (h p),I.hok,I.len⟩
theorem MX {N:List Str} (hN:N.Nodup) {i j:Nat} {x:Str} (a:N[i]? =some x) (b:N[j]? =some x):i=j:=by
 obtain⟨h1,e1⟩:=az.mp a;obtain⟨h2,e2⟩:=az.mp b;exact(vZ hN).mp (e1.trans e2.symm)
theorem OQ {M:yW} {A:dj} {E:ah->ak->Prop} {i:Nat} {x:Str} {v:V} {u:ah} {Q:Unit->ak->Prop} (I:Inv X Df σ H s) (hN:X.N.Nodup) (hi:X.N[i]? =some x) (hx:Loc X.env.scope x) (r:RelV v u)
 (h:∀s',Inv X Df (σ.set i (some v)) H s'->(∃a,ql a s.heap s'.heap/\(a=X.env.locals\/X.env.cells.lookup x=some a))->Q () s') (hf:X.fn x=true\/X.env.scope.names.lookup x=some .local:=by first|exact .inl rfl|exact .inr rfl|assumption):bi M A (Bf X.env x u) Q E s:=by
 obtain⟨m,hn,hl⟩:=id I.loc;have hcls:(X.env.scope.kind==.class||(X.env.scope.kind==.module&&X.env.locals != X.env.globals))=false:=by rw[I.ok.kind];rfl
 have hiσ:i<σ.length:=by rw[I.len];exact(az.mp hi).1
 have cne:=I.cne;have tracked:∀{a:ag} {h':cr},(∃o,s.heap.get? a=some o/\H a=none)->ql a s.heap h'->HOk X.prog X.w H h':=λ{a h'} ha hs b ob e=>by
  obtain⟨_,_,hfree⟩:=ha;refine(I.hok b ob e).stay (λc w' hc q=>(hs.2 c ?_).trans q) (λ_ q=>q) λ_ _ q=>q;rintro rfl;rcases hc with rfl|hc
  ·rw[hfree] at e;cases e
  ·rw[hfree] at hc;cases hc
 rcases hx with hk|hk
 ·refine wpAny_storeName_local hk hn (λh' hn' hs=>?_) hcls;obtain⟨oL,_,_,hoL,_⟩:=id hn;refine h _ ⟨I.ok,I.os,I.bare,⟨λb o e n hb hx=>?_,λb o e n hb hx=>?_,I.base.free,λb o e hx=>?_,I.base.tups,I.base.frzs,I.base.tbls⟩,⟨_,hn',λj y v' e1 e2 e3=>?_⟩,λy c e=>?_,I.free,I.freeC,λp hp=>?_,tracked ⟨oL,hoL,I.free⟩ hs,by simpa using I.len⟩ ⟨_,hs,.inl rfl⟩
  ·exact(hs.2 b (cp (bv (bg e) I.ok.above))).trans (I.base.keep b o e n hb hx)
  ·obtain⟨sl,e1⟩:=I.base.slot b o e n hb hx;exact⟨sl,(hs.2 b (cp (bv (bg e) I.ok.above))).trans e1⟩
  ·obtain⟨o',e1⟩:=I.base.there b o e hx;exact⟨o',(hs.2 b (cp (bv (bg e) I.ok.above))).trans e1⟩
  ·by_cases hj:j=i
   ·subst hj;rw[hi] at e1;cases e1;rw[oj hiσ] at e2;cases e2;exact⟨u,r,.inl ⟨hk,by simp⟩⟩
   ·rw[uK (cw hj)] at e2;obtain⟨u',r',q⟩:=hl j y v' e1 e2 e3;refine⟨u',r',?_⟩;rcases q with⟨k,e⟩|⟨k,c,e,z⟩
    ·refine .inl ⟨k,?_⟩;have:y≠x:=λe=>hj (MX hN e1 (e▸hi));simp[this,e]
    ·exact .inr ⟨k,c,e,z.sameBut hs (cne y c e)⟩
  ·obtain⟨w',z⟩:=I.cell y c e;exact⟨w',z.sameBut hs (cne y c e)⟩
  ·obtain⟨e,n,ne,nf,d⟩:=I.pin p hp;exact⟨(hs.2 p.1 ne).trans e,n,ne,nf,d⟩
 ·have hfn:X.fn x=true:=by
   rcases hf with z|z
   ·exact z
   ·rw[z] at hk;cases hk
  obtain⟨c,hc⟩:=I.ok.has x (.inl hk);obtain⟨w',z⟩:=I.cell x c hc;refine wpAny_storeName_cell I.ok.kind hk hc z (λh' hc' hs=>?_);obtain⟨oc,hoc,hocd⟩:=id z;refine h { s with heap:=h' } ⟨I.ok,I.os,I.bare,⟨λb o e n hb hx=>?_,λb o e n hb hx=>?_,I.base.free,λb o e hx=>?_,I.base.tups,I.base.frzs,I.base.tbls⟩,⟨m,hn.sameBut hs (cw (cne x c hc)),λj y v' e1 e2 e3=>?_⟩,λy c' e=>?_,I.free,I.freeC,λp hp=>?_,tracked ⟨oc,hoc,I.freeC x c hc⟩ hs,by simpa using I.len⟩ ⟨c,hs,.inr hc⟩
  ·exact(hs.2 b (cp (bv (bg e) (I.ok.cab x c hfn hc)))).trans (I.base.keep b o e n hb hx)
  ·obtain⟨sl,e1⟩:=I.base.slot b o e n hb hx;exact⟨sl,(hs.2 b (cp (bv (bg e) (I.ok.cab x c hfn hc)))).trans e1⟩
  ·obtain⟨o',e1⟩:=I.base.there b o e hx;exact⟨o',(hs.2 b (cp (bv (bg e) (I.ok.cab x c hfn hc)))).trans e1⟩
  ·by_cases hj:j=i
   ·subst hj;rw[hi] at e1;cases e1;rw[oj hiσ] at e2;cases e2;exact⟨u,r,.inr ⟨.inl hk,c,hc,hc'⟩⟩
   ·rw[uK (cw hj)] at e2;obtain⟨u',r',q⟩:=hl j y v' e1 e2 e3;refine⟨u',r',?_⟩;rcases q with q|⟨k,c',e,z'⟩
    ·exact .inl q
    ·refine .inr ⟨k,c',e,z'.sameBut hs ?_⟩;rintro rfl;exact hj (MX hN e1 (I.ok.inj _ _ _ e hc▸hi))
  ·by_cases hcc:c'=c
   ·subst hcc;exact⟨_,hc'⟩
   ·obtain⟨w2,z2⟩:=I.cell y c' e;exact⟨w2,z2.sameBut hs hcc⟩
  ·obtain⟨e,n,ne,nf,d⟩:=I.pin p hp;refine⟨(hs.2 p.1 ?_).trans e,n,ne,nf,d⟩;intro q;rw[q,hoc] at e;have q':oc=p.2:=cz e;exact d w' (by rw[←q'];exact hocd)
theorem JL {M:yW} {A:dj} {E:ah->ak->Prop} {i:Nat} {x:Str} {v:V} {u:ah} {Q:Unit->ak->Prop} (I:Inv X Df σ H s) (hN:X.N.Nodup) (hi:X.N[i]? =some x) (hx:Loc X.env.scope x) (r:RelV v u)
 (h:∀s',Inv X Df (σ.set i (some v)) H s'->Q () s') (hf:X.fn x=true\/X.env.scope.names.lookup x=some .local:=by first|exact .inl rfl|exact .inr rfl|assumption):bi M A (Bf X.env x u) Q E s:=
 OQ I hN hi hx r (λs' I' _=>h s' I') hf
theorem Inv.call' {s':ak} {ch:List ag} (I:Inv X Df σ H s) (ho:s'.os=s.os) (u:Un (frs X.stack) ch H H' s.heap s'.heap) (hok:HOk X.prog X.w H' s'.heap) (hg:wk s'.gens)
 (hch:∀b∈ch,(b∈X.ex\/X.s_0.heap.objs.size<=b)/\b≠X.env.locals/\(∀x c,X.env.cells.lookup x=some c->c≠b)/\∀p∈X.pn++Df,p.1≠b):Inv X Df σ H' s':=by
 obtain⟨h',g',d',t',o'⟩:=s';have e:o'=s.os:=ho;subst e;exact I.call (g':=g') (t':=t') (d':=d') u hok hg hch
end
abbrev XK:=ah->Option ag->Hp->Prop
abbrev St:=List (Option V)
abbrev VK:=V->Hp->Prop
abbrev TE:=St->Hp->VK->Prop
abbrev TT:=St->Hp->(Bool->Hp->Prop)->Prop
abbrev TA:=St->Hp->(List V->Hp->Prop)->Prop
structure Ends where
 nx:St->Hp->Prop
 rt:VK
 bk:St->Hp->Prop:=λ_ _=>False
 ct:St->Hp->Prop:=λ_ _=>False
abbrev TS:=Ends->St->Hp->Prop
def EP (X:Cx) (Df:List (ag×Obj)) (σ:St) (Q:VK) (u:ah) (s':ak):Prop:=Ex2 λv H'=>Inv X Df σ H' s'/\RelV v u/\Q v H'
def TP (X:Cx) (Df:List (ag×Obj)) (σ:St) (Q:Bool->Hp->Prop) (b:Bool) (s':ak):Prop:=∃H',Inv X Df σ H' s'/\Q b H'
def AP (X:Cx) (Df:List (ag×Obj)) (σ:St) (Q:List V->Hp->Prop) (us:List ah) (s':ak):Prop:=Ex2 λvs H'=>Inv X Df σ H' s'/\Vals vs us/\Q vs H'
def SP (X:Cx) (Df:List (ag×Obj)) (D:Ends) (f:Flow) (s':ak):Prop:=
 match f with
 | .next=>Ex2 λσ' H'=>Inv X Df σ' H' s'/\D.nx σ' H'
 | .brk=>Ex2 λσ' H'=>Inv X Df σ' H' s'/\D.bk σ' H'
 | .cont=>Ex2 λσ' H'=>Inv X Df σ' H' s'/\D.ct σ' H'
 | .ret u=>Ex3 λv σ' H'=>Inv X Df σ' H' s'/\RelV v u/\D.rt v H'
def PE (X:Cx) (e:Expr) (t:TE):Prop:=
 ∀(Df:List (ag×Obj)) (s:ak) (σ:St) (H:Hp) (Q:VK),Inv X Df σ H s->t σ H Q->bi (bo X.prog X.w) X.A (eval e X.env) (EP X Df σ Q) X.xe s
def PT (X:Cx) (e:Expr) (t:TT):Prop:=
 ∀(Df:List (ag×Obj)) (s:ak) (σ:St) (H:Hp) (Q:Bool->Hp->Prop),Inv X Df σ H s->t σ H Q->bi (bo X.prog X.w) X.A (yz e X.env (eval e X.env)) (TP X Df σ Q) X.xe s
def PW (X:Cx) (e:Expr) (t:TT):Prop:=
 ∀(whole:Sem ah) (Df:List (ag×Obj)) (s:ak) (σ:St) (H:Hp) (Q:Bool->Hp->Prop),Inv X Df σ H s->t σ H Q->bi (bo X.prog X.w) X.A (yz e X.env whole) (TP X Df σ Q) X.xe s
theorem PW.pt {X:Cx} {e:Expr} {t:TT} (h:PW X e t):PT X e t:=h _
def PA (X:Cx) (es:List Expr) (t:TA):Prop:=
 ∀(pos:Pos) (Df:List (ag×Obj)) (s:ak) (σ:St) (H:Hp) (Q:List V->Hp->Prop),Inv X Df σ H s->t σ H Q->bi (bo X.prog X.w) X.A (Bl (ie pos (be es X.env))) (AP X Df σ Q) X.xe s
def PS (X:Cx) (st:dm) (t:TS):Prop:=
 ∀(Df:List (ag×Obj)) (s:ak) (σ:St) (H:Hp) (D:Ends),Inv X Df σ H s->t D σ H->bi (bo X.prog X.w) X.A (exec st X.env) (SP X Df D) X.xe s
def PSs (X:Cx) (st:List dm) (t:TS):Prop:=
 ∀(Df:List (ag×Obj)) (s:ak) (σ:St) (H:Hp) (D:Ends),Inv X Df σ H s->t D σ H->bi (bo X.prog X.w) X.A (execs st X.env) (SP X Df D) X.xe s
theorem thn {α:Type} {t:Sem α} {Q Q':α->ak->Prop} {M:yW} {A:dj} {E:ah->ak->Prop} {s:ak} (h:bi M A t Q E s) (hQ:∀a s,Q a s->Q' a s):bi M A t Q' E s:=ig h hQ λ_ _ x=>x
section
variable {X:Cx}
theorem bin {a b:Expr} {ta tb:TE} (ha:PE X a ta) (hb:PE X b tb) {Df:List (ag×Obj)} {s:ak} {σ:St} {H:Hp} {R:V->V->Hp->Prop} (I:Inv X Df σ H s) (h:ta σ H λx H1=>tb σ H1 λy H2=>R x y H2)
 {α:Type} {Q:α->ak->Prop} {f:ah->ah->Sem α}
 (hf:∀v u s2 x y H2,Inv X Df σ H2 s2->RelV x v->RelV y u->R x y H2->bi (bo X.prog X.w) X.A (f v u) Q X.xe s2):
 bi (bo X.prog X.w) X.A (eval a X.env) (λv s₁=>bi (bo X.prog X.w) X.A (eval b X.env) (λu s₂=>bi (bo X.prog X.w) X.A (f v u) Q X.xe s₂) X.xe s₁) X.xe s:=by
 refine thn (ha Df s σ H _ I h) λv s1 ⟨x,H1,I1,r1,q1⟩=>?_;refine thn (hb Df s1 σ H1 _ I1 q1) λu s2 ⟨y,H2,I2,r2,q2⟩=>?_;exact hf v u s2 x y H2 I2 r1 r2 q2
inductive VarAt (o:Option (Option V)) (Q:V->Prop):Prop
 |intro(v:V) (e:o=some (some v)) (h:Q v):VarAt o Q
inductive BlAt (x:V) (Q:Bool->Prop):Prop
 |intro(c:Bool) (e:x= .bl c) (h:Q c):BlAt x Q
inductive I1At (x:V) (Q:Int->Prop):Prop
 |intro(i:Int) (e:x= .int i) (h:Q i):I1At x Q
inductive I2At (x y:V) (Q:Int->Int->Prop):Prop
 |intro(i j:Int) (e:x= .int i) (e':y= .int j) (h:Q i j):I2At x y Q
def BP (i:Nat):TE:=λσ H Q=>VarAt σ[i]? λv=>Q v H
def tC (v:V):TE:=λ_ H Q=>Q v H
theorem iO {i:Nat} {x:Str} {pos:Pos} (hN:X.N[i]? =some x) (hv:Vis X.env.scope x) (hd:(x==("__debug__":Str))=false:=by decide) (hcd:(x==("__classdict__":Str))=false:=by decide):PE X (.Name x pos) (BP i):=by
 intro Df s σ H Q I h;obtain⟨v,e,h⟩:=h;obtain⟨m,hn,hl⟩:=I.loc;obtain⟨u,r,l⟩:=hl i x v hN e hv;have fin:EP X Df σ Q u s:=⟨v,H,I,r,h⟩
 rcases l with⟨hk,hm⟩|⟨hk,c,hc,hcell⟩
 ·exact zu (wT I.ok.kind hk hn hm fin) hd
 ·rcases hk with hk|hk
  ·exact zu (xA I.ok.kind hk hc hcell fin) hd
  ·exact zu (wpAny_loadName_free I.ok.kind hk hc hcell fin hcd) hd
theorem AI {i j pos}:PE X (.Constant (.int i) j pos) (tC (.int i)):=λ_ _ _ H _ I h=>wpAny_Constant_int ⟨.int i,H,I.tok _,⟨_,rfl⟩,h⟩
theorem G2 {b j pos}:PE X (.Constant (.bool b) j pos) (tC (.bl b)):=λ_ _ _ H _ I h=>Constant_bool ⟨.bl b,H,I,rfl,h⟩
theorem TW {j pos}:PE X (.Constant .none j pos) (tC .non):=λ_ _ _ H _ I h=>Constant_none ⟨.non,H,I,rfl,h⟩
theorem AV {x j pos}:PE X (.Constant (.str x) j pos) (tC (.str x)):=λ_ _ _ H _ I h=>Calls.Constant_str ⟨.str x,H,I.tok _,⟨_,rfl⟩,h⟩
def Gl (X:Cx) (x:Str):Prop:=X.env.kindOf x=some .globalImplicit
theorem E0 {E:ah->ak->Prop} {Df:List (ag×Obj)} {s:ak} {σ:St} {H:Hp} {x:Str} {u:ah} {pos:Pos} {Q:ah->ak->Prop} (I:Inv X Df σ H s) (hg:Gl X x) (hm:X.mg x=some u) (h:Q u s)
 (hd:(x==("__debug__":Str))=false:=by decide):bi (bo X.prog X.w) X.A (eval (.Name x pos) X.env) Q E s:=
 ve I.ok.kind hg (Calls.loadGlobal_global (by rw[I.ok.glob];exact I.mod.glob.keeps I.bk) hm h) hd
theorem D9 {E:ah->ak->Prop} {Df:List (ag×Obj)} {s:ak} {σ:St} {H:Hp} {x:Str} {u:ah} {pos:Pos} {Q:ah->ak->Prop} (I:Inv X Df σ H s) (hg:Gl X x) (hm:X.mg x=none) (hv:jn x=some u) (h:Q u s)
 (hn:x≠"__name__":=by decide) (hd:(x==("__debug__":Str))=false:=by decide):bi (bo X.prog X.w) X.A (eval (.Name x pos) X.env) Q E s:=by
 obtain⟨mb,h1,h2⟩:=I.mod.blt;exact ve I.ok.kind hg (Calls.loadGlobal_builtin (by rw[I.ok.glob];exact I.mod.glob.keeps I.bk) hm (by rw[I.ok.blt];exact h1.keeps I.bk) ((h2 x hn).trans hv) h) hd
theorem P7 {x:Str} {v:V} {u:ah} {pos:Pos} (hg:Gl X x) (hm:X.mg x=some u) (r:RelV v u) (hd:(x==("__debug__":Str))=false:=by decide):PE X (.Name x pos) (tC v):=
 λ_ _ _ H _ I h=>E0 I hg hm ⟨v,H,I,r,h⟩ hd
variable {a b:Expr} {ta tb:TE} {pos:Pos}
def PC (X:Cx) (op:Bg) (a b:Expr) (t:TE):Prop:=
 ∀(Df:List (ag×Obj)) (s:ak) (σ:St) (H:Hp) (Q:VK),Inv X Df σ H s->t σ H Q->
  bi (bo X.prog X.w) X.A (eval a X.env) (λv s₁=>bi (bo X.prog X.w) X.A (eval b X.env) (λu s₂=>bi (bo X.prog X.w) X.A (kj op v u) (EP X Df σ Q) X.xe s₂) X.xe s₁) X.xe s
theorem ZF (b:Expr) {op:Bg} (h:op≠.In) (h2:op≠.NotIn):ph op b=false:=by
 have e1:(op==De)=false:=by cases op<;>first|rfl|exact absurd rfl h
 have e2:(op==Ca)=false:=by cases op<;>first|rfl|exact absurd rfl h2
 cases b<;>simp[ph,e1,e2]
def tB (t:TE):TT:=λσ H Q=>t σ H λx H1=>BlAt x λc=>Q c H1
theorem ZG {op:Bg} {t:TE} (h:PC X op a b t) (h1:ph op b=false:=by first|exact ZF _ (by decide) (by decide)|rfl):PT X (.Compare a [op] [b] pos) (tB t):=by
 intro Df s σ H Q I hw;refine wJ (thn (h Df s σ H _ I hw) λv s1 h1=>thn h1 λu s2 h2=>thn h2 λc s3 ⟨x,H1,I1,r1,q1⟩=>?_) h1;obtain⟨d,rfl,q⟩:=q1;cases r1;exact qb ⟨H1,I1,q⟩
theorem CS {e:Expr} {t:TE} (h:PE X e t) (he:∀whole,yz e X.env whole=(do let v←whole;nq e.pos;mj [v] (truthy v)):=by intro _;rfl):PT X e (tB t):=by
 intro Df s σ H Q I hw;refine isTrue_plain (thn (h Df s σ H _ I hw) λv s1 ⟨x,H1,I1,r1,q1⟩=>?_) (he _);obtain⟨d,rfl,q⟩:=q1;cases r1;exact qb ⟨H1,I1,q⟩
variable {tA tB':TT} {Dg:List Expr}
def dQ (t u:TT):TT:=λσ H Q=>t σ H λc H1=>if c=true then u σ H1 Q else Q false H1
def tOr (t u:TT):TT:=λσ H Q=>t σ H λc H1=>if c=true then Q true H1 else u σ H1 Q
def mO (t:TT):TT:=λσ H Q=>t σ H λc H1=>Q (!c) H1
theorem E1 (ha:PT X a tA):PW X (.BoolOp .And [a] pos) tA:=by
 intro wh Df s σ H Q I h;refine isTrue_and (thn (ha Df s σ H Q I h) λc s1 e=>?_);cases c with
 |true=>exact isTrue_and_nil e
 |false=>exact e
theorem KF (ha:PT X a tA):PW X (.BoolOp .Or [a] pos) tA:=by
 intro wh Df s σ H Q I h;refine isTrue_or (thn (ha Df s σ H Q I h) λc s1 e=>?_);cases c with
 |false=>exact isTrue_or_nil e
 |true=>exact e
theorem GO (ha:PT X a tA) (hb:PW X (.BoolOp .And (b::Dg) pos) tB'):PW X (.BoolOp .And (a::b::Dg) pos) (dQ tA tB'):=by
 intro wh Df s σ H Q I h;refine isTrue_and (thn (ha Df s σ H _ I h) λc s1 ⟨H1,I1,q1⟩=>?_);cases c with
 |true=>exact hb wh Df s1 σ H1 Q I1 q1
 |false=>exact⟨H1,I1,q1⟩
theorem OR (ha:PT X a tA) (hb:PW X (.BoolOp .Or (b::Dg) pos) tB'):PW X (.BoolOp .Or (a::b::Dg) pos) (tOr tA tB'):=by
 intro wh Df s σ H Q I h;refine isTrue_or (thn (ha Df s σ H _ I h) λc s1 ⟨H1,I1,q1⟩=>?_);cases c with
 |true=>exact⟨H1,I1,q1⟩
 |false=>exact hb wh Df s1 σ H1 Q I1 q1
theorem DT (ha:PT X a tA):PT X (.UnaryOp .Not a pos) (mO tA):=by
 intro Df s σ H Q I h;exact isTrue_not (ha Df s σ H (λc H1=>Q (!c) H1) I h)
def mP (ta tb:TE):TE:=λσ H Q=>ta σ H λx H1=>BlAt x λc=>if c=true then tb σ H1 Q else Q (.bl false) H1
theorem TX {op} {t:TE} (h:PE X a t):PE X (.BoolOp op [a] pos) t:=λDf s σ H Q I hw=>BoolOp_one (h Df s σ H Q I hw)
theorem TY (ha:PE X a ta) (hb:PE X (.BoolOp .And (b::Dg) pos) tb):PE X (.BoolOp .And (a::b::Dg) pos) (mP ta tb):=by
 intro Df s σ H Q I h;refine BoolOp_and (thn (ha Df s σ H _ I h) λv s1 ⟨x,H1,I1,r1,q1⟩=>?_);obtain⟨c,rfl,q1⟩:=q1;cases r1;refine qb ?_;cases c with
 |true=>exact hb Df s1 σ H1 Q I1 q1
 |false=>exact⟨.bl false,H1,I1,rfl,q1⟩
def tIf (t:TT) (ta tb:TE):TE:=λσ H Q=>t σ H λc H1=>if c=true then ta σ H1 Q else tb σ H1 Q
theorem RM {c:Expr} (hc:PT X c tA) (ha:PE X a ta) (hb:PE X b tb):PE X (.IfExp c a b pos) (tIf tA ta tb):=by
 intro Df s σ H Q I h;refine wpAny_IfExp (thn (hc Df s σ H _ I h) λd s1 ⟨H1,I1,q1⟩=>?_);cases d with
 |true=>exact ha Df s1 σ H1 Q I1 q1
 |false=>exact hb Df s1 σ H1 Q I1 q1
end
def SqL (K:aa) (H:Hp) (a:ag) (xs:List V):Prop:=
 Rd H a (.lst xs)\/
  Ex3 λ(o:Obj) (Di:Array ah) (n:Nat)=>K.lookup a=some o/\o.cls= .type "list"/\o.dict=none/\o.data= .seq Di n/\Di.size<=sizeLine/\Vals xs Di.toList
def SqT (K:aa) (H:Hp) (a:ag) (xs:List V):Prop:=
 Rd H a (.tup xs)\/
  Ex3 λ(o:Obj) (Di:Array ah) (n:Nat)=>K.lookup a=some o/\o.cls= .type "tuple"/\o.data= .seq Di n/\Di.size<=sizeLine/\Vals xs Di.toList
def tF:ah->Option V
 | .none=>some .non
 | .bool b=>some (.bl b)
 | .int i _=>some (.int i)
 | .str x _=>some (.str x)
 | .bytes b _=>some (.byt b)
 | .float b _=>some (.flt b)
 | .ref a=>some (.ref a)
 | .type n=>some (.ty n)
 |_=>none
theorem RelV.abs {x:V} {u:ah} (r:RelV x u):tF u=some x:=by
 cases x with
 |non=>cases r;rfl
 |bl _=>cases r;rfl
 |int _=>obtain⟨t,rfl⟩:=r;rfl
 |str _=>obtain⟨t,rfl⟩:=r;rfl
 |byt _=>obtain⟨t,rfl⟩:=r;rfl
 |flt _=>obtain⟨t,rfl⟩:=r;rfl
 |ref _=>cases r;rfl
 |ty _=>cases r;rfl
theorem RelV.inj {x y:V} {u:ah} (r:RelV x u) (q:RelV y u):x=y:=cz (r.abs.symm.trans q.abs)
theorem Vals.inj:∀{xs ys:List V} {us:List ah},Vals xs us->Vals ys us->xs=ys
 |_,_,_,.nil,.nil=>rfl
 |_,_,_,.cons r t,.cons r' t'=>by rw[r.inj r',Vals.inj t t']
section
variable {X:Cx} {Df:List (ag×Obj)} {σ:St} {H:Hp} {s:ak} {a:ag} {xs ys:List V}
theorem SqL.of {K:aa} (h:H a=some (.lst xs)):SqL K H a xs:=.inl (.inl h)
theorem SqT.of {K:aa} (h:H a=some (.tup xs)):SqT K H a xs:=.inl (.inl h)
theorem Inv.list (I:Inv X Df σ H s) (h:SqL X.K H a xs):∃Di:List ah,Vals xs Di/\PlainL s.heap a Di.toArray/\xs.length<=sizeLine:=by
 rcases h with h|⟨o,Di,n,hk,hc,hd,hs,hz,r⟩
 ·obtain⟨z,Di,n,r,e⟩:=h.ok I.hok;exact⟨Di,r,⟨_,n,e,rfl,rfl,rfl⟩,z⟩
 ·refine⟨Di.toList,r,⟨o,n,I.kIn a o hk,hc,hd,by simpa using hs⟩,?_⟩;have e:=r.length;simp only[fy] at e;omega
theorem Inv.tuple (I:Inv X Df σ H s) (h:SqT X.K H a xs):∃Di:List ah,Vals xs Di/\IsTup s.heap a Di.toArray/\xs.length<=sizeLine:=by
 rcases h with h|⟨o,Di,n,hk,hc,hs,hz,r⟩
 ·obtain⟨z,Di,r,p⟩:=h.ok I.hok;exact⟨Di,r,p,z⟩
 ·refine⟨Di.toList,r,⟨o,I.kIn a o hk,hc,n,by simpa using hs⟩,?_⟩;have e:=r.length;simp only[fy] at e;omega
theorem Inv.list_inj (I:Inv X Df σ H s) (h:SqL X.K H a xs) (h':SqL X.K H a ys):xs=ys:=by
 obtain⟨Di,r,⟨o,n,e,_,_,d⟩,_⟩:=I.list h;obtain⟨its',r',⟨o',n',e',_,_,d'⟩,_⟩:=I.list h';rw[e] at e';cases e';rw[d] at d';injection d' with d1 _;have:Di=its':=by simpa using congrArg yc d1
 subst this;exact r.inj r'
theorem Inv.tuple_inj (I:Inv X Df σ H s) (h:SqT X.K H a xs) (h':SqT X.K H a ys):xs=ys:=by
 obtain⟨Di,r,⟨o,e,_,n,d⟩,_⟩:=I.tuple h;obtain⟨its',r',⟨o',e',_,n',d'⟩,_⟩:=I.tuple h';rw[e] at e';cases e';rw[d] at d';injection d' with d1 _;have:Di=its':=by simpa using congrArg yc d1
 subst this;exact r.inj r'
end
abbrev Cx.wish (X:Cx) (E:ah->ak->Prop):Cx:={ X with xe:=E }
theorem Cx.Ok.wish {X:Cx} (ok:X.Ok) (E:ah->ak->Prop):(X.wish E).Ok:=
 ⟨ok.mod,ok.kind,ok.glob,ok.blt,ok.above,ok.inj,ok.has,ok.cab,ok.hd,ok.frames,ok.stk,ok.exf,ok.bs,ok.bsz,ok.noex,ok.exfs,ok.funs,ok.frf⟩
theorem Cx.Ok.unwish {X:Cx} {E:ah->ak->Prop} (ok:(X.wish E).Ok):X.Ok:=
 ⟨ok.mod,ok.kind,ok.glob,ok.blt,ok.above,ok.inj,ok.has,ok.cab,ok.hd,ok.frames,ok.stk,ok.exf,ok.bs,ok.bsz,ok.noex,ok.exfs,ok.funs,ok.frf⟩
section
variable {X:Cx} {Df:List (ag×Obj)} {σ:St} {H:Hp} {s:ak} {E:ah->ak->Prop}
theorem Inv.wish (I:Inv X Df σ H s) (E:ah->ak->Prop):Inv (X.wish E) Df σ H s:=⟨I.ok.wish E,I.os,I.bare,I.base,I.loc,I.cell,I.free,I.freeC,I.pin,I.hok,I.len⟩
theorem Inv.unwish (I:Inv (X.wish E) Df σ H s):Inv X Df σ H s:=⟨I.ok.unwish,I.os,I.bare,I.base,I.loc,I.cell,I.free,I.freeC,I.pin,I.hok,I.len⟩
end
section
variable {X:Cx} {st:dm} {Dg:List dm} {t u:TS} {e:Expr} {te:TE} {pos:Pos}
def V0:TS:=λD σ H=>D.nx σ H
def AW (t u:TS):TS:=λD σ H=>t { D with nx:=u D } σ H
theorem AK:PSs X [] V0:=λ_ _ σ H _ I h=>rm ⟨σ,H,I,h⟩
theorem AB (h1:PS X st t) (h2:PSs X Dg u):PSs X (st::Dg) (AW t u):=by
 intro Df s σ H D I h;refine yA (thn (h1 Df s σ H { D with nx:=u D } I h) λf s1 q=>?_);cases f with
 |next=>
  obtain⟨σ',H',I',q⟩:=q;exact h2 Df s1 σ' H' D I' q
 |ret v=>exact q
 |brk=>exact q
 |cont=>exact q
theorem AC (h1:PS X st t):PSs X [st] t:=by
 intro Df s σ H D I h;refine yA (thn (h1 Df s σ H D I h) λf s1 q=>?_);cases f with
 |next=>exact rm q
 |ret v=>exact q
 |brk=>exact q
 |cont=>exact q
theorem Inv.quiet {Df:List (ag×Obj)} {σ:St} {H:Hp} {s:ak} (I:Inv X Df σ H s):interactive X.env=false:=by simp[interactive,I.ok.kind]
def LB (te:TE):TS:=λD σ H=>te σ H λ_ H1=>D.nx σ H1
theorem AY (he:PE X e te) (hs:qm e none pos.line X.env=pure false:=by rfl):PS X (.Expr e pos) (LB te):=by
 intro Df s σ H D I h;exact wpAny_Expr_any (thn (he Df s σ H _ I h) λv s1 ⟨x,H1,I1,r1,q1⟩=>⟨σ,H1,I1,q1⟩) I.quiet hs
def RN (te:TE):TS:=λD σ H=>te σ H D.rt
theorem AJ (he:PE X e te):PS X (.Return (some e) pos) (RN te):=by
 intro Df s σ H D I h;exact wpAny_Return_some (thn (he Df s σ H _ I h) λv s1 ⟨x,H1,I1,r1,q1⟩=>⟨x,σ,H1,I1,r1,q1⟩)
def TZ (c:TT) (t u:TS):TS:=λD σ H=>c σ H λb H1=>if b=true then t D σ H1 else u D σ H1
theorem AU {c:Expr} {a b:List dm} {tc:TT} (hc:PT X c tc) (ha:PSs X a t) (hb:PSs X b u):PS X (.If c a b pos) (TZ tc t u):=by
 intro Df s σ H D I h;refine wpAny_If (thn (hc Df s σ H _ I h) λd s1 ⟨H1,I1,q1⟩=>?_);cases d with
 |true=>exact ha Df s1 σ H1 D I1 q1
 |false=>exact hb Df s1 σ H1 D I1 q1
def iP:TS:=λ_ _ _=>False
end
abbrev TG:=V->St->Hp->(St->Hp->Prop)->Prop
abbrev TGs:=List V->St->Hp->(St->Hp->Prop)->Prop
def PG (X:Cx) (target:Expr) (t:TG):Prop:=
 ∀(Df:List (ag×Obj)) (s:ak) (σ:St) (H:Hp) (v:V) (u:ah) (Q:St->Hp->Prop),Inv X Df σ H s->RelV v u->t v σ H Q->
  bi (bo X.prog X.w) X.A (yB target X.env u) (λ_ s'=>Ex2 λσ' H'=>Inv X Df σ' H' s'/\Q σ' H') X.xe s
def PGs (X:Cx) (ts:List Expr) (t:TGs):Prop:=
 ∀(Df:List (ag×Obj)) (s:ak) (σ:St) (H:Hp) (vs:List V) (us:List ah) (Q:St->Hp->Prop),Inv X Df σ H s->Vals vs us->t vs σ H Q->
  bi (bo X.prog X.w) X.A (assignInOrder ((vf ts X.env).map (·.2)) us) (λ_ s'=>Ex2 λσ' H'=>Inv X Df σ' H' s'/\Q σ' H') X.xe s
abbrev iQ:=V->V->V->Hp->(Hp->Prop)->Prop
def mQ (X:Cx) (t:iQ):Prop:=
 ∀(Df:List (ag×Obj)) (s:ak) (σ:St) (H:Hp) (o i v:V) (ov iv u:ah) (Q:Hp->Prop),Inv X Df σ H s->RelV o ov->RelV i iv->RelV v u->t o i v H Q->
  bi (bo X.prog X.w) X.A (setItem ov iv u) (λ_ s'=>∃H',Inv X Df σ H' s'/\Q H') X.xe s
abbrev TIp:=V->V->Hp->VK->Prop
def PIp (X:Cx) (op:yd) (t:TIp):Prop:=
 ∀(Df:List (ag×Obj)) (s:ak) (σ:St) (H:Hp) (x y:V) (v u:ah) (Q:VK),Inv X Df σ H s->RelV x v->RelV y u->t x y H Q->
  bi (bo X.prog X.w) X.A (Bh op v u) (EP X Df σ Q) X.xe s
section
variable {X:Cx} {pos:Pos}
def MY (i:Nat):TG:=λv σ H Q=>Q (σ.set i (some v)) H
theorem dR {i:Nat} {x:Str} (hN:X.N.Nodup) (hi:X.N[i]? =some x) (hx:Loc X.env.scope x) (hf:X.fn x=true\/X.env.scope.names.lookup x=some .local:=by first|exact .inl rfl|exact .inr rfl|assumption):PG X (.Name x pos) (MY i):=by
 intro Df s σ H v u Q I r h;exact ye (JL I hN hi hx r (λs' I'=>⟨_,H,I',h⟩) hf)
def tG:TGs:=λvs σ H Q=>vs=[]/\Q σ H
def mS (t:TG) (u:TGs):TGs:=λvs σ H Q=>Ex2 λv r=>vs=v::r/\t v σ H λσ' H'=>u r σ' H' Q
theorem FO:PGs X [] tG:=by
 intro Df s σ H vs us Q I r h;obtain⟨e,h⟩:=h;subst e;cases r;exact assignInOrder_nil ⟨σ,H,I,h⟩
theorem BT {e:Expr} {es:List Expr} {t:TG} {u:TGs} (h1:PG X e t) (h2:PGs X es u)
 (hs:(vf (e::es) X.env).map (·.2)=yB e X.env::(vf es X.env).map (·.2):=by rfl):PGs X (e::es) (mS t u):=by
 intro Df s σ H vs us Q I r h;obtain⟨v,vr,e1,h⟩:=h;subst e1;cases r with
 |cons r rr=>
  rw[hs];refine assignInOrder_cons (thn (h1 Df s σ H _ _ _ I r h) λ_ s1 ⟨σ1,H1,I1,q1⟩=>?_);exact h2 Df s1 σ1 H1 _ _ Q I1 rr q1
def tH (K:aa) (n:Nat) (t:TGs):TG:=λv σ H Q=>Ex2 λa xs=>v= .ref a/\SqT K H a xs/\xs.length=n/\t xs σ H Q
theorem G3 {es:List Expr} {k:Nat} {t:TGs} {n:Nat} (hc:X.calm=true) (h:PGs X es t)
 (hn:(vf es X.env).length=n:=by rfl) (hst:(vf es X.env).findIdx? (·.1)=none:=by rfl):PG X (.Tuple es k pos) (tH X.K n t):=by
 intro Df s σ H v u Q I r hw;obtain⟨a,xs,e1,hq,hl,hw⟩:=hw;subst e1;cases r;obtain⟨Di,rv,ht,hz⟩:=I.tuple hq;refine assign_Tuple_tuple (I.ok.hd hc) ht (by simp[hn, ←hl,rv.length]) hst λh' hx=>?_;have I1:Inv X Df σ H { s with heap:=h' }:=I.kept (t':=s.toks) λb o e=>hx b o (cp (bg e)) e;exact h Df _ σ H xs _ Q I1 (by simpa using rv) hw
def tI (to ti:TE) (t:iQ):TG:=λv σ H Q=>to σ H λo H1=>ti σ H1 λi H2=>t o i v H2 λH3=>Q σ H3
theorem iR {o i:Expr} {to ti:TE} {t:iQ} (ho:PE X o to) (hi:PE X i ti) (hs:mQ X t)
 (ha:∀v,yB (.Subscript o i pos) X.env v=(do
  let ov←mj [v] (eval o X.env);let iv←mj [v,ov] (eval i X.env)
  nq pos
  mj [v,ov,iv] (setItem ov iv v)
  release [v,ov,iv] []):=by intro _;rfl):PG X (.Subscript o i pos) (tI to ti t):=by
 intro Df s σ H v u Q I r h;rw[ha];refine ae (io (thn (ho Df s σ H _ I h) λov s1 ⟨x,H1,I1,r1,q1⟩=>?_));refine ae (io (thn (hi Df s1 σ H1 _ I1 q1) λiv s2 ⟨y,H2,I2,r2,q2⟩=>?_));refine ae (jx (ae (io (thn (hs Df s2 σ H2 x y v ov iv u _ I2 r1 r2 r q2) λ_ s3 ⟨H3,I3,q3⟩=>?_))));exact wpAny_release ⟨σ,H3,I3,q3⟩
def ZH (te:TE) (g:TG):TS:=λD σ H=>te σ H λx H1=>g x σ H1 D.nx
theorem iS {tg e:Expr} {te:TE} {g:TG} (he:PE X e te) (hg:PG X tg g) (hs:swapsWithSole [tg] e pos.line X.env=pure false:=by rfl) (hw:swappedStores [tg] e X.env=pure none:=by rfl)
 (h1:(vf [tg] X.env).map (·.2)=[yB tg X.env]:=by rfl):PS X (.Assign [tg] e pos) (ZH te g):=by
 intro Df s σ H D I h;refine wpAny_Assign_stores (thn (he Df s σ H _ I h) λv s1 ⟨x,H1,I1,r1,q1⟩=>?_) hs hw;rw[h1];exact thn (hg Df s1 σ H1 x v _ I1 r1 q1) λ_ s2 q=>q
theorem iU {i:Nat} {x:Str} {e:Expr} {te:TE} {pos':Pos} (hN:X.N.Nodup) (hi:X.N[i]? =some x) (hx:Loc X.env.scope x) (he:PE X e te) (hs:qm e (some (.Name x pos')) pos.line X.env=pure false:=by rfl) (hf:X.fn x=true\/X.env.scope.names.lookup x=some .local:=by first|exact .inl rfl|exact .inr rfl|assumption):
 PS X (.Assign [.Name x pos'] e pos) (ZH te (MY i)):=by
 intro Df s σ H D I h;refine wpAny_Assign_Name (thn (he Df s σ H _ I h) λv s1 ⟨y,H1,I1,r1,q1⟩=>?_) hs;exact JL I1 hN hi hx r1 (λs2 I2=>⟨_,H1,I2,q1⟩) hf
def mU (i j:Nat) (ta:TA):TS:=λD σ H=>ta σ H λvs H1=>Ex2 λv w=>vs=[v,w]/\D.nx ((σ.set i (some v)).set j (some w)) H1
def tJ (i:Nat) (te:TE) (ti:TIp):TS:=λD σ H=>∃x,σ[i]? =some (some x)/\te σ H λy H1=>ti x y H1 λz H2=>D.nx (σ.set i (some z)) H2
theorem IR {i:Nat} {x:Str} {e:Expr} {te:TE} {op:yd} {ti:TIp} {pos':Pos} (hN:X.N.Nodup) (hi:X.N[i]? =some x) (hx:Loc X.env.scope x) (he:PE X e te) (ho:PIp X op ti) (hf:X.fn x=true\/X.env.scope.names.lookup x=some .local:=by first|exact .inl rfl|exact .inr rfl|assumption):
 PS X (.AugAssign (.Name x pos') op e pos) (tJ i te ti):=by
 intro Df s σ H D I h;obtain⟨v,e1,h⟩:=h;obtain⟨m,hn,hl⟩:=I.loc;have vis:Vis X.env.scope x:=by rcases hx with k|k;exact .inl k;exact .inr (.inl k)
 obtain⟨u,r,l⟩:=hl i x v hi e1 vis;refine wpAny_AugAssign_Name ?_;have go:bi (bo X.prog X.w) X.A (eval e X.env) (λw s₂=>bi (bo X.prog X.w) X.A (Bh op u w) (λr s₃=>bi (bo X.prog X.w) X.A (Bf X.env x r) (λ_=>SP X Df D .next) X.xe s₃) X.xe s₂) X.xe s:=by
  refine thn (he Df s σ H _ I h) λw s1 ⟨y,H1,I1,r1,q1⟩=>?_;refine thn (ho Df s1 σ H1 v y u w _ I1 r r1 q1) λz s2 ⟨zv,H2,I2,r2,q2⟩=>?_;exact JL I2 hN hi hx r2 (λs3 I3=>⟨_,H2,I3,q2⟩) hf
 rcases l with⟨hk,hm⟩|⟨hk,c,hc,hcell⟩
 ·exact wT I.ok.kind hk hn hm go
 ·rcases hk with hk|hk
  ·exact xA I.ok.kind hk hc hcell go
  ·rcases hx with k|k
   ·have:X.env.scope.names.lookup x=some .free:=hk;rw[k] at this;cases this
   ·have:X.env.scope.names.lookup x=some .free:=hk;rw[k] at this;cases this
def ipI (f:Int->Int->Int):TIp:=λx y H Q=>I2At x y λi j=>Q (.int (f i j)) H
theorem IS:PIp X .Add (ipI λi j=>i+j):=by
 intro Df s σ H x y v u Q I r1 r2 h;obtain⟨i,j,e1,e2,q⟩:=h;subst e1;subst e2;obtain⟨t,rfl⟩:=r1;obtain⟨t',rfl⟩:=r2;exact iadd_int ⟨.int _,H,I.tok _,⟨_,rfl⟩,q⟩
end
section
variable {X:Cx} {pos:Pos}
def ZI (c:TT) (tb:TS):TS:=λD σ H=>∃W:Nat->St->Hp->Prop,(∃m,W m σ H)/\∀m σ H,W m σ H->
 c σ H λb H1=>if b=true then∃N:St->Hp->Prop,(∀σ' H',N σ' H'->∃m',m'<m/\W m' σ' H')/\tb { D with nx:=N,ct:=N,bk:=D.nx } σ H1 else D.nx σ H1
theorem B8 {c:Expr} {body:List dm} {tc:TT} {tb:TS} (hp:PassesOwn (bo X.prog X.w) X.A X.env X.xe) (hc:PT X c tc) (hb:PSs X body tb):PS X (.While c body [] pos) (ZI tc tb):=by
 intro Df s σ H D I h;obtain⟨W,⟨m0,w0⟩,turn⟩:=h;refine wpAny_While (codeAny_whileLoop (λn s'=>∃σ' H',Inv X Df σ' H' s'/\W n σ' H') ?_ m0 ⟨σ,H,I,w0⟩);rintro n s1 ⟨σ1,H1,I1,w1⟩;refine mi hp (thn (hc Df s1 σ1 H1 _ I1 (turn n σ1 H1 w1)) λb s2 ⟨H2,I2,q2⟩=>?_);cases b with
 |true=>
  obtain⟨N,hN,q2⟩:=q2;rw[Dm rfl];refine mi hp (thn (hb Df s2 σ1 H2 _ I2 q2) λf s3 q3=>?_);cases f with
  |next=>
   obtain⟨σ3,H3,I3,n3⟩:=q3;obtain⟨m',hm,w3⟩:=hN σ3 H3 n3;exact⟨m',hm,σ3,H3,I3,w3⟩
  |cont=>
   obtain⟨σ3,H3,I3,n3⟩:=q3;obtain⟨m',hm,w3⟩:=hN σ3 H3 n3;exact⟨m',hm,σ3,H3,I3,w3⟩
  |brk=>exact q3
  |ret v=>exact q3
 |false=>
  rw[Dn bw];exact rm ⟨σ1,H2,I2,q2⟩
end
structure It where
 go:Nat->Hp->Prop
 yld:Nat->Hp->V->Hp->Prop
 stop:Nat->Hp->Prop
def KG (X:Cx) (Df:List (ag×Obj)) (H:Hp) (b:ag):Prop:=
 H b=none/\b≠X.env.locals/\b∉X.fs/\(b∈X.ex\/X.s_0.heap.objs.size<=b)/\(∀x c,X.env.cells.lookup x=some c->c≠b)/\∀p∈X.pn++Df,p.1≠b
theorem Inv.fpOk {X:Cx} {Df:List (ag×Obj)} {σ:St} {H H':Hp} {s:ak} {b:ag} (I:Inv X Df σ H s) (hb:s.heap.objs.size<=b) (hn:H' b=none):KG X Df H' b:=by
 refine⟨hn,om (bv I.lt hb),I.nofs hb,.inr (cu I.sz hb),λx c e z=>?_,λp hp z=>?_⟩
 ·obtain⟨v,q⟩:=I.cell x c e;exact absurd (bv q.lt (by rw[z];exact hb)) (jf _)
 ·exact absurd (bv (bg (I.pin p hp).1) (by rw[z];exact hb)) (jf _)
structure Turn (P:bb) (w:cb) (K:aa) (tg:Expr) (J:It) (fp:List ag) (it:ag) (tn:Nat->cr->Prop):Prop where
 mem:it∈fp
 obj:∀i h,tn i h->∀b∈fp,∃o,h.get? b=some o/\∀v,o.data≠.cell v
 keep:∀i h h',tn i h->(∀b∈fp,∀o,h.get? b=some o->h'.get? b=some o)->tn i h'
 item:∀(X:Cx),X.prog=P->X.w=w->X.K=K->X.calm=true->∀(i:Nat) (Df:List (ag×Obj)) (s:ak) (σ:St) (H:Hp) (E:ah->ak->Prop),Inv X Df σ H s->(∀b∈fp,KG X Df H b)->tn i s.heap->J.go i H->
  bi (bo P w) X.A (xX (.ref it)) (λr s1=>∃u,r=some u/\
   bi (bo P w) X.A (rn tg (.ref it) u) (λ_ s2=>∃x H',Inv X Df σ H' s2/\RelV x u/\J.yld i H x H'/\tn (i+1) s2.heap/\∀b∈fp,H' b=none) E s1) E s
 done:∀(X:Cx),X.prog=P->X.w=w->X.K=K->X.calm=true->∀(i:Nat) (Df:List (ag×Obj)) (s:ak) (σ:St) (H:Hp) (E:ah->ak->Prop),Inv X Df σ H s->(∀b∈fp,KG X Df H b)->tn i s.heap->J.stop i H->
  bi (bo P w) X.A (xX (.ref it)) (λr s1=>r=none/\Inv X Df σ H s1) E s
 self:∀(A:dj) (i:Nat) (s:ak) (Q:ah->ak->Prop) (E:ah->ak->Prop),tn i s.heap->Q (.ref it) s->bi (bo P w) A (pyIter (.ref it)) Q E s
abbrev TI:=St->Hp->(It->Hp->Prop)->Prop
def PIE (X:Cx) (Df:List (ag×Obj)) (σ:St) (tg:Expr) (R:It->Hp->Prop) (itv:ah) (s2:ak):Prop:=
 Ex5 λ(it:ag) (fp:List ag) (tn:Nat->cr->Prop) (J:It) (H':Hp)=>itv= .ref it/\Inv X Df σ H' s2/\Turn X.prog X.w X.K tg J fp it tn/\tn 0 s2.heap/\(∀b∈fp,KG X Df H' b)/\R J H'
def PI (X:Cx) (tg iter:Expr) (wi:TI):Prop:=
 ∀(Df:List (ag×Obj)) (s:ak) (σ:St) (H:Hp) (R:It->Hp->Prop),Inv X Df σ H s->wi σ H R->
  bi (bo X.prog X.w) X.A (eval iter X.env) (λv s1=>bi (bo X.prog X.w) X.A (pyIter v) (PIE X Df σ tg R) X.xe s1) X.xe s
theorem V1 {M:yW} {A:dj} {E:ah->ak->Prop} {s:ak} {tg:Expr} {it:ag} {u:ah} {o:Obj} {n:String} {vs:Array ah} {Q:Unit->ak->Prop} (ho:s.heap.get? it=some o) (hc:o.cls= .type n) (hd:o.data= .fields vs)
 (hn:["enumerate","zip","dict_itemiterator","dict_reverseitemiterator","odict_iterator","itertools.zip_longest","itertools.pairwise"].contains n=false) (hQ:Q () s):bi M A (rn tg (.ref it) u) Q E s:=by
 unfold rn;cases tg<;>first
  |exact ao hQ
  |(cases u<;>first
   |exact ao hQ
   |(refine ae (wpAny_load ho ?_)
     rw[hc,hd];show bi M A (if(["enumerate","zip","dict_itemiterator","dict_reverseitemiterator","odict_iterator","itertools.zip_longest","itertools.pairwise"].contains n&&vs[0]? ==some (ge _))=true then _ else _) Q E s;rw[Dn (by intro h;rw[hn,li] at h;cases h)];exact ao hQ))
def Itl (K:aa) (a:ag):It:=
 ⟨λi H=>Ex2 λxs x=>SqL K H a xs/\xs[i]? =some x,λi H x H'=>H'=H/\∀xs,SqL K H a xs->xs[i]? =some x,λi H=>∃xs,SqL K H a xs/\xs.length<=i⟩
def Itt (K:aa) (a:ag):It:=
 ⟨λi H=>Ex2 λxs x=>SqT K H a xs/\xs[i]? =some x,λi H x H'=>H'=H/\∀xs,SqT K H a xs->xs[i]? =some x,λi H=>∃xs,SqT K H a xs/\xs.length<=i⟩
def Itr (lo:Int) (n:Nat):It:=⟨λi _=>i<n,λi H x H'=>H'=H/\x= .int (lo+i),λi _=>n<=i⟩
theorem X7 {P:bb} {w:cb} {K:aa} {tg:Expr} (a it:ag):Turn P w K tg (Itl K a) [it] it (λi h=>h.IsListIter it a i) where
 mem:=by simp
 obj:=λi h st b hb=>by
  have e:b=it:=by simpa using hb
  subst e;obtain⟨o,e,c,d⟩:=st;exact⟨o,e,λv z=>by rw[d] at z;cases z⟩
 keep:=λi h h' st k=>st.at λo e=>k it (by simp) o e
 item:=by
  intro X hP hw hK hc i Df s σ H E I hf st hg;subst hP hw hK;obtain⟨xs,x,hq,hx⟩:=hg;obtain⟨Di,rv,p,hz⟩:=I.list hq;obtain⟨u,hu,ru⟩:=rv.get hx;obtain⟨f0,f1,f2,f3,f4,f5⟩:=hf it (by simp);refine wpAny_pyNext_list_item st p.isList (x:=u) (by simpa using hu) λh' st' sb=>?_;have I1:Inv X Df σ H { s with heap:=h' }:=I.turned (t':=s.toks) (λb o hb e=>(sb.2 b hb).trans e) f0 f1 f3 f4 f5;obtain⟨o,e,c,d⟩:=id st';exact⟨u,rfl,V1 (s:={ s with heap:=h' }) e c d (by decide) ⟨x,H,I1,ru,⟨rfl,λys hy=>by rw[I.list_inj hy hq];exact hx⟩,st',λb hb=>(hf b hb).1⟩⟩
 done:=by
  intro X hP hw hK hc i Df s σ H E I hf st hg;subst hP hw hK;obtain⟨xs,hq,hx⟩:=hg;obtain⟨Di,rv,p,hz⟩:=I.list hq;obtain⟨f0,f1,f2,f3,f4,f5⟩:=hf it (by simp);have hl:=rv.length;exact wpAny_pyNext_list_end (I.ok.hd hc) st p.isList (by simp;omega) λh' eb=>⟨rfl,I.turned (t':=s.toks) (λb o hb e=>eb b o hb e) f0 f1 f3 f4 f5⟩
 self:=λ_ _ _ _ _ st h=>wpAny_pyIter_listiter st h
theorem T0 {P:bb} {w:cb} {K:aa} {tg:Expr} (a it:ag):Turn P w K tg (Itt K a) [it] it (λi h=>h.IsTupleIter it a i) where
 mem:=by simp
 obj:=λi h st b hb=>by
  have e:b=it:=by simpa using hb
  subst e;obtain⟨o,e,c,d⟩:=st;exact⟨o,e,λv z=>by rw[d] at z;cases z⟩
 keep:=λi h h' st k=>st.at λo e=>k it (by simp) o e
 item:=by
  intro X hP hw hK hc i Df s σ H E I hf st hg;subst hP hw hK;obtain⟨xs,x,hq,hx⟩:=hg;obtain⟨Di,rv,p,hz⟩:=I.tuple hq;obtain⟨u,hu,ru⟩:=rv.get hx;obtain⟨f0,f1,f2,f3,f4,f5⟩:=hf it (by simp);refine wpAny_pyNext_tuple_item st (show s.heap.IsTuple a Di.toArray from p) (x:=u) (by simpa using hu) λh' st' sb=>?_;have I1:Inv X Df σ H { s with heap:=h' }:=I.turned (t':=s.toks) (λb o hb e=>(sb.2 b hb).trans e) f0 f1 f3 f4 f5;obtain⟨o,e,c,d⟩:=id st';exact⟨u,rfl,V1 (s:={ s with heap:=h' }) e c d (by decide) ⟨x,H,I1,ru,⟨rfl,λys hy=>by rw[I.tuple_inj hy hq];exact hx⟩,st',λb hb=>(hf b hb).1⟩⟩
 done:=by
  intro X hP hw hK hc i Df s σ H E I hf st hg;subst hP hw hK;obtain⟨xs,hq,hx⟩:=hg;obtain⟨Di,rv,p,hz⟩:=I.tuple hq;obtain⟨f0,f1,f2,f3,f4,f5⟩:=hf it (by simp);have hl:=rv.length;exact wpAny_pyNext_tuple_end (I.ok.hd hc) st (show s.heap.IsTuple a Di.toArray from p) (by simp;omega) λh' eb=>⟨rfl,I.turned (t':=s.toks) (λb o hb e=>eb b o hb e) f0 f1 f3 f4 f5⟩
 self:=λ_ _ _ _ _ st h=>wpAny_pyIter_tupleiter st h
theorem T1 {P:bb} {w:cb} {K:aa} {tg:Expr} (it:ag) (lo:Int) (n:Nat):Turn P w K tg (Itr lo n) [it] it (λi h=>IsRangeIter h it (lo+(i:Nat)*1) ((n:Int) - (i:Nat)) 1) where
 mem:=by simp
 obj:=λi h st b hb=>by
  have e:b=it:=by simpa using hb
  subst e;exact⟨_,st,λv z=>by
   have z':Data.fields _=Data.cell v:=z;cases z'⟩
 keep:=λi h h' st k=>k it (by simp) _ st
 item:=by
  intro X hP hw hK hc i Df s σ H E I hf st hg;subst hP hw hK;obtain⟨f0,f1,f2,f3,f4,f5⟩:=hf it (by simp);have W:=Walks.range (prog:=X.prog) (w:=X.w) (I.ok.hd hc) it lo 1 n;refine W.item i s _ _ hg st λv h' tk hv st' kk=>?_;obtain⟨t,rfl⟩:=hv;have I1:Inv X Df σ H { s with heap:=h',toks:=tk }:=I.turned (λb o hb e=>kk b o (by simpa using hb) e) f0 f1 f3 f4 f5;refine⟨_,rfl,V1 (s:={ s with heap:=h',toks:=tk }) (n:="range_iterator") st' rfl rfl (by decide) ⟨.int (lo+i),H,I1,⟨t,?_⟩,⟨rfl,rfl⟩,st',λb hb=>(hf b hb).1⟩⟩;rw[Int.mul_one]
 done:=by
  intro X hP hw hK hc i Df s σ H E I hf st hg;subst hP hw hK;obtain⟨f0,f1,f2,f3,f4,f5⟩:=hf it (by simp);exact wpAny_pyNext_range_end (I.ok.hd hc) st (by have:n<=i:=hg;omega) λh' eb=>⟨rfl,I.turned (t':=s.toks) (λb o hb e=>eb b o hb e) f0 f1 f3 f4 f5⟩
 self:=λ_ _ _ _ _ st h=>wpAny_pyIter_rangeiter st h
section
variable {X:Cx} {tg:Expr}
def mV (K:aa) (tl:TE):TI:=λσ H R=>tl σ H λx H1=>∃a,x= .ref a/\(∃xs,SqL K H1 a xs)/\R (Itl K a) H1
def tK (K:aa) (tl:TE):TI:=λσ H R=>tl σ H λx H1=>∃a,x= .ref a/\(∃xs,SqT K H1 a xs)/\R (Itt K a) H1
theorem CW {l:Expr} {tl:TE} (hl:PE X l tl):PI X tg l (mV X.K tl):=by
 intro Df s σ H R I h;refine thn (hl Df s σ H _ I h) λv s1 ⟨x,H1,I1,r1,q1⟩=>?_;obtain⟨a,e,⟨xs,hq⟩,q⟩:=q1;subst e;cases r1;obtain⟨Di,rv,p,hz⟩:=I1.list hq;refine wpAny_pyIter_list p.isList ?_;refine⟨s1.heap.objs.size,[s1.heap.objs.size],_,_,H1,rfl,I1.kept (t':=s1.toks) λb o e=>am _ e,X7 a _,⟨_,bj _ rfl,rfl,rfl⟩,λb hb=>?_,q⟩;have e:b=s1.heap.objs.size:=by simpa using hb
 subst e;exact I1.fpOk (aw _) (I1.hok.fresh (aw _))
theorem ZJ {l:Expr} {tl:TE} (hl:PE X l tl):PI X tg l (tK X.K tl):=by
 intro Df s σ H R I h;refine thn (hl Df s σ H _ I h) λv s1 ⟨x,H1,I1,r1,q1⟩=>?_;obtain⟨a,e,⟨xs,hq⟩,q⟩:=q1;subst e;cases r1;obtain⟨Di,rv,p,hz⟩:=I1.tuple hq;refine sg (show s1.heap.IsTuple a Di.toArray from p) ?_;refine⟨s1.heap.objs.size,[s1.heap.objs.size],_,_,H1,rfl,I1.kept (t':=s1.toks) λb o e=>am _ e,T0 a _,⟨_,bj _ rfl,rfl,rfl⟩,λb hb=>?_,q⟩;have e:b=s1.heap.objs.size:=by simpa using hb
 subst e;exact I1.fpOk (aw _) (I1.hok.fresh (aw _))
theorem RO {Df:List (ag×Obj)} {σ:St} {H:Hp} {s:ak} {R:It->Hp->Prop} {E:ah->ak->Prop} {lo hi:Int} {t u v:Tok} {tk:Nat} (I:Inv X Df σ H s) (h1: -(2 ^ 62)<=lo) (h2:lo<2 ^ 62) (h3: -(2 ^ 62)<=hi) (h4:hi<2 ^ 62)
 (q:R (Itr lo (hi - lo).toNat) H):bi (bo X.prog X.w) X.A (pyIter (.ref s.heap.objs.size)) (PIE X Df σ tg R) E { s with heap:=s.heap.push { cls:=.type "range",data:=.fields #[.int lo t,.int hi u,.int 1 v] },toks:=tk }:=by
 refine wpAny_pyIter_range (Cc ..) (small_one h1 h2 h3 h4) ?_;have I1:Inv X Df σ H { s with heap:=s.heap.push { cls:=.type "range",data:=.fields #[.int lo t,.int hi u,.int 1 v] },toks:=tk }:=I.kept λb o e=>am _ e;refine⟨(s.heap.push { cls:=.type "range",data:=.fields #[.int lo t,.int hi u,.int 1 v] }).objs.size,[(s.heap.push { cls:=.type "range",data:=.fields #[.int lo t,.int hi u,.int 1 v] }).objs.size],_,_,H,rfl,
  I1.kept (t':=tk) λb o e=>am _ e,T1 _ lo (hi - lo).toNat,?_,λb hb=>?_,q⟩
 ·have e1:lo+((0:Nat):Int)*1=lo:=by simp
  have e2:(((hi - lo).toNat:Nat):Int) - ((0:Nat):Int)=v0 lo hi 1:=by rw[rangeSize_one];split<;>omega
  show IsRangeIter _ _ (lo+((0:Nat):Int)*1) ((((hi - lo).toNat:Nat):Int) - ((0:Nat):Int)) 1;rw[e1,e2];exact bj _ rfl
 ·have e:b=(s.heap.push { cls:=.type "range",data:=.fields #[.int lo t,.int hi u,.int 1 v] }).objs.size:=by simpa using hb
  subst e;exact I1.fpOk (aw _) (I1.hok.fresh (aw _))
def mW (ta:TA):TI:=λσ H R=>ta σ H λvs H1=>∃j:Int,vs=[.int j]/\ -(2 ^ 62)<=j/\j<2 ^ 62/\R (Itr 0 j.toNat) H1
def mX (ta:TA):TI:=λσ H R=>ta σ H λvs H1=>Ex2 λi j:Int=>vs=[.int i,.int j]/\(-(2 ^ 62)<=i/\i<2 ^ 62/\ -(2 ^ 62)<=j/\j<2 ^ 62)/\R (Itr i (j - i).toNat) H1
theorem X9 {a:Expr} {ta:TA} {p pos:Pos} (hg:Gl X "range") (hm:X.mg "range"=none) (ha:PA X [a] ta) (hs:be [a] X.env=[(false,eval a X.env)]:=by rfl):PI X tg (.Call (.Name "range" p) [a] [] pos) (mW ta):=by
 intro Df s σ H R I h;refine zw (D9 I hg hm zx (df (thn (ha pos Df s σ H _ I h) λus s1 ⟨vs,H1,I1,r1,q1⟩=>?_) hs rfl));obtain⟨j,e,q1,q2,q⟩:=q1;subst e;cases r1 with
 |cons r rr=>
  cases rr;obtain⟨t,rfl⟩:=r;exact call_range_1 (RO I1 (by omega) (by omega) q1 q2 (by simpa using q))
theorem OS {a b:Expr} {ta:TA} {p pos:Pos} (hg:Gl X "range") (hm:X.mg "range"=none) (ha:PA X [a,b] ta) (hs:be [a,b] X.env=[(false,eval a X.env),(false,eval b X.env)]:=by rfl) (hs2:be [b] X.env=[(false,eval b X.env)]:=by rfl):
 PI X tg (.Call (.Name "range" p) [a,b] [] pos) (mX ta):=by
 intro Df s σ H R I h;refine zw (D9 I hg hm zx (df (thn (ha pos Df s σ H _ I h) λus s1 ⟨vs,H1,I1,r1,q1⟩=>?_) (by rw[hs,hs2]) (by rw[hs2];rfl)));obtain⟨i,j,e,⟨q1,q2,q3,q4⟩,q⟩:=q1;subst e;cases r1 with
 |cons r rr=>
  cases rr with
  |cons r' rr=>
   cases rr;obtain⟨t,rfl⟩:=r;obtain⟨t',rfl⟩:=r';exact call_range_2 (RO I1 q1 q2 q3 q4 q)
def tL (wi:TI) (g:TG) (tb:TS):TS:=λD σ H=>wi σ H λJ H1=>∃W:Nat->Nat->St->Hp->Prop,(∃m,W 0 m σ H1)/\∀i m σ H,W i m σ H->
 (J.stop i H/\D.nx σ H)\/(J.go i H/\∃N:St->Hp->Prop,(∀σ' H',N σ' H'->∃m',m'<m/\W (i+1) m' σ' H')/\∀x H',J.yld i H x H'->g x σ H' λσ2 H2=>tb { D with nx:=N,ct:=N,bk:=D.nx } σ2 H2)
def MZ (fp:List ag) (h:cr):List (ag×Obj):=fp.filterMap λb=>(h.get? b).map λo=>(b,o)
theorem IT {fp:List ag} {h:cr} {b:ag} {o:Obj} (hb:b∈fp) (e:h.get? b=some o):(b,o)∈MZ fp h:=xY.mpr ⟨b,hb,by rw[e];rfl⟩
theorem YA {fp:List ag} {h:cr} {p:ag×Obj} (hp:p∈MZ fp h):p.1∈fp/\h.get? p.1=some p.2:=by
 obtain⟨b,hb,e⟩:=xY.mp hp;cases q:h.get? b with
 |none=>rw[q] at e;cases e
 |some o=>
  rw[q] at e;have e':(b,o)=p:=cz e;subst e';exact⟨hb,q⟩
theorem Inv.pinned {Df:List (ag×Obj)} {σ:St} {H:Hp} {s:ak} {fp:List ag} (I:Inv X Df σ H s) (hf:∀b∈fp,KG X Df H b) (ho:∀b∈fp,∃o,s.heap.get? b=some o/\∀v,o.data≠.cell v):Inv X (Df++MZ fp s.heap) σ H s:=
 I.pins_of λp hp=>(bu.mp hp).elim (λz=>I.pin p (dy _ z)) λz=>by
  obtain⟨hb,e⟩:=YA z;obtain⟨f0,f1,f2,_⟩:=hf p.1 hb;obtain⟨o,e',d⟩:=ho p.1 hb;rw[e] at e';cases e';exact⟨e,f0,f1,f2,d⟩
theorem Inv.unpinned {Df pl:List (ag×Obj)} {σ:St} {H:Hp} {s:ak} (I:Inv X (Df++pl) σ H s):Inv X Df σ H s:=I.pins_of λp hp=>I.pin p (dy _ (uJ _ hp))
theorem BR {iter:Expr} {body:List dm} {wi:TI} {g:TG} {tb:TS} {pos:Pos} (hp:PassesOwn (bo X.prog X.w) X.A X.env X.xe) (hc:X.calm=true) (hi:PI X tg iter wi) (hg:PG X tg g) (hb:PSs X body tb)
 (hs:∀x,ml iter X.env x=pure x:=by intro _;rfl):PS X (.For tg iter body [] pos) (tL wi g tb):=by
 intro Df s σ H D I h;refine wpAny_For (thn (hi Df s σ H _ I h) λv s1 h1=>thn h1 λitv s2 h2=>?_) hs;obtain⟨it,fp,tn,J,H2,e,I2,T,st2,f2,W,⟨m0,w0⟩,turn⟩:=h2;subst e;have stat:∀{H':Hp},(∀b∈fp,H' b=none)->∀b∈fp,KG X Df H' b:=λhn b hb=>⟨hn b hb,(f2 b hb).2⟩
 refine codeAny_forLoop_any (λn s'=>∃i σ' H',Inv X Df σ' H' s'/\tn i s'.heap/\(∀b∈fp,H' b=none)/\W i n σ' H') ?_ m0 ⟨0,σ,H2,I2,st2,λb hb=>(f2 b hb).1,w0⟩;rintro n s3 ⟨i,σ3,H3,I3,st3,fr3,w3⟩;rcases turn i n σ3 H3 w3 with⟨stop,qn⟩|⟨go,N,hN,step⟩
 ·refine mi hp (thn (T.done X rfl rfl rfl hc i Df s3 σ3 H3 X.xe I3 (stat fr3) st3 stop) λr s4 ⟨hr,I4⟩=>?_);subst hr;exact rm ⟨σ3,H3,I4,qn⟩
 ·refine mi hp (thn (T.item X rfl rfl rfl hc i Df s3 σ3 H3 X.xe I3 (stat fr3) st3 go) λr s4 ⟨u,hr,h4⟩=>?_);subst hr;refine mi hp (thn h4 λ_ s5 ⟨x,H5,I5,r5,y5,st5,fr5⟩=>?_);have I5':=I5.pinned (stat fr5) (T.obj _ _ st5);refine mi hp (thn (hg _ s5 σ3 H5 x u _ I5' r5 (step x H5 y5)) λ_ s6 ⟨σ6,H6,I6,q6⟩=>?_);refine mi hp (thn (hb _ s6 σ6 H6 _ I6 q6) λf s7 q7=>?_);have again:∀{σ7:St} {H7:Hp},Inv X (Df++MZ fp s5.heap) σ7 H7 s7->N σ7 H7->∃m,m<n/\∃i σ' H',Inv X Df σ' H' s7/\tn i s7.heap/\(∀b∈fp,H' b=none)/\W i m σ' H':=λ{σ7 H7} I7 n7=>by
   obtain⟨m',hm,w7⟩:=hN σ7 H7 n7;refine⟨m',hm,i+1,σ7,H7,I7.unpinned,T.keep _ _ _ st5 λb hb o e=>(I7.pin (b,o) (dy _ (dy _ (IT hb e)))).1,λb hb=>?_,w7⟩;obtain⟨o,e,d⟩:=T.obj _ _ st5 b hb;exact(I7.pin (b,o) (dy _ (dy _ (IT hb e)))).2.1
  cases f with
  |next=>obtain⟨σ7,H7,I7,n7⟩:=q7;exact again I7 n7
  |cont=>obtain⟨σ7,H7,I7,n7⟩:=q7;exact again I7 n7
  |brk=>obtain⟨σ7,H7,I7,q7⟩:=q7;exact⟨σ7,H7,I7.unpinned,q7⟩
  |ret v=>obtain⟨x7,σ7,H7,I7,r7,q7⟩:=q7;exact⟨x7,σ7,H7,I7.unpinned,r7,q7⟩
end
theorem CO {K:aa} {a:ag} {xs:List V} {g:TG} {tb:TS} {D:Ends} {σ:St} {H:Hp} (Pv:Nat->St->Hp->Prop) (h0:Pv 0 σ H) (hl:∀i σ H,i<=xs.length->Pv i σ H->SqL K H a xs)
 (hs:∀i x σ H,xs[i]? =some x->Pv i σ H->g x σ H λσ2 H2=>tb { D with nx:=Pv (i+1),ct:=Pv (i+1),bk:=D.nx } σ2 H2) (hd:∀σ H,Pv xs.length σ H->D.nx σ H):
 ∃W:Nat->Nat->St->Hp->Prop,(∃m,W 0 m σ H)/\∀i m σ H,W i m σ H->
  ((Itl K a).stop i H/\D.nx σ H)\/((Itl K a).go i H/\∃N:St->Hp->Prop,(∀σ' H',N σ' H'->∃m',m'<m/\W (i+1) m' σ' H')/\∀x H',(Itl K a).yld i H x H'->g x σ H' λσ2 H2=>tb { D with nx:=N,ct:=N,bk:=D.nx } σ2 H2):=by
 refine⟨λi m σ H=>m=xs.length - i/\i<=xs.length/\Pv i σ H,⟨xs.length,by simp,du _,h0⟩,?_⟩;rintro i m σ H ⟨rfl,hi,p⟩;have q:=hl i σ H hi p;by_cases Dl:i<xs.length
 ·refine .inr ⟨⟨xs,xs[i],q,by simp[Dl]⟩,Pv (i+1),λσ' H' p'=>⟨xs.length - (i+1),by omega,rfl,Dl,p'⟩,λx H' y=>?_⟩;obtain⟨e,y⟩:=y;subst e;exact hs i x σ _ (y xs q) p
 ·have e:i=xs.length:=by omega
  subst e;exact .inl ⟨⟨xs,q,aw _⟩,hd σ H p⟩
theorem V2 {K:aa} {a:ag} {xs:List V} {g:TG} {tb:TS} {D:Ends} {σ:St} {H:Hp} (Pv:Nat->St->Hp->Prop) (h0:Pv 0 σ H) (hl:∀i σ H,i<=xs.length->Pv i σ H->SqT K H a xs)
 (hs:∀i x σ H,xs[i]? =some x->Pv i σ H->g x σ H λσ2 H2=>tb { D with nx:=Pv (i+1),ct:=Pv (i+1),bk:=D.nx } σ2 H2) (hd:∀σ H,Pv xs.length σ H->D.nx σ H):
 ∃W:Nat->Nat->St->Hp->Prop,(∃m,W 0 m σ H)/\∀i m σ H,W i m σ H->
  ((Itt K a).stop i H/\D.nx σ H)\/((Itt K a).go i H/\∃N:St->Hp->Prop,(∀σ' H',N σ' H'->∃m',m'<m/\W (i+1) m' σ' H')/\∀x H',(Itt K a).yld i H x H'->g x σ H' λσ2 H2=>tb { D with nx:=N,ct:=N,bk:=D.nx } σ2 H2):=by
 refine⟨λi m σ H=>m=xs.length - i/\i<=xs.length/\Pv i σ H,⟨xs.length,by simp,du _,h0⟩,?_⟩;rintro i m σ H ⟨rfl,hi,p⟩;have q:=hl i σ H hi p;by_cases Dl:i<xs.length
 ·refine .inr ⟨⟨xs,xs[i],q,by simp[Dl]⟩,Pv (i+1),λσ' H' p'=>⟨xs.length - (i+1),by omega,rfl,Dl,p'⟩,λx H' y=>?_⟩;obtain⟨e,y⟩:=y;subst e;exact hs i x σ _ (y xs q) p
 ·have e:i=xs.length:=by omega
  subst e;exact .inl ⟨⟨xs,q,aw _⟩,hd σ H p⟩
theorem OT {lo:Int} {n:Nat} {g:TG} {tb:TS} {D:Ends} {σ:St} {H:Hp} (Pv:Nat->St->Hp->Prop) (h0:Pv 0 σ H)
 (hs:∀i σ H,i<n->Pv i σ H->g (.int (lo+i)) σ H λσ2 H2=>tb { D with nx:=Pv (i+1),ct:=Pv (i+1),bk:=D.nx } σ2 H2) (hd:∀σ H,Pv n σ H->D.nx σ H):
 ∃W:Nat->Nat->St->Hp->Prop,(∃m,W 0 m σ H)/\∀i m σ H,W i m σ H->
  ((Itr lo n).stop i H/\D.nx σ H)\/((Itr lo n).go i H/\∃N:St->Hp->Prop,(∀σ' H',N σ' H'->∃m',m'<m/\W (i+1) m' σ' H')/\∀x H',(Itr lo n).yld i H x H'->g x σ H' λσ2 H2=>tb { D with nx:=N,ct:=N,bk:=D.nx } σ2 H2):=by
 refine⟨λi m σ H=>m=n - i/\i<=n/\Pv i σ H,⟨n,by simp,du _,h0⟩,?_⟩;rintro i m σ H ⟨rfl,hi,p⟩;by_cases Dl:i<n
 ·refine .inr ⟨Dl,Pv (i+1),λσ' H' p'=>⟨n - (i+1),by omega,rfl,Dl,p'⟩,λx H' y=>?_⟩;obtain⟨e,y⟩:=y;subst e y;exact hs i σ _ Dl p
 ·have e:i=n:=by omega
  subst e;exact .inl ⟨aw _,hd σ H p⟩
theorem RP {c:TT} {tb:TS} {D:Ends} {σ:St} {H:Hp} (Pv:St->Hp->Prop) (μ:St->Hp->Nat) (h0:Pv σ H)
 (hs:∀σ H,Pv σ H->c σ H λb H1=>if b=true then tb { D with nx:=λσ' H'=>Pv σ' H'/\μ σ' H'<μ σ H,ct:=λσ' H'=>Pv σ' H'/\μ σ' H'<μ σ H,bk:=D.nx } σ H1 else D.nx σ H1)
 (mono:∀σ H Q Q',(∀b H1,Q b H1->Q' b H1)->c σ H Q->c σ H Q'):ZI c tb D σ H:=by
 refine⟨λm σ H=>m=μ σ H/\Pv σ H,⟨_,rfl,h0⟩,?_⟩;rintro m σ H ⟨rfl,p⟩;refine mono σ H _ _ (λb H1 q=>?_) (hs σ H p);cases b with
 |true=>exact⟨_,λσ' H' ⟨p',l⟩=>⟨_,l,rfl,p'⟩,q⟩
 |false=>exact q
abbrev R2:=V->V->Hp->VK->Prop
def OpR (X:Cx) (f:ah->ah->Sem ah) (r:R2):Prop:=
 ∀(Df:List (ag×Obj)) (s:ak) (σ:St) (H:Hp) (x y:V) (v u:ah) (Q:VK),Inv X Df σ H s->RelV x v->RelV y u->r x y H Q->
  bi (bo X.prog X.w) X.A (f v u) (EP X Df σ Q) X.xe s
def UnR (X:Cx) (f:ah->Sem ah) (r:V->Hp->VK->Prop):Prop:=
 ∀(Df:List (ag×Obj)) (s:ak) (σ:St) (H:Hp) (x:V) (v:ah) (Q:VK),Inv X Df σ H s->RelV x v->r x H Q->
  bi (bo X.prog X.w) X.A (f v) (EP X Df σ Q) X.xe s
def LC (X:Cx) (f:ah) (r:List V->Hp->VK->Prop):Prop:=
 ∀(Df:List (ag×Obj)) (s:ak) (σ:St) (H:Hp) (xs:List V) (us:List ah) (Q:VK),Inv X Df σ H s->Vals xs us->r xs H Q->
  bi (bo X.prog X.w) X.A (call f us) (EP X Df σ Q) X.xe s
def tOp (r:R2) (ta tb:TE):TE:=λσ H Q=>ta σ H λx H1=>tb σ H1 λy H2=>r x y H2 Q
def tUn (r:V->Hp->VK->Prop) (ta:TE):TE:=λσ H Q=>ta σ H λx H1=>r x H1 Q
def rI (C:Int->Int->Prop) (g:Int->Int->V):R2:=λx y H Q=>I2At x y λi j=>C i j/\Q (g i j) H
def rI0 (g:Int->Int->V):R2:=λx y H Q=>I2At x y λi j=>Q (g i j) H
def rU (g:Int->V):V->Hp->VK->Prop:=λx H Q=>I1At x λi=>Q (g i) H
section
variable {X:Cx} {a b c:Expr} {ta tb tc:TE} {pos:Pos}
theorem iV (ha:PE X a ta) (hb:PE X b tb) {Df:List (ag×Obj)} {s:ak} {σ:St} {H:Hp} {R:V->V->Hp->Prop} (I:Inv X Df σ H s)
 (h:ta σ H λx H1=>tb σ H1 λy H2=>R x y H2) {Q:ah->ak->Prop} {f:ah->ah->Sem ah}
 (hf:∀v u s2 x y H2,Inv X Df σ H2 s2->RelV x v->RelV y u->R x y H2->bi (bo X.prog X.w) X.A (f v u) Q X.xe s2):
 bi (bo X.prog X.w) X.A (eval a X.env) (λv s₁=>bi (bo X.prog X.w) X.A (eval b X.env) (λu s₂=>bi (bo X.prog X.w) X.A (f v u) Q X.xe s₂) X.xe s₁) X.xe s:=by
 refine thn (ha Df s σ H _ I h) λv s1 ⟨x,H1,I1,r1,q1⟩=>?_;refine thn (hb Df s1 σ H1 _ I1 q1) λu s2 ⟨y,H2,I2,r2,q2⟩=>?_;exact hf v u s2 x y H2 I2 r1 r2 q2
theorem BC {op:yd} {r:R2} (ho:OpR X (tq op) r) (ha:PE X a ta) (hb:PE X b tb):PE X (.BinOp a op b pos) (tOp r ta tb):=by
 intro Df s σ H Q I h;exact wpAny_BinOp (iV ha hb I h λv u s2 x y H2 I2 rx ry q=>ho Df s2 σ H2 x y v u Q I2 rx ry q)
theorem G4 {op:UnaryOp} {r:V->Hp->VK->Prop} (ho:UnR X (unaryOp op) r) (ha:PE X a ta):PE X (.UnaryOp op a pos) (tUn r ta):=by
 intro Df s σ H Q I h;exact UnaryOp_ (thn (ha Df s σ H _ I h) λv s1 ⟨x,H1,I1,r1,q1⟩=>ho Df s1 σ H1 x v Q I1 r1 q1)
theorem opI {f:ah->ah->Sem ah} {C:Int->Int->Prop} {g:Int->Int->Int}
 (rule:∀(i j:Int) (t u:Tok) (s:ak) (Q:ah->ak->Prop) (E:ah->ak->Prop),C i j->Q (.int (g i j) s.toks) { s with toks:=s.toks+1 }->bi (bo X.prog X.w) X.A (f (.int i t) (.int j u)) Q E s):
 OpR X f (rI C λi j=>.int (g i j)):=by
 intro Df s σ H x y v u Q I rx ry h;obtain⟨i,j,rfl,rfl,hc,q⟩:=h;obtain⟨t,rfl⟩:=rx;obtain⟨t',rfl⟩:=ry;exact rule i j t t' s _ _ hc ⟨.int (g i j),H,I.tok _,⟨_,rfl⟩,q⟩
theorem mY {f:ah->ah->Sem ah} {g:Int->Int->Int}
 (rule:∀(i j:Int) (t u:Tok) (s:ak) (Q:ah->ak->Prop) (E:ah->ak->Prop),Q (.int (g i j) s.toks) { s with toks:=s.toks+1 }->bi (bo X.prog X.w) X.A (f (.int i t) (.int j u)) Q E s):
 OpR X f (rI0 λi j=>.int (g i j)):=by
 intro Df s σ H x y v u Q I rx ry h;obtain⟨i,j,rfl,rfl,q⟩:=h;obtain⟨t,rfl⟩:=rx;obtain⟨t',rfl⟩:=ry;exact rule i j t t' s _ _ ⟨.int (g i j),H,I.tok _,⟨_,rfl⟩,q⟩
theorem dS {f:ah->ah->Sem ah} {g:Int->Int->Bool}
 (rule:∀(i j:Int) (t u:Tok) (s:ak) (Q:ah->ak->Prop) (E:ah->ak->Prop),Q (.bool (g i j)) s->bi (bo X.prog X.w) X.A (f (.int i t) (.int j u)) Q E s):
 OpR X f (rI0 λi j=>.bl (g i j)):=by
 intro Df s σ H x y v u Q I rx ry h;obtain⟨i,j,rfl,rfl,q⟩:=h;obtain⟨t,rfl⟩:=rx;obtain⟨t',rfl⟩:=ry;exact rule i j t t' s _ _ ⟨.bl (g i j),H,I,rfl,q⟩
def mZ (i j:Int):Prop:=0<j/\j<1073741824
def CMul (i j:Int):Prop:=(-(2 ^ 64)<i/\i<2 ^ 64)\/(-(2 ^ 64)<j/\j<2 ^ 64)
theorem CMul.ok {i j:Int} (h:CMul i j):IntMulOk i j:=by
 rcases h with⟨h1,h2⟩|⟨h1,h2⟩
 ·exact .of_left (intBits_le_64 h1 h2)
 ·exact .of_right (intBits_le_64 h1 h2)
theorem C4:OpR X (tq .Add) (rI0 λi j=>.int (i+j)):=mY λ_ _ _ _ _ _ _ q=>add_int q
theorem G5:OpR X (tq .Sub) (rI0 λi j=>.int (i - j)):=mY λ_ _ _ _ _ _ _ q=>sub_int q
theorem IU:OpR X (tq .Mult) (rI CMul λi j=>.int (i*j)):=opI λ_ _ _ _ _ _ _ hc q=>mul_int q hc.ok
theorem MD:OpR X (tq .FloorDiv) (rI mZ λi j=>.int (i / j)):=opI λi j _ _ _ _ _ hc q=>by
 have h1:(0:Int)<j:=hc.1;have h2:j<1073741824:=hc.2;exact floordiv_int (by omega) (by rw[vg i (by omega)];exact q) (.inl (wl (by omega)))
theorem T2:OpR X (tq .Mod) (rI (λ_ j=>0<j) λi j=>.int (i%j)):=opI λi j _ _ _ _ _ hc q=>by
 have h1:(0:Int)<j:=hc;exact mod_int' (by omega) (by rw[Int.fmod_eq_emod_of_nonneg i (by omega)];exact q)
theorem unI {f:ah->Sem ah} {g:Int->Int}
 (rule:∀(i:Int) (t:Tok) (s:ak) (Q:ah->ak->Prop) (E:ah->ak->Prop),Q (.int (g i) s.toks) { s with toks:=s.toks+1 }->bi (bo X.prog X.w) X.A (f (.int i t)) Q E s):
 UnR X f (rU λi=>.int (g i)):=by
 intro Df s σ H x v Q I rx h;obtain⟨i,rfl,q⟩:=h;obtain⟨t,rfl⟩:=rx;exact rule i t s _ _ ⟨.int (g i),H,I.tok _,⟨_,rfl⟩,q⟩
theorem E7:UnR X (unaryOp .USub) (rU λi=>.int (-i)):=unI λ_ _ _ _ _ q=>neg_int q
end
def m8:V->V->Bool
 | .non,.non=>true| .non,.int _=>true| .int _,.non=>true| .non,.bl _=>true| .bl _,.non=>true| .non,.str _=>true| .str _,.non=>true
 | .int _,.int _=>true| .bl _,.bl _=>true| .str _,.str _=>true| .byt _,.byt _=>true
 | .int _,.str _=>true| .str _,.int _=>true| .bl _,.str _=>true| .str _,.bl _=>true
 |_,_=>false
def rEq:R2:=λx y H Q=>m8 x y=true/\Q (.bl (decide (x=y))) H
def rNe:R2:=λx y H Q=>m8 x y=true/\Q (.bl (!decide (x=y))) H
theorem V3 {i j:Int}:decide (V.int i=V.int j)=(i==j):=by
 rw[ko];simp
theorem ZK {i j:Bool}:decide (V.bl i=V.bl j)=(i==j):=by
 rw[ko];simp
theorem V4 {i j:Str}:decide (V.str i=V.str j)=(i==j):=by
 rw[ko];simp
theorem V5 {i j:Array UInt8}:decide (V.byt i=V.byt j)=(i.toList==j.toList):=by
 rw[ko];cases i;cases j;simp
section
variable {X:Cx} {a b c:Expr} {ta tb tc:TE} {pos:Pos}
theorem BE {Df:List (ag×Obj)} {σ:St} {H:Hp} {s:ak} {Q:VK} {k k':Bool} (I:Inv X Df σ H s) (q:Q (.bl k) H) (e:k=k'):EP X Df σ Q (.bool k') s:=by
 subst e;exact⟨.bl k,H,I,rfl,q⟩
theorem CY:OpR X (kj .Eq) rEq:=by
 intro Df s σ H x y v u Q I rx ry h;obtain⟨hs,q⟩:=h;cases x with
 |non=>
  cases rx;cases y with
  |non=>cases ry;exact z9 (BE I q (by simp))
  |bl j=>cases ry;exact Aa (BE I q (by simp))
  |int j=>obtain⟨t',rfl⟩:=ry;exact Am (BE I q (by simp))
  |str j=>obtain⟨t',rfl⟩:=ry;exact An (BE I q (by simp))
  |_=>exact absurd (show false=true from hs) bw
 |bl i=>
  cases rx;cases y with
  |non=>cases ry;exact Ab (BE I q (by simp))
  |bl j=>cases ry;exact eq_bool (BE I q ZK)
  |str j=>obtain⟨t',rfl⟩:=ry;exact Ac (BE I q (by simp))
  |_=>exact absurd (show false=true from hs) bw
 |int i=>
  obtain⟨t,rfl⟩:=rx;cases y with
  |non=>cases ry;exact Ao (BE I q (by simp))
  |int j=>obtain⟨t',rfl⟩:=ry;exact eq_int (BE I q V3)
  |str j=>obtain⟨t',rfl⟩:=ry;exact Ap (BE I q (by simp))
  |_=>exact absurd (show false=true from hs) bw
 |str i=>
  obtain⟨t,rfl⟩:=rx;cases y with
  |non=>cases ry;exact Aq (BE I q (by simp))
  |bl j=>cases ry;exact Ad (BE I q (by simp))
  |int j=>obtain⟨t',rfl⟩:=ry;exact Ar (BE I q (by simp))
  |str j=>obtain⟨t',rfl⟩:=ry;exact eq_str (BE I q V4)
  |_=>exact absurd (show false=true from hs) bw
 |byt i=>
  obtain⟨t,rfl⟩:=rx;cases y with
  |byt j=>obtain⟨t',rfl⟩:=ry;exact PySem.W.eq_bytes (BE I q V5)
  |_=>exact absurd (show false=true from hs) bw
 |_=>cases y<;>exact absurd (show false=true from hs) bw
theorem ZL:OpR X (kj .NotEq) rNe:=by
 intro Df s σ H x y v u Q I rx ry h;obtain⟨hs,q⟩:=h;cases x with
 |non=>
  cases rx;cases y with
  |non=>cases ry;exact Ae (BE I q (by simp))
  |bl j=>cases ry;exact Af (BE I q (by simp))
  |int j=>obtain⟨t',rfl⟩:=ry;exact As (BE I q (by simp))
  |str j=>obtain⟨t',rfl⟩:=ry;exact Au (BE I q (by simp))
  |_=>exact absurd (show false=true from hs) bw
 |bl i=>
  cases rx;cases y with
  |non=>cases ry;exact Ag (BE I q (by simp))
  |bl j=>cases ry;exact ne_bool (BE I q (congrArg not ZK))
  |str j=>obtain⟨t',rfl⟩:=ry;exact Ah (BE I q (by simp))
  |_=>exact absurd (show false=true from hs) bw
 |int i=>
  obtain⟨t,rfl⟩:=rx;cases y with
  |non=>cases ry;exact Av (BE I q (by simp))
  |int j=>obtain⟨t',rfl⟩:=ry;exact ne_int (BE I q (congrArg not V3))
  |str j=>obtain⟨t',rfl⟩:=ry;exact Aw (BE I q (by simp))
  |_=>exact absurd (show false=true from hs) bw
 |str i=>
  obtain⟨t,rfl⟩:=rx;cases y with
  |non=>cases ry;exact Ax (BE I q (by simp))
  |bl j=>cases ry;exact Ai (BE I q (by simp))
  |int j=>obtain⟨t',rfl⟩:=ry;exact Ay (BE I q (by simp))
  |str j=>obtain⟨t',rfl⟩:=ry;exact ne_str (BE I q (congrArg not V4))
  |_=>exact absurd (show false=true from hs) bw
 |byt i=>
  obtain⟨t,rfl⟩:=rx;cases y with
  |byt j=>obtain⟨t',rfl⟩:=ry;exact PySem.W.ne_bytes (BE I q (congrArg not V5))
  |_=>exact absurd (show false=true from hs) bw
 |_=>cases y<;>exact absurd (show false=true from hs) bw
theorem IK:OpR X (kj .Lt) (rI0 λi j=>.bl (decide (i<j))):=dS λ_ _ _ _ _ _ _ q=>lt_int q
theorem JM:OpR X (kj .LtE) (rI0 λi j=>.bl (decide (i<=j))):=dS λ_ _ _ _ _ _ _ q=>le_int q
theorem EZ:OpR X (kj .Gt) (rI0 λi j=>.bl (decide (j<i))):=dS λ_ _ _ _ _ _ _ q=>gt_int q
theorem m9:OpR X (kj .GtE) (rI0 λi j=>.bl (decide (j<=i))):=dS λ_ _ _ _ _ _ _ q=>ge_int q
theorem iW:OpR X (kj .Is) (λx y H Q=>y= .non/\Q (.bl (decide (x= .non))) H):=by
 intro Df s σ H x y v u Q I rx ry h;obtain⟨rfl,q⟩:=h;cases ry;refine is_none_gen (BE I q ?_);cases x<;>first
  |(cases rx;rfl)
  |(obtain⟨t,rfl⟩:=rx;rfl)
theorem dU:OpR X (kj .IsNot) (λx y H Q=>y= .non/\Q (.bl (!decide (x= .non))) H):=by
 intro Df s σ H x y v u Q I rx ry h;obtain⟨rfl,q⟩:=h;cases ry;refine isnot_none_gen (BE I q ?_);cases x<;>first
  |(cases rx;rfl)
  |(obtain⟨t,rfl⟩:=rx;rfl)
theorem AQ (b:Expr) {op:Bg} (h:op≠.In:=by decide) (h2:op≠.NotIn:=by decide):ph op b=false:=by
 have e1:(op==De)=false:=by cases op<;>first|rfl|exact absurd rfl h
 have e2:(op==Ca)=false:=by cases op<;>first|rfl|exact absurd rfl h2
 cases b<;>simp[ph,e1,e2]
theorem DI {op:Bg} {r:R2} (ho:OpR X (kj op) r) (ha:PE X a ta) (hb:PE X b tb) (hm:ph op b=false):PE X (.Compare a [op] [b] pos) (tOp r ta tb):=by
 intro Df s σ H Q I h;exact wpAny_Compare1 (iV ha hb I h λv u s2 x y H2 I2 rx ry q=>ho Df s2 σ H2 x y v u Q I2 rx ry q) hm
def RQ (t:TE):TT:=λσ H Q=>t σ H λx H'=>BlAt x λk=>Q k H'
theorem AN {op:Bg} {r:R2} (ho:OpR X (kj op) r) (ha:PE X a ta) (hb:PE X b tb) (hm:ph op b=false):PT X (.Compare a [op] [b] pos) (RQ (tOp r ta tb)):=by
 intro Df s σ H Q I h;refine wJ (thn (ha Df s σ H _ I h) λv s1 ⟨x,H1,I1,r1,q1⟩=>thn (hb Df s1 σ H1 _ I1 q1) λu s2 ⟨y,H2,I2,r2,q2⟩=>
  thn (ho Df s2 σ H2 x y v u _ I2 r1 r2 q2) λc s3 ⟨z,H3,I3,r3,k,e,q3⟩=>?_) hm
 subst e;cases r3;exact qb ⟨H3,I3,q3⟩
def iX (r r':R2) (ta tb tc:TE):TE:=λσ H Q=>ta σ H λx H1=>tb σ H1 λy H2=>r x y H2 λz H3=>BlAt z λk=>
 (if k=true then tc σ H3 λw' H4=>r' y w' H4 Q else Q (.bl false) H3)
theorem RR {op op':Bg} {r r':R2} (ho:OpR X (kj op) r) (ho':OpR X (kj op') r') (ha:PE X a ta) (hb:PE X b tb) (hc:PE X c tc)
 (hm:lastMarks [op,op'] [b,c]=false:=by with_unfolding_all rfl):PE X (.Compare a [op,op'] [b,c] pos) (iX r r' ta tb tc):=by
 intro Df s σ H Q I h;refine Compare_chain (thn (ha Df s σ H _ I h) λv s1 ⟨x,H1,I1,r1,q1⟩=>chain_link (thn (hb Df s1 σ H1 _ I1 q1) λu s2 ⟨y,H2,I2,r2,q2⟩=>
  thn (ho Df s2 σ H2 x y v u _ I2 r1 r2 q2) λd s3 ⟨z,H3,I3,r3,k,e,q3⟩=>?_)) hm
 subst e;cases r3;refine qb ?_;cases k with
 |false=>exact ite_ff ⟨.bl false,H3,I3,rfl,q3⟩
 |true=>exact ite_tt (chain_last (thn (hc Df s3 σ H3 _ I3 q3) λw' s4 ⟨z',H4,I4,r4,q4⟩=>ho' Df s4 σ H4 y z' u w' Q I4 r2 r4 q4))
theorem KH:(sizeLine:Nat)<2 ^ 63:=by rw[cf];decide
theorem T3:OpR X (tq .Add) (λx y H Q=>Ex2 λi j=>x= .str i/\y= .str j/\i.length+j.length<=sizeLine/\Q (.str (i++j)) H):=by
 intro Df s σ H x y v u Q I rx ry h;obtain⟨i,j,rfl,rfl,hz,q⟩:=h;obtain⟨t,rfl⟩:=rx;obtain⟨t',rfl⟩:=ry;exact add_str (λt' tk=>⟨.str (i++j),H,I.tok _,⟨_,rfl⟩,q⟩) hz
theorem OU {x:V} {us:List ah} (r:Vals [x] us):∃u,us=[u]/\RelV x u:=by
 cases r with
 |cons r1 r2=>cases r2;exact⟨_,rfl,r1⟩
theorem JN:LC X (.builtin "abs") (λxs H Q=>∃i,xs=[.int i]/\Q (.int (if i<0 then -i else i)) H):=by
 intro Df s σ H xs us Q I r h;obtain⟨i,rfl,q⟩:=h;obtain⟨u,rfl,t,rfl⟩:=OU r;exact call_abs_int λu tk=>⟨.int (if i<0 then -i else i),H,I.tok _,⟨_,rfl⟩,q⟩
theorem ZM:LC X (.builtin "ord") (λxs H Q=>∃x,xs=[.str x]/\x.length=1/\Q (.int (x.cps.getD 0 0:Nat)) H):=by
 intro Df s σ H xs us Q I r h;obtain⟨x,rfl,hz,q⟩:=h;obtain⟨u,rfl,t,rfl⟩:=OU r;exact ord_of_one hz ⟨.int _,H,I.tok _,⟨_,rfl⟩,q⟩
end
structure ObjM (h:cr) (x dx C:ag) (mA:Str->Option ah):Prop where
 obj:h.get? x=some (kn C dx)
 ns:h.Ns1 dx mA
 ne:dx≠x
theorem KI {h:cr} {dx:ag} {mA:Str->Option ah} (n:h.Ns1 dx mA):∃od,h.get? dx=some od/\∀name,vh name od=some (mA name):=by
 obtain⟨o,es,ep,ho,hd,hk,_,hm⟩:=n;refine⟨o,ho,λname=>?_⟩;have e:=hm name;unfold nsFind findBy at e;rw[←Array.find?_toList] at e;unfold vh;rw[hd];dsimp only;split
 ·rename_i y q;rw[q] at e;exact congrArg some e
 ·rename_i q;rw[q] at e;have a:es.toList.any (·.refKey)=false:=by
   rw[List.any_eq_false];intro y hy;obtain⟨z,t,hkey⟩:=hk y (Array.mem_toList_iff.mp hy);simp[DictEntry.refKey,hkey]
  have a':¬es.toList.any (·.refKey)=true:=by rw[a];exact bw
  rw[Dn a'];exact congrArg some e
theorem ObjM.look {h:cr} {x dx C:ag} {mA:Str->Option ah} (I:ObjM h x dx C mA):∃od,zy h x (kn C dx) C (some od)/\∀name,vh name od=some (mA name):=
 let ⟨od,ho,hl⟩:=KI I.ns
 ⟨od,⟨I.obj,rfl,rfl,ho⟩,hl⟩
section
variable {prog:bb} {w:cb} {A:dj} {E:ah->ak->Prop} {s:ak} {K:aa} {x dx C f:ag} {mA:Str->Option ah} {name:Str} {v:ah}
theorem dW {expr:Bool} {Q:ah->ak->Prop} (X:K.In s.heap) (I:ObjM s.heap x dx C mA) (hg:uq K C name=true) (hh:vH K C=true)
 (ha:im K (.ref C) name=some none) (hv:mA name=some v) (hv':yC v=true) (h:Q v { s with toks:=s.toks+1 }):
 bi (bo prog w) A (Bm (.ref x) name expr) Q E s:=by
 obtain⟨od,J,hl⟩:=I.look;exact PySem.W.get_value X J (uZ hg).1 (PySem.W.findObj_own hh ha rfl (by rw[hl,hv])) hv' h
theorem ZN {pl:Sem Bool} {Q:ah×List ah->ak->Prop} (X:K.In s.heap) (I:ObjM s.heap x dx C mA) (hg:uq K C name=true)
 (hf:im K (.ref C) name=some (some (.ref f))) (ht:qo K (.ref f)=true) (hv:mA name=none) (h:Q (.ref f,[.ref x]) s):
 bi (bo prog w) A (kz (.ref x) name pl) Q E s:=by
 obtain⟨od,J,hl⟩:=I.look;exact PySem.W.method_fn X J (uZ hg).1 (uZ hg).2 hf (beq_iff_eq.mp ht) (by show(vh name od).map (·.isSome)=some false;rw[hl,hv];rfl) h
theorem dX {ns:List Str} {Q:Unit->ak->Prop} (X:K.In s.heap) (I:ObjM s.heap x dx C mA)
 (hs:im K (.ref C) "__setattr__"=some (some (.builtin "object.__setattr__"))) (hp:yf K C=true) (ht:wz K C name=some none) (hh:vH K C=true)
 (hw:qk mA ns) (hsz:ns.length<=sizeLine)
 (h:∀h',ObjM h' x dx C (λy=>if y=name then some v else mA y)->ql dx s.heap h'->Q () { s with heap:=h',toks:=s.toks+2 }):
 bi (bo prog w) A (Bn (.ref x) name v) Q E s:=by
 obtain⟨od,J,hl⟩:=I.look;refine PySem.W.set_plain X J hs (PySem.W.osa_open (s:={ s with toks:=s.toks+1 }) (r:=none) X J hp ht λb=>?_);obtain⟨cd,hc,hd'⟩:=yD hh;have hx:s.heap.get? x=some ⟨.ref C,some dx,.plain,#[]⟩:=I.obj;refine ae (ao (ae (ae (wU hx (ae (on (s:={ s with toks:=s.toks+1 }) (PySem.W.looks_clsIn X hc) ?_))))));rw[hd'];refine ao (a:=some dx) (ae (ao (ae ?_)));refine yg (s:={ s with toks:=s.toks+1 }) I.ns λh' hn2 hs2=>?_;obtain⟨oD,esD,epD,hoD,hdD,hcD⟩:=hn2.count (vI name v hw);refine ae (v3 hoD (by rw[hdD];exact v4 (cu hcD (by rw[de];omega))) ?_);exact ao (h _ ⟨(hs2.2 _ (cw I.ne)).trans I.obj,hn2,I.ne⟩ hs2)
theorem ZO {R:yE->ak->Prop} {vs:List ah} {kw:List (Str×ah)} (X:K.In s.heap) (hm:wA K C=true)
 (hi:im K (.ref C) "__init__"=some (some (.ref f))) (hf:PySem.W.typeIn K (.ref f)=some (.type "function"))
 (h:nw (bo prog w) (A.under (.builtin "type.__call__" ⟨.ref C::vs,kw⟩)) (.call (.ref f) ⟨.ref (s.heap.objs.size+1)::vs,kw⟩) (PySem.W.InitBack (s.heap.objs.size+1) R)
  { s with heap:=(s.heap.push jd).push (kn C s.heap.objs.size) }):
 nw (bo prog w) A (.call (.ref C) ⟨vs,kw⟩) R s:=by
 obtain⟨hh,g,d,t,os⟩:=s;exact PySem.W.make_core (PySem.W.makes_of X hm) (PySem.W.looks_findIn X hi) (λself=>PySem.W.bind_fn X self hf) (.inl rfl) h
end
def FY (f:Str) (v:V):List (Str×V)->List (Str×V)
 |[]=>[(f,v)]
 |(g,x)::r=>if g=f then(g,v)::r else(g,x)::FY f v r
theorem G6 (f g:Str) (v:V):∀fs:List (Str×V),(FY f v fs).lookup g=if g=f then some v else fs.lookup g
 |[]=>by
  show jk g [(f,v)]=_;by_cases h:g=f
  ·have hb:(g==f)=true:=beq_iff_eq.mpr h;simp only[jk,hb,Dm h]
  ·have hb:(g==f)=false:=beq_eq_false_iff_ne.mpr h;simp only[jk,hb,Dn h]
 |(k,x)::r=>by
  have ih:=G6 f g v r;rw[show FY f v ((k,x)::r)=(if k=f then(k,v)::r else(k,x)::FY f v r) from rfl];by_cases hk:k=f
  ·rw[Dm hk];by_cases h:g=k
   ·have hb:(g==k)=true:=beq_iff_eq.mpr h;simp only[jk,hb,Dm (h.trans hk)]
   ·have hb:(g==k)=false:=beq_eq_false_iff_ne.mpr h;simp only[jk,hb,Dn (λe:g=f=>h (e.trans hk.symm))]
  ·rw[Dn hk];by_cases h:g=k
   ·have hb:(g==k)=true:=beq_iff_eq.mpr h;simp only[jk,hb,Dn (λe:g=f=>hk (h.symm.trans e))]
   ·have hb:(g==k)=false:=beq_eq_false_iff_ne.mpr h;simp only[jk,hb];exact ih
theorem GC (f:Str) (v:V):∀fs:List (Str×V),f∈(FY f v fs).map (·.1)/\∀g,g∈fs.map (·.1)->g∈(FY f v fs).map (·.1)
 |[]=>⟨by simp[FY],λg h=>by simp at h⟩
 |(k,x)::r=>by
  obtain⟨i1,i2⟩:=GC f v r;rw[show FY f v ((k,x)::r)=(if k=f then(k,v)::r else(k,x)::FY f v r) from rfl];by_cases hk:k=f
  ·rw[Dm hk];subst hk;exact⟨by simp,λg h=>by simpa using h⟩
  ·rw[Dn hk];refine⟨?_,λg h=>?_⟩
   ·rw[dc];exact aq _ i1
   ·rw[dc] at h ⊢;rcases bq.mp h with e|e
    ·exact bq.mpr (.inl e)
    ·exact aq _ (i2 g e)
theorem FP (f:Str) (v:V):∀fs:List (Str×V),(FY f v fs).length<=fs.length+1
 |[]=>by simp[FY]
 |(k,x)::r=>by
  have ih:=FP f v r;rw[show FY f v ((k,x)::r)=(if k=f then(k,v)::r else(k,x)::FY f v r) from rfl];by_cases hk:k=f
  ·rw[Dm hk,de,de];omega
  ·rw[Dn hk,de,de];omega
theorem RelO.some_of {v:V} {o:Option ah} (r:RelO (some v) o):∃u,o=some u/\RelV v u:=by
 cases o with
 |none=>exact(show False from r).elim
 |some u=>exact⟨u,rfl,r⟩
theorem RelO.none_of {o:Option ah} (r:RelO none o):o=none:=by
 cases o with
 |none=>rfl
 |some u=>exact(show False from r).elim
theorem OV {v:V} {u:ah} (r:RelV v u):yC u=true:=by
 cases v with
 |non=>cases (show u=iq from r);rfl
 |bl b=>cases (show u=Cp b from r);rfl
 |int i=>obtain⟨t,e⟩:=(show∃t,u=vY i t from r);cases e;rfl
 |str x=>obtain⟨t,e⟩:=(show∃t,u=yy x t from r);cases e;rfl
 |byt b=>obtain⟨t,e⟩:=(show∃t,u=By b t from r);cases e;rfl
 |flt b=>obtain⟨t,e⟩:=(show∃t,u=Bz b t from r);cases e;rfl
 |ref a=>cases (show u=cj a from r);rfl
 |ty n=>cases (show u=ji n from r);rfl
section
variable {P:bb} {w:cb} {H H':Hp} {h h':cr} {a C dx:ag} {fs fs':List (Str×V)}
theorem P8 (hok:HOk P w H h) (e:H a=some (.ins C dx fs)):∃mA,ObjM h a dx C mA/\(∀f,RelO (fs.lookup f) (mA f))/\qk mA (fs.map (·.1))/\fs.length<=1000/\H dx=some (.own a):=by
 obtain⟨d,z,ne,ob,mA,n,r,q⟩:=(show ObjOk P w H h a (.ins C dx fs) from hok a _ e)
 exact⟨mA,⟨ob,n,ne⟩,r,q,z,d⟩
end
structure Cls (K:aa) (C:ag):Prop where
 pg:uq K C Str.empty=true
 hd:vH K C=true
 po:yf K C=true
 sa:im K (.ref C) "__setattr__"=some (some (.builtin "object.__setattr__"))
theorem Cls.get {K:aa} {C:ag} (c:Cls K C) (f:Str):uq K C f=true:=c.pg
def NoAttr (K:aa) (C:ag) (f:Str):Prop:=im K (.ref C) f=some none
theorem NoAttr.taker {K:aa} {C:ag} {f:Str} (n:NoAttr K C f):wz K C f=some none:=by
 unfold wz;rw[show im K (.ref C) f=some none from n];rfl
structure Meth (K:aa) (C:ag) (m:Str) (f:ag):Prop where
 at_:im K (.ref C) m=some (some (.ref f))
 fn:qo K (.ref f)=true
 kp:fi K (.ref f)=true
section
variable {X:Cx} {Df:List (ag×Obj)} {σ:St} {H:Hp} {s:ak} {a C dx:ag} {fs:List (Str×V)} {f:Str} {v:V} {A:dj} {E:ah->ak->Prop}
theorem M0 {b:Bool} {Q:ah->ak->Prop} (I:Inv X Df σ H s) (e:H a=some (.ins C dx fs)) (c:Cls X.K C) (n:NoAttr X.K C f) (l:fs.lookup f=some v)
 (h:∀u s',Inv X Df σ H s'->RelV v u->Q u s'):bi (bo X.prog X.w) A (Bm (.ref a) f b) Q E s:=by
 obtain⟨mA,O,r,_,_,_⟩:=P8 I.hok e;obtain⟨u,hu,ru⟩:=RelO.some_of (v:=v) (o:=mA f) (by rw[←l];exact r f);exact dW I.kIn O (c.get f) c.hd n hu (OV ru) (h u _ (I.tok _) ru)
theorem IV {m:Str} {g:ag} {pl:Sem Bool} {Q:ah×List ah->ak->Prop} (I:Inv X Df σ H s) (e:H a=some (.ins C dx fs)) (c:Cls X.K C) (k:Meth X.K C m g) (l:fs.lookup m=none)
 (h:Q (.ref g,[.ref a]) s):bi (bo X.prog X.w) A (kz (.ref a) m pl) Q E s:=by
 obtain⟨mA,O,r,_,_,_⟩:=P8 I.hok e;have hn:mA m=none:=RelO.none_of (by rw[←l];exact r m);exact ZN I.kIn O (c.get m) k.at_ k.fn hn h
theorem M3 {y:V} {u:ah} {Q:Unit->ak->Prop} (I:Inv X Df σ H s) (e:H a=some (.ins C dx fs)) (c:Cls X.K C) (n:NoAttr X.K C f) (hl:fs.length<1000) (ry:RelV y u)
 (h:∀s',Inv X Df σ (upd H a (.ins C dx (FY f y fs))) s'->Q () s'):bi (bo X.prog X.w) A (Bn (.ref a) f u) Q E s:=by
 obtain⟨mA,O,r,wi,_,ho⟩:=P8 I.hok e;have hz:(fs.map (·.1)).length<=sizeLine:=by rw[ai,cf];omega
 refine dX I.kIn O c.sa c.po n.taker c.hd wi hz λh' O' sb=>h _ ?_;have hd:∃o,h'.get? dx=some o:=let ⟨o,_,_,e',_⟩:=O'.ns;⟨o,e'⟩;refine I.write (x:=a) (e:=dx) (by rw[e];exact jj) (.inr ho) (λb q hb z=>(sb.2 b hb).trans z) hd ?_;refine⟨by rw[AE O.ne];exact ho,?_,O.ne,O'.obj,_,O'.ns,λg=>?_,λg hg=>?_⟩
 ·have:=FP f y fs;omega
 ·show RelO ((FY f y fs).lookup g) (if g=f then some u else mA g);rw[G6];by_cases q:g=f
  ·rw[Dm q,Dm q];exact ry
  ·rw[Dn q,Dn q];exact r g
 ·by_cases q:g=f
  ·rw[q];exact(GC f y fs).1
  ·refine(GC f y fs).2 g (wi g λz=>hg ?_);show(if g=f then some u else mA g)=none;rw[Dn q];exact z
theorem Inv.made (I:Inv X Df σ H s):Inv X Df σ (upd (upd H s.heap.objs.size (.own (s.heap.objs.size+1))) (s.heap.objs.size+1) (.ins C s.heap.objs.size []))
 { s with heap:=(s.heap.push jd).push (kn C s.heap.objs.size) }:=by
 have e1:(s.heap.push jd).get? s.heap.objs.size=some jd:=bj s.heap rfl;have e2:((s.heap.push jd).push (kn C s.heap.objs.size)).get? (s.heap.objs.size+1)=some (kn C s.heap.objs.size):=by
  have:=bj (s.heap.push jd) (o:=kn C s.heap.objs.size) rfl
  rwa [fu] at this
 have e3:(s.heap.push jd).Ns s.heap.objs.size (λ_=>none):=⟨jd,#[],_,e1,rfl,(λe he=>absurd he (by simp)),λ_=>rfl⟩
 have I1:=I.laid (a:=s.heap.objs.size) (o:=.own (s.heap.objs.size+1)) (h':=s.heap.push jd) (t':=s.toks) (λb u q=>am _ q) (aw _) ⟨_,e1⟩;refine I1.laid (a:=s.heap.objs.size+1) (o:=.ins C s.heap.objs.size []) (t':=s.toks) (λb u q=>am _ q) (tu (fu _ _)) ?_;have ne:s.heap.objs.size≠s.heap.objs.size+1:=cp (v5 _);refine⟨by rw[AE ne,upd_same],du _,ne,e2,λ_=>none,(yh e3).at λo q=>am _ q,λ_=>jj,λy hy=>absurd rfl hy⟩
theorem V6 {prog:bb} {w:cb} {env:Env} {e:Expr} {f:Str} {pos:Pos} {s:ak} {Q:ah->ak->Prop} (hb:jy e f env (eval e env)=eval e env)
 (h:bi (bo prog w) A (eval e env) (λo s₁=>bi (bo prog w) A (Bm o f true) Q E s₁) E s):bi (bo prog w) A (eval (.Attribute e f pos) env) Q E s:=
 Attribute_any_ h (by rw[arm_eval_Attribute,hb])
end
inductive FldAt (K:aa) (f:Str) (x:V) (H:Hp) (Q:V->Prop):Prop
 |intro(a C dx:ag) (fs:List (Str×V)) (v:V) (e:x= .ref a) (h1:H a=some (.ins C dx fs)) (h2:Cls K C) (h3:NoAttr K C f) (h4:fs.lookup f=some v) (h:Q v):FldAt K f x H Q
def OG (K:aa) (ta:TE) (f:Str):TE:=λσ H Q=>ta σ H λx H1=>FldAt K f x H1 λv=>Q v H1
def tM (K:aa) (ta tv:TE) (f:Str):TS:=λD σ H=>tv σ H λy H1=>ta σ H1 λx H2=>Ex4 λa C dx fs=>x= .ref a/\H2 a=some (.ins C dx fs)/\Cls K C/\NoAttr K C f/\fs.length<1000/\
 D.nx σ (upd H2 a (.ins C dx (FY f y fs)))
def nA (X:Cx) (op:yd) (rd:V->V->Hp->VK->Prop):Prop:=
 ∀(Df:List (ag×Obj)) (s:ak) (σ:St) (H:Hp) (x y:V) (u v:ah) (Q:VK),Inv X Df σ H s->RelV x u->RelV y v->rd x y H Q->bi (bo X.prog X.w) X.A (Bh op u v) (EP X Df σ Q) X.xe s
def dY (K:aa) (ta tv:TE) (rd:V->V->Hp->VK->Prop) (f:Str):TS:=λD σ H=>ta σ H λx H1=>Ex5 λa C dx fs v=>x= .ref a/\H1 a=some (.ins C dx fs)/\Cls K C/\NoAttr K C f/\fs.lookup f=some v/\
 tv σ H1 λy H2=>rd v y H2 λz H3=>Ex2 λdx' fs'=>H3 a=some (.ins C dx' fs')/\fs'.length<1000/\D.nx σ (upd H3 a (.ins C dx' (FY f z fs')))
section
variable {X:Cx} {o e value:Expr} {f:Str} {pos pos' tpos:Pos} {ta tv:TE}
theorem AT (he:PE X e ta) (hb:jy e f X.env (eval e X.env)=eval e X.env):PE X (.Attribute e f pos) (OG X.K ta f):=by
 intro Df s σ H Q I h;refine V6 hb (thn (he Df s σ H _ I h) λu s1 ⟨x,H1,I1,rx,a,C,dx,fs,v,ex,ea,c,n,l,q⟩=>?_);subst ex;obtain rfl:u=cj a:=rx;exact M0 I1 ea c n l λu' s2 I2 ru=>⟨v,H1,I2,ru,q⟩
theorem C5 (ha:PE X o ta) (hv:PE X value tv) (hs:qm value (some (.Attribute o f pos')) pos.line X.env=pure false):PS X (.Assign [.Attribute o f pos'] value pos) (tM X.K ta tv f):=by
 intro Df s σ H D I h;refine nj (thn (hv Df s σ H _ I h) λu s1 ⟨y,H1,I1,ry,q⟩=>thn (ha Df s1 σ H1 _ I1 q) λov s2 ⟨x,H2,I2,rx,a,C,dx,fs,ex,ea,c,n,l,q2⟩=>?_) hs;subst ex;obtain rfl:ov=cj a:=rx;exact M3 I2 ea c n l ry λs3 I3=>⟨σ,_,I3,q2⟩
theorem YB {op:yd} {rd:V->V->Hp->VK->Prop} (ha:PE X o ta) (hv:PE X value tv) (hop:nA X op rd):PS X (.AugAssign (.Attribute o f tpos) op value pos) (dY X.K ta tv rd f):=by
 intro Df s σ H D I h;refine wpAny_AugAssign_AttributeAny (thn (ha Df s σ H _ I h) λov s1 ⟨x,H1,I1,rx,a,C,dx,fs,v,ex,ea,c,n,l,q⟩=>?_);subst ex;obtain rfl:ov=cj a:=rx;refine M0 I1 ea c n l λu s2 I2 ru=>thn (hv Df s2 σ H1 _ I2 q) λw3 s3 ⟨y,H2,I3,ry,q3⟩=>thn (hop Df s3 σ H2 v y u w3 _ I3 ru ry q3) λw4 s4 ⟨z,H3,I4,rz,dx',fs',ea',l',q4⟩=>?_;exact M3 I4 ea' c n l' rz λs5 I5=>⟨σ,_,I5,q4⟩
def tN:V->V->Hp->VK->Prop:=λx y H Q=>I2At x y λi j=>Q (.int (i+j)) H
theorem iY:nA X .Add tN:=by
 rintro Df s σ H x y u v Q I rx ry ⟨i,j,rfl,rfl,q⟩;obtain⟨t,rfl⟩:=(show∃t,u=vY i t from rx)
 obtain⟨t',rfl⟩:=(show∃t',v=vY j t' from ry)
 exact Bv ⟨.int (i+j),H,I.tok _,⟨_,rfl⟩,q⟩
theorem gF {pl:Sem Bool} {m:Str} {apos:Pos} {args:List Expr} {Df:List (ag×Obj)} {s:ak} {σ:St} {H:Hp} {Q:ah->ak->Prop} {te:TE} (he:PE X e te) (I:Inv X Df σ H s)
 (h:te σ H λx H1=>∃a C dx fs g,x= .ref a/\H1 a=some (.ins C dx fs)/\Cls X.K C/\Meth X.K C m g/\fs.lookup m=none/\
  ∀s1,Inv X Df σ H1 s1->bi (bo X.prog X.w) X.A (nz pos (.ref g) [.ref a] (ie pos (be args X.env)) (kf pos (gr [] X.env))) Q X.xe s1)
 (ht:eval (.Call (.Attribute e m apos) args [] pos) X.env=(do
  let ov←eval e X.env
  nq apos.atName
  let (f,first)←mj [ov] (kz ov m pl)
  nz pos f first (ie pos (be args X.env)) (kf pos (gr [] X.env)))):
 bi (bo X.prog X.w) X.A (eval (.Call (.Attribute e m apos) args [] pos) X.env) Q X.xe s:=by
 refine qa (pl:=pl) (thn (he Df s σ H _ I h) λu s1 ⟨x,H1,I1,rx,a,C,dx,fs,g,ex,ea,c,k,l,q⟩=>?_) ht;subst ex;obtain rfl:u=cj a:=rx;exact IV I1 ea c k l (q s1 I1)
end
structure Room (k:Nat) (A:dj):Prop where
 hd:A.handled=none
 dp:A.depth+3*k+5<vi
 un:A.units+16*k+200<wV
theorem Room.mono {j k:Nat} {A:dj} (r:Room k A) (h:j<=k):Room j A:=⟨r.hd,by have:=r.dp;omega,by have:=r.un;omega⟩
theorem Room.deeper {k:Nat} {A:dj} (r:Room (k+1) A) (env:Env):Room k (A.deeper env):=
 ⟨r.hd,by have:=r.dp;show A.depth+1+3*k+5<_;omega,by have:=r.un;show A.units+3+16*k+200<_;omega⟩
theorem Room.in1 {k:Nat} {A:dj} (r:Room (k+1) A):Room k A.in1:=
 ⟨r.hd,by have:=r.dp;show A.depth+3*k+5<_;omega,by have:=r.un;show A.units+1+16*k+200<_;omega⟩
theorem M4 {A:dj} {C:ag} {us:List ah} {kw:List (Str×ah)}:(A.under (.builtin "type.__call__" ⟨.ref C::us,kw⟩)).depth=A.depth+1:=by
 first|rfl|simp[yi,Code.weight,Code.isCreation,Code.isGuard,Code.isCaller,Cd,yj,guardIds]
theorem M5 {A:dj} {C:ag} {us:List ah} {kw:List (Str×ah)}:(A.under (.builtin "type.__call__" ⟨.ref C::us,kw⟩)).units=A.units+1:=by
 first|rfl|simp[yi,Code.cUnits,Cd,yj]
theorem Room.make {k:Nat} {A:dj} (r:Room (k+1) A) (C:ag) (us:List ah) (kw:List (Str×ah)):Room k (A.under (.builtin "type.__call__" ⟨.ref C::us,kw⟩)):=
 ⟨r.hd,by have:=r.dp;rw[M4];omega,by have:=r.un;rw[M5];omega⟩
theorem Room.depth {k:Nat} {A:dj} (r:Room k A):A.depth<vi:=by have:=r.dp;omega
theorem Room.units {k:Nat} {A:dj} (r:Room k A):A.units+64<wV:=by have:=r.un;omega
def EQ:TA:=λ_ H Q=>Q [] H
def B9 (ta:TE) (tr:TA):TA:=λσ H Q=>ta σ H λx H1=>tr σ H1 λxs H2=>Q (x::xs) H2
section
variable {X:Cx} {e:Expr} {es:List Expr} {te:TE} {t:TA} {pos:Pos}
theorem AF:PA X [] EQ:=λ_ _ _ _ H Q I h=>tz ⟨[],H,I,.nil,h⟩
theorem AA (ha:PE X e te) (hr:PA X es t) (hs:be (e::es) X.env=(false,eval e X.env)::be es X.env:=by rfl):PA X (e::es) (B9 te t):=by
 intro pos Df s σ H Q I h;rw[hs];show bi _ _ (Bl ((false,eval e X.env)::ie pos (be es X.env))) _ _ s;refine vj (thn (ha Df s σ H _ I h) λu s1 ⟨x,H1,I1,r1,q1⟩=>?_);exact thn (hr pos Df s1 σ H1 _ I1 q1) λus s2 ⟨xs,H2,I2,r2,q2⟩=>⟨x::xs,H2,I2,.cons r1 r2,q2⟩
def iZ (t:TA):TE:=λσ H Q=>t σ H λxs H1=>xs.length<=sizeLine/\∀p,H1 p=none->Q (.ref p) (upd H1 p (.tup xs))
def i5 (t:TA):TE:=λσ H Q=>t σ H λxs H1=>xs.length<=sizeLine/\∀p,H1 p=none->Q (.ref p) (upd H1 p (.lst xs))
theorem E8 {x1} (h:PA X es t):PE X (.Tuple es x1 pos) (iZ t):=by
 intro Df s σ H Q I hq;refine wpAny_Tuple_spliced (thn (h pos Df s σ H _ I hq) λus s1 ⟨xs,H1,I1,r,z,q⟩=>⟨by rw[←r.length];exact z,?_⟩);have hf:H1 s1.heap.objs.size=none:=I1.hok.fresh (aw _);refine⟨.ref s1.heap.objs.size,upd H1 s1.heap.objs.size (.tup xs),I1.laid (t':=s1.toks) (λb u e=>am _ e) (aw _) ?_,rfl,q _ hf⟩;exact⟨z,us,r,⟨_,bj _ rfl,rfl,_,rfl⟩⟩
theorem DL (h:PA X es t):PE X (.List es pos) (i5 t):=by
 intro Df s σ H Q I hq;refine wpAny_List_spliced (thn (h pos Df s σ H _ I hq) λus s1 ⟨xs,H1,I1,r,z,q⟩=>⟨by rw[←r.length];exact z,?_⟩);have hf:H1 s1.heap.objs.size=none:=I1.hok.fresh (aw _);refine⟨.ref s1.heap.objs.size,upd H1 s1.heap.objs.size (.lst xs),I1.laid (t':=s1.toks) (λb u e=>am _ e) (aw _) ?_,rfl,q _ hf⟩;exact⟨z,us,0,r,bj _ rfl⟩
end
abbrev Sp:=List V->Hp->VK->XK->Prop
abbrev CXT:=List Env->Hp->ak->XK->ah->ak->Prop
structure Env0 (P:bb) (w:cb) (K:aa) (mg:Str->Option ah) (base:cr) (A:dj) (outer:List Env) (s:ak) (H:Hp):Prop where
 frames:A.frames=some outer
 mod:Mod K mg base
 bs:∀b o,base.get? b=some o->s.heap.get? b=some o/\H b=none
 bsz:base.objs.size<=s.heap.objs.size
 funs:s.heap.FunFrames base outer
 frf:∀b∈frs outer,H b=none
 hok:HOk P w H s.heap
 bare:wk s.gens
def CE (outer:List Env) (P:bb) (w:cb) (H:Hp) (s:ak) (Q:VK) (u:ah) (s':ak):Prop:=
 Ex2 λv H'=>s'.os=s.os/\wk s'.gens/\Un (frs outer) [] H H' s.heap s'.heap/\HOk P w H' s'.heap/\RelV v u/\Q v H'
def CR (CX:CXT) (outer:List Env) (P:bb) (w:cb) (H:Hp) (s:ak) (Q:VK) (E:XK) (r:yE) (s':ak):Prop:=
 match r with
 | .ok (.ret u)=>CE outer P w H s Q u s'
 | .ok _=>False
 | .error e=>CX outer H s E e s'
structure FnOk (P:bb) (w:cb) (K:aa) (mg:Str->Option ah) (base:cr) (CX:CXT) (k:Nat) (f:ag) (fd:fv) (ps:List Str) (sp:Sp):Prop where
 len:∀vs H Q E,sp vs H Q E->vs.length=ps.length
 run:∀(A:dj) (outer:List Env) (s:ak) (H:Hp) (args:Args) (us:List ah) (vs:List V) (Q:VK) (E:XK),Room k A->Env0 P w K mg base A outer s H->xw s fd args (ps.zip us)->Vals vs us->sp vs H Q E->
  nw (bo P w) A (.call (.ref f) args) (CR CX outer P w H s Q E) s
theorem FnOk.mono {P:bb} {w:cb} {K:aa} {mg:Str->Option ah} {base:cr} {CX:CXT} {j k:Nat} {f:ag} {fd:fv} {ps:List Str} {sp:Sp} (F:FnOk P w K mg base CX j f fd ps sp) (h:j<=k):
 FnOk P w K mg base CX k f fd ps sp:=⟨F.len,λA outer s H args us vs Q E hr=>F.run A outer s H args us vs Q E (hr.mono h)⟩
theorem Env0.make {P:bb} {w:cb} {K:aa} {mg:Str->Option ah} {base:cr} {A:dj} {outer:List Env} {s:ak} {H:Hp} (e:Env0 P w K mg base A outer s H) (C:ag) (us:List ah) (kw:List (Str×ah)):
 Env0 P w K mg base (A.under (.builtin "type.__call__" ⟨.ref C::us,kw⟩)) outer s H:=⟨by first|exact e.frames|(simpa [yi,Code.envs,yj,pushEnvs] using e.frames),e.mod,e.bs,e.bsz,e.funs,e.frf,e.hok,e.bare⟩
theorem Env0.in1 {P:bb} {w:cb} {K:aa} {mg:Str->Option ah} {base:cr} {A:dj} {outer:List Env} {s:ak} {H:Hp} (e:Env0 P w K mg base A outer s H):
 Env0 P w K mg base A.in1 outer s H:=⟨e.frames,e.mod,e.bs,e.bsz,e.funs,e.frf,e.hok,e.bare⟩
section
variable {X:Cx} {Df:List (ag×Obj)} {σ:St} {H:Hp} {s s':ak}
theorem Inv.env0 (I:Inv X Df σ H s):Env0 X.prog X.w X.K X.mg X.base X.A X.stack s H:=
 ⟨I.ok.frames,I.ok.mod,I.bs,cu I.ok.bsz I.sz,I.stack,I.stkFree,I.hok,I.bare⟩
theorem Inv.after {Q:VK} {u:ah} (I:Inv X Df σ H s) (h:CE X.stack X.prog X.w H s Q u s'):EP X Df σ Q u s':=by
 obtain⟨v,H',os,bare,un,hok,r,q⟩:=h;obtain⟨hh,g,d,t,os'⟩:=s';obtain rfl:os'=s.os:=os;exact⟨v,H',I.call (h':=hh) (g':=g) (d':=d) (t':=t) (ch:=[]) un hok bare (λb z=>absurd z (by simp)),r,q⟩
end
def LD (sp:Sp) (dvs:List V) (E:XK) (t:TA):TE:=λσ H Q=>t σ H λvs H1=>sp (vs++dvs) H1 Q E
def RS (C:ag) (m:Str) (sp:Sp) (dvs:List V) (E:XK) (ta:TE) (t:TA):TE:=λσ H Q=>ta σ H λx H1=>Ex3 λa dx fs=>x= .ref a/\H1 a=some (.ins C dx fs)/\fs.lookup m=none/\
 t σ H1 λvs H2=>sp (x::(vs++dvs)) H2 Q E
def V7 (C:ag) (sp:Sp) (dvs:List V) (E:XK) (t:TA):TE:=λσ H Q=>t σ H λvs H1=>∀x dx,H1 x=none->H1 dx=none->dx≠x->
 sp (.ref x::(vs++dvs)) (upd (upd H1 dx (.own x)) x (.ins C dx [])) (λv H2=>v= .non/\Q (.ref x) H2) E
def Binds (K:aa) (fd:fv) (ps:List Str) (ds:List ah):Prop:=
 ∀(s:ak) (us:List ah),K.In s.heap->(us++ds).length=ps.length->xw s fd ⟨us,[]⟩ (ps.zip (us++ds))
theorem Binds.all {K:aa} {fd:fv} {ps:List Str} (h:∀us:List ah,us.length=ps.length->wW fd ⟨us,[]⟩=pure (ps.zip us)):Binds K fd ps []:=λs us _ hl=>by
 rw[jh] at hl ⊢;exact .of_eq (h us hl)
def EA (CX:CXT) (X:Cx) (E:XK):Prop:=∀(Df:List (ag×Obj)) (σ:St) (H:Hp) (s:ak) (e:ah) (s':ak),Inv X Df σ H s->CX X.stack H s E e s'->X.xe e s'
section
variable {X:Cx} {CX:CXT} {k:Nat} {f C:ag} {fd:fv} {ps:List Str} {sp:Sp} {dvs:List V} {ds:List ah} {E:XK} {x m:Str} {p pos apos:Pos} {e o:Expr} {es:List Expr} {ta:TE} {t:TA}
theorem T4 {Df:List (ag×Obj)} {σ:St} {H:Hp} {s:ak} {Q:VK} {us:List ah} {vs:List V} (F:FnOk X.prog X.w X.K X.mg X.base CX k f fd ps sp) (hr:Room k X.A) (hb:Binds X.K fd ps ds) (hd:Vals dvs ds) (hx:EA CX X E)
 (I:Inv X Df σ H s) (r:Vals vs us) (h:sp (vs++dvs) H Q E):bi (bo X.prog X.w) X.A (call (.ref f) us) (EP X Df σ Q) X.xe s:=by
 have r2:Vals (vs++dvs) (us++ds):=r.append hd;have hl:(us++ds).length=ps.length:=by rw[←r2.length];exact F.len _ _ _ _ h
 refine ur (oo (F.run X.A X.stack s H ⟨us,[]⟩ (us++ds) (vs++dvs) Q E hr I.env0 (hb s us I.kIn hl) r2 h) λr s' hq=>?_);cases r with
 |error e=>exact hx Df σ H s e s' I hq
 |ok fl=>
  cases fl with
  |ret u=>exact I.after hq
  |next=>exact fk hq
  |brk=>exact fk hq
  |cont=>exact fk hq
theorem dZ (F:FnOk X.prog X.w X.K X.mg X.base CX k f fd ps sp) (hr:Room k X.A) (hg:Gl X x) (hm:X.mg x=some (.ref f)) (hk:fi X.K (.ref f)=true) (hb:Binds X.K fd ps ds) (hd:Vals dvs ds) (hx:EA CX X E)
 (ha:PA X (e::es) t) (hdb:(x==("__debug__":Str))=false:=by decide) (he:be (e::es) X.env=(false,eval e X.env)::be es X.env:=by rfl) (hpl:(ie pos (be es X.env)).any (·.1)=false:=by rfl):
 PE X (.Call (.Name x p) (e::es) [] pos) (LD sp dvs E t):=by
 intro Df s σ H Q I h;refine ij (E0 I hg hm ?_ hdb);refine oq (h₀:=X.base) I.ok.mod.kin hk (thn (ha pos Df s σ H _ I h) λus s1 ⟨vs,H1,I1,r,q⟩=>⟨I1.kIn,?_⟩) he hpl;exact T4 F hr hb hd hx I1 r q
theorem d3 {pl:Sem Bool} (he:PE X o ta) (c:Cls X.K C) (hm:Meth X.K C m f) (F:FnOk X.prog X.w X.K X.mg X.base CX k f fd ps sp) (hr:Room k X.A) (hb:Binds X.K fd ps ds) (hd:Vals dvs ds) (hx:EA CX X E) (ha:PA X (e::es) t)
 (hst:be (e::es) X.env=(false,eval e X.env)::be es X.env:=by rfl) (hpl:(ie pos (be es X.env)).any (·.1)=false:=by rfl)
 (ht:eval (.Call (.Attribute o m apos) (e::es) [] pos) X.env=(do
  let ov←eval o X.env
  nq apos.atName
  let (f,first)←mj [ov] (kz ov m pl)
  nz pos f first (ie pos (be (e::es) X.env)) (kf pos (gr [] X.env))):=by rfl):
 PE X (.Call (.Attribute o m apos) (e::es) [] pos) (RS C m sp dvs E ta t):=by
 intro Df s σ H Q I h;refine qa (pl:=pl) (thn (he Df s σ H _ I h) λu s1 ⟨x,H1,I1,rx,a,dx,fs,ex,ea,l,q⟩=>?_) ht;subst ex;obtain rfl:u=cj a:=rx;refine IV I1 ea c hm l ?_;refine oq (first:=[.ref a]) (h₀:=X.base) I.ok.mod.kin hm.kp (thn (ha pos Df s1 σ H1 _ I1 q) λus s2 ⟨vs,H2,I2,r,q2⟩=>⟨I2.kIn,?_⟩) hst hpl;exact T4 (us:=.ref a::us) (vs:=.ref a::vs) F hr hb hd hx I2 (.cons rfl r) q2
theorem ZP {pl:Sem Bool} (he:PE X o ta) (c:Cls X.K C) (hm:Meth X.K C m f) (F:FnOk X.prog X.w X.K X.mg X.base CX k f fd ps sp) (hr:Room k X.A) (hb:Binds X.K fd ps ds) (hd:Vals dvs ds) (hx:EA CX X E)
 (ht:eval (.Call (.Attribute o m apos) [] [] pos) X.env=(do
  let ov←eval o X.env
  nq apos.atName
  let (f,first)←mj [ov] (kz ov m pl)
  nz pos f first (ie pos (be [] X.env)) (kf pos (gr [] X.env))):=by rfl):
 PE X (.Call (.Attribute o m apos) [] [] pos) (RS C m sp dvs E ta EQ):=by
 intro Df s σ H Q I h;refine qa (pl:=pl) (thn (he Df s σ H _ I h) λu s1 ⟨x,H1,I1,rx,a,dx,fs,ex,ea,l,q⟩=>?_) ht;subst ex;obtain rfl:u=cj a:=rx;refine IV I1 ea c hm l ?_;exact u0 (first:=[.ref a]) I1.kIn hm.kp (T4 (us:=[.ref a]) (vs:=[.ref a]) F hr hb hd hx I1 (.cons rfl .nil) q)
structure Mk (K:aa) (C f:ag):Prop where
 makes:wA K C=true
 init:im K (.ref C) "__init__"=some (some (.ref f))
 fn:qo K (.ref f)=true
 kp:fi K (.ref C)=true
theorem RT {Df:List (ag×Obj)} {σ:St} {H:Hp} {s:ak} {Q:VK} {us:List ah} {vs:List V} (M:Mk X.K C f) (F:FnOk X.prog X.w X.K X.mg X.base CX k f fd ps sp) (hr:Room (k+1) X.A) (hb:Binds X.K fd ps ds) (hd:Vals dvs ds)
 (hx:EA CX X E) (I:Inv X Df σ H s) (r:Vals vs us)
 (h:∀x dx,H x=none->H dx=none->dx≠x->sp (.ref x::(vs++dvs)) (upd (upd H dx (.own x)) x (.ins C dx [])) (λv H2=>v= .non/\Q (.ref x) H2) E):
 bi (bo X.prog X.w) X.A (call (.ref C) us) (EP X Df σ Q) X.xe s:=by
 have hq:=h (s.heap.objs.size+1) s.heap.objs.size (I.hok.fresh (uM _)) (I.hok.fresh (aw _)) (cp (v5 _));have I2:=Inv.made (C:=C) I;have r2:Vals (V.ref (s.heap.objs.size+1)::(vs++dvs)) (cj (s.heap.objs.size+1)::(us++ds)):=.cons rfl (r.append hd);have hl:(cj (s.heap.objs.size+1)::us++ds).length=ps.length:=by
  have e:=r2.length;rw[F.len _ _ _ _ hq] at e;exact e.symm
 refine ur (ZO (f:=f) I.kIn M.makes M.init (beq_iff_eq.mp M.fn) (oo (F.run _ X.stack _ _ ⟨cj (s.heap.objs.size+1)::us,[]⟩ (cj (s.heap.objs.size+1)::(us++ds)) _ _ E (hr.make C us [])
  (I2.env0.make C us []) (hb _ (cj (s.heap.objs.size+1)::us) I2.kIn hl) r2 hq) λr s' hq'=>?_))
 cases r with
 |error e=>exact hx Df σ _ _ e s' I2 hq'
 |ok fl=>
  cases fl with
  |ret u=>
   obtain⟨v,H',I3,rv,ev,q3⟩:=I2.after hq';subst ev;exact⟨rv,⟨V.ref (s.heap.objs.size+1),H',I3,rfl,q3⟩⟩
  |next=>exact fk hq'
  |brk=>exact fk hq'
  |cont=>exact fk hq'
theorem d5 (M:Mk X.K C f) (F:FnOk X.prog X.w X.K X.mg X.base CX k f fd ps sp) (hr:Room (k+1) X.A) (hg:Gl X x) (hm:X.mg x=some (.ref C)) (hb:Binds X.K fd ps ds) (hd:Vals dvs ds) (hx:EA CX X E)
 (ha:PA X (e::es) t) (hdb:(x==("__debug__":Str))=false:=by decide) (he:be (e::es) X.env=(false,eval e X.env)::be es X.env:=by rfl) (hpl:(ie pos (be es X.env)).any (·.1)=false:=by rfl):
 PE X (.Call (.Name x p) (e::es) [] pos) (V7 C sp dvs E t):=by
 intro Df s σ H Q I h;refine ij (E0 I hg hm ?_ hdb);refine oq (h₀:=X.base) I.ok.mod.kin M.kp (thn (ha pos Df s σ H _ I h) λus s1 ⟨vs,H1,I1,r,q⟩=>⟨I1.kIn,?_⟩) he hpl;exact RT M F hr hb hd hx I1 r q
theorem ZQ (M:Mk X.K C f) (F:FnOk X.prog X.w X.K X.mg X.base CX k f fd ps sp) (hr:Room (k+1) X.A) (hg:Gl X x) (hm:X.mg x=some (.ref C)) (hb:Binds X.K fd ps ds) (hd:Vals dvs ds) (hx:EA CX X E)
 (hdb:(x==("__debug__":Str))=false:=by decide):PE X (.Call (.Name x p) [] [] pos) (V7 C sp dvs E EQ):=by
 intro Df s σ H Q I h;refine ij (E0 I hg hm ?_ hdb);exact u0 I.kIn M.kp (RT (us:=[]) M F hr hb hd hx I .nil h)
end
def PK (X:Cx) (kws:List wm) (t:TA):Prop:=
 ∀(pos:Pos) (Df:List (ag×Obj)) (s:ak) (σ:St) (H:Hp) (Q:List V->Hp->Prop),Inv X Df σ H s->t σ H Q->bi (bo X.prog X.w) X.A (evalAll ((kf pos (gr kws X.env)).map (·.2))) (AP X Df σ Q) X.xe s
section
variable {X:Cx} {CX:CXT} {k:Nat} {f C:ag} {fd:fv} {ps ks:List Str} {sp:Sp} {E:XK} {x m:Str} {p pos apos kpos:Pos} {e o:Expr} {es:List Expr} {kws:List wm} {te ta:TE} {t tk:TA} {nm:Option Str}
theorem BW (ha:PE X e te) (hr:PK X kws t):PK X (⟨nm,e,kpos⟩::kws) (B9 te t):=by
 intro pos Df s σ H Q I h;show bi _ _ (evalAll ((do let v←eval e X.env;nq pos;pure v)::(kf pos (gr kws X.env)).map (·.2))) _ _ s;refine wpAny_evalAll_cons (ae (thn (ha Df s σ H _ I h) λu s1 ⟨x,H1,I1,r1,q1⟩=>ae (jx (ao ?_))));exact thn (hr pos Df s1 σ H1 _ I1 q1) λus s2 ⟨xs,H2,I2,r2,q2⟩=>⟨x::xs,H2,I2,.cons r1 r2,q2⟩
variable {g:List ah->List ah->List ah} {gV:List V->List V->List V}
end
structure FnScope (N P:List Str) (sc:jr):Prop where
 kind:sc.kind= .function:=by rfl
 co:sc.isCoroutine=false:=by rfl
 gen:sc.isGenerator=false:=by rfl
 nd:N.Nodup:=by decide +kernel
 pre:N.take P.length=P:=by rfl
 par:∀x∈P,sc.names.lookup x=some .local\/sc.names.lookup x=some .cell:=by decide +kernel
 nofree:∀y∈sc.names,y.2≠.free:=by decide +kernel
theorem OW {kindOf:Str->Option lj} {x:Str}:∀{binds:List (Str×ah)} {m:Str->Option ah},(∀v,(x,v)∉binds)->zz kindOf binds m x=m x
 |[],_,_=>rfl
 |(n,v)::r,m,h=>by
  unfold zz;rw[OW λw hw=>h w (aq _ hw)];split
  ·have:x≠n:=by rintro rfl;exact h v bc
   simp[this]
  ·rfl
theorem OX {kindOf:Str->Option lj} {x:Str}:∀{binds:List (Str×ah)} {m:Str->Option ah},(∀v,(x,v)∉binds)->zA kindOf binds m x=m x
 |[],_,_=>rfl
 |(n,v)::r,m,h=>by
  unfold zA;rw[OX λw hw=>h w (aq _ hw)];split
  ·rfl
  ·have:x≠n:=by rintro rfl;exact h v bc
   simp[this]
theorem OY {kindOf:Str->Option lj} {x:Str} {v:ah}:∀{P:List Str} {vs:List ah} {i:Nat} {m:Str->Option ah},P.Nodup->P[i]? =some x->vs[i]? =some v->kindOf x=some .local->
 zz kindOf (P.zip vs) m x=some v
 |[],_,_,_,_,h,_,_=>by simp at h
 |_::_,[],_,_,_,_,h,_=>by simp at h
 |p::P,w::vs,0,m,nd,h1,h2,hk=>by
  simp at h1 h2;subst h1;subst h2;show zz kindOf ((p,w)::P.zip vs) m p=_;unfold zz;rw[OW λv hv=>(iy.mp nd).1 (rp hv).1,Dm hk];simp
 |p::P,w::vs,i+1,m,nd,h1,h2,hk=>by
  show zz kindOf ((p,w)::P.zip vs) m x=_;unfold zz;exact OY (i:=i) (iy.mp nd).2 (by simpa using h1) (by simpa using h2) hk
theorem OZ {kindOf:Str->Option lj} {x:Str} {v:ah}:∀{P:List Str} {vs:List ah} {i:Nat} {m:Str->Option ah},P.Nodup->P[i]? =some x->vs[i]? =some v->kindOf x≠some .local->
 zA kindOf (P.zip vs) m x=some v
 |[],_,_,_,_,h,_,_=>by simp at h
 |_::_,[],_,_,_,_,h,_=>by simp at h
 |p::P,w::vs,0,m,nd,h1,h2,hk=>by
  simp at h1 h2;subst h1;subst h2;show zA kindOf ((p,w)::P.zip vs) m p=_;unfold zA;rw[OX λv hv=>(iy.mp nd).1 (rp hv).1,Dn hk];simp
 |p::P,w::vs,i+1,m,nd,h1,h2,hk=>by
  show zA kindOf ((p,w)::P.zip vs) m x=_;unfold zA;exact OZ (i:=i) (iy.mp nd).2 (by simpa using h1) (by simpa using h2) hk
def FQ (N:List Str) (vs:List V):St:=vs.map some++zB (N.length - vs.length) none
def OH (CX:CXT) (P:bb) (w:cb) (K:aa) (mg:Str->Option ah) (base:cr) (N:List Str) (qual:Str) (scope:jr) (f:ag) (cd:ah) (A:dj) (outer:List Env) (s:ak) (H:Hp) (E:XK):Cx where
 prog:=P
 w:=w
 K:=K
 mg:=mg
 base:=base
 A:=A.deeper (vk qual scope s.heap.objs.size f cd)
 N:=N
 s_0:=s
 H_0:=H
 env:=vk qual scope s.heap.objs.size f cd
 outer:=outer
 stack:=vk qual scope s.heap.objs.size f cd::outer
 ex:=[]
 calm:=true
 fn:=λ_=>true
 pn:=[]
 xe:=λe s'=>bi (bo P w) (A.deeper (vk qual scope s.heap.objs.size f cd)) (leaving (vk qual scope s.heap.objs.size f cd) e) (λ_ s''=>CX outer H s E e s'') (λe' s''=>CX outer H s E e' s'') s'
theorem RU {sc:jr} {n:Nat} {x:Str} (h:sc.names.lookup x=some .cell):∃c,(ip n sc.names []).lookup x=some c:=by
 have q:=ub sc.names n [] (.inl h);exact rb.mp q
theorem O0 {CX:CXT} {P:bb} {w:cb} {K:aa} {mg:Str->Option ah} {base:cr} {N ps:List Str} {qual:Str} {scope:jr} {f:ag} {cd:ah} {A:dj} {outer:List Env} {s s1:ak} {H:Hp} {E:XK} {us:List ah} {vs:List V}
 (S:FnScope N ps scope) (hd:A.handled=none) (e0:Env0 P w K mg base A outer s H) (hl:vs.length=ps.length) (r:Vals vs us)
 (x:InCallC s s.heap.objs.size (zz (vk qual scope s.heap.objs.size f cd).kindOf (ps.zip us) λ_=>none) (ip (s.heap.objs.size+1) scope.names []) (zA (vk qual scope s.heap.objs.size f cd).kindOf (ps.zip us) λ_=>none) s1):
 Inv (OH CX P w K mg base N qual scope f cd A outer s H E) [] (FQ N vs) H s1:=by
 have hpl:ps.length<=N.length:=by have:=congrArg qg S.pre;rw[eq] at this;omega
 obtain⟨h1,tk,rfl,hk⟩:=x.done;have noA:∀b:ag,b∉(OH CX P w K mg base N qual scope f cd A outer s H E).ex:=λb z=>absurd (show b∈([]:List ag) from z) (by simp);refine⟨⟨e0.mod,S.kind,rfl,rfl,aw _,λy z c h1 h2=>?_,λy hy=>?_,λy c _ h=>?_,λ_=>hd,uN e0.frames,.inr ⟨rfl,rfl⟩,λb z=>absurd z (noA b),e0.bs,e0.bsz,λb _ _=>noA b,λb z=>absurd z (noA b),e0.funs,e0.frf⟩,
  rfl,e0.bare,Un.kept hk,⟨_,x.toInCall.ns,λi y v h1 h2 h3=>?_⟩,λy c h=>⟨_,x.cell y c h⟩,e0.hok.fresh (aw _),λy c h=>?_,λp hp=>absurd (show p∈([]:List (ag×Obj)) from hp) (by simp),e0.hok.kept hk,?_⟩
 ·exact name_of_addr x.apart (cq h1) (cq h2)
 ·have hy:scope.names.lookup y=some .cell\/scope.names.lookup y=some .free:=hy;rcases hy with hy|hy
  ·exact RU hy
  ·exact absurd rfl (S.nofree _ (cq hy))
 ·exact tm (x.above y c (cq h))
 ·have hi:i<vs.length:=by
   unfold FQ at h2;by_cases hi:i<vs.length
   ·exact hi
   ·rw[vm (by simpa using hi)] at h2;rw[List.getElem?_replicate] at h2;split at h2<;>cases h2
  have ha:vs[i]? =some v:=by
   unfold FQ at h2;rw[vE (by simpa using hi),au] at h2;cases e:vs[i]? with
   |none=>rw[e] at h2;cases h2
   |some a=>rw[e] at h2;cases h2;rfl
  obtain⟨u,hu,rv⟩:=r.get ha;have hp:ps[i]? =some y:=by
   rw[←S.pre,vS (by omega)];exact h1
  have ndP:ps.Nodup:=by rw[←S.pre];exact S.nd.sublist (List.take_sublist _ _)
  refine⟨u,rv,?_⟩;rcases S.par y (bn hp) with k|k
  ·exact .inl ⟨k,OY ndP hp hu k⟩
  ·obtain⟨c,e⟩:=RU (n:=s.heap.objs.size+1) k;refine .inr ⟨.inl k,c,e,?_⟩;have q:=x.cell y c e;rw[OZ ndP hp hu (by show scope.names.lookup y≠_;rw[k];decide)] at q;exact q
 ·exact e0.hok.fresh (tm (x.above y c (cq h)))
 ·unfold FQ;show _=N.length;rw[bp,ai,List.length_replicate];omega
theorem gG {CX:CXT} {P:bb} {w:cb} {K:aa} {mg:Str->Option ah} {base:cr} {k:Nat} {f:ag} {name qual:Str} {params:vc} {body:List dm} {scope:jr} {dV kV doc pm Dk ct oc:ah} {an od:Option ag}
 {osl:Array (Option ah)} {N ps:List Str} {sp:Sp} (lk:K.lookup f=some ⟨oc,od,.func (ik name qual params body scope dV kV doc pm an Dk ct),osl⟩) (hcd:jg K Dk qual=true) (S:FnScope N ps scope)
 (len:∀vs H Q E,sp vs H Q E->vs.length=ps.length)
 (hbody:∀(A:dj) (outer:List Env) (s:ak) (H:Hp) (vs:List V) (Q:VK) (E:XK),Room k (A.deeper (vk qual scope s.heap.objs.size f Dk))->sp vs H Q E->
  ∃t,PSs (OH CX P w K mg base N qual scope f Dk A outer s H E) body t/\t { nx:=λ_ H'=>Q .non H',rt:=Q } (FQ N vs) H):
 FnOk P w K mg base CX (k+1) f (ik name qual params body scope dV kV doc pm an Dk ct) ps sp:=by
 refine⟨len,λA outer s H args us vs Q E hr e0 hb r hsp=>?_⟩;have hl:=len _ _ _ _ hsp;have KX:K.In s.heap:=e0.mod.kin.keeps λb o e=>(e0.bs b o e).1;have lim:s.heap.NoLimit:=e0.mod.nolimit.keeps λb o e=>(e0.bs b o e).1;have hkind:∀y∈ps.zip us,scope.names.lookup y.1=some .local\/(scope.names.lookup y.1=some .cell/\((ip (s.heap.objs.size+1) scope.names []).lookup y.1).isSome=true):=λ⟨n,v⟩ hy=>by
  rcases S.par n (rp hy).1 with q|q
  ·exact .inl q
  ·exact .inr ⟨q,ub _ _ _ (.inl q)⟩
 refine wK hr.depth (KX _ _ lk) rfl S.co S.gen rfl (xZ KX hcd) (hb _ _ _ _ ?_);refine vn S.kind hkind λenv he s1 x=>?_;subst he;refine⟨lim.keeps x.toInCall.keep,codeAny_func ?_⟩;obtain⟨t,ht,hq⟩:=hbody A outer s H vs Q E (hr.deeper _) hsp;have I:Inv (OH CX P w K mg base N qual scope f Dk A outer s H E) [] (FQ N vs) H s1:=O0 S hr.hd e0 hl r x;refine ig (ht [] s1 (FQ N vs) H _ I hq) (λfl s' hs=>?_) λe s' hs=>hs;have fin:∀{σ':St} {H':Hp} {v:V} {u:ah},Inv (OH CX P w K mg base N qual scope f Dk A outer s H E) [] σ' H' s'->RelV v u->Q v H'->CE outer P w H s Q u s':=
  λ{σ' H' v u} J rv q=>⟨v,H',J.os,J.bare,J.base,J.hok,rv,q⟩
 cases fl with
 |ret u=>
  obtain⟨v,σ',H',J,rv,q⟩:=hs;exact fin J rv q
 |next=>
  obtain⟨σ',H',J,q⟩:=hs;exact fin (v:=V.non) (u:=iq) J rfl q
 |brk=>
  obtain⟨_,_,_,q⟩:=hs;exact fk q
 |cont=>
  obtain⟨_,_,_,q⟩:=hs;exact fk q
section
variable {X:Cx} {x:Str} {p pos:Pos} {e:Expr} {es:List Expr} {t:TA} {id T:String} {r:List V->Hp->VK->Prop}
def tCB (r:List V->Hp->VK->Prop) (t:TA):TE:=λσ H Q=>t σ H λvs H1=>r vs H1 Q
theorem AX (hc:LC X (.builtin id) r) (hg:Gl X x) (hm:X.mg x=none) (hv:jn x=some (.builtin id)) (ha:PA X (e::es) t) (hn:x≠"__name__":=by decide) (hdb:(x==("__debug__":Str))=false:=by decide)
 (he:be (e::es) X.env=(false,eval e X.env)::be es X.env:=by rfl) (hpl:(ie pos (be es X.env)).any (·.1)=false:=by rfl):PE X (.Call (.Name x p) (e::es) [] pos) (tCB r t):=by
 intro Df s σ H Q I h;refine ij (D9 I hg hm hv ?_ hn hdb);exact yF (thn (ha pos Df s σ H _ I h) λus s1 ⟨vs,H1,I1,r1,q1⟩=>hc Df s1 σ H1 vs us Q I1 r1 q1) he hpl
theorem KJ (hc:LC X (.type T) r) (hg:Gl X x) (hm:X.mg x=none) (hv:jn x=some (.type T)) (ha:PA X (e::es) t) (hn:x≠"__name__":=by decide) (hdb:(x==("__debug__":Str))=false:=by decide)
 (he:be (e::es) X.env=(false,eval e X.env)::be es X.env:=by rfl) (hpl:(ie pos (be es X.env)).any (·.1)=false:=by rfl):PE X (.Call (.Name x p) (e::es) [] pos) (tCB r t):=by
 intro Df s σ H Q I h;refine ij (D9 I hg hm hv ?_ hn hdb);exact df (thn (ha pos Df s σ H _ I h) λus s1 ⟨vs,H1,I1,r1,q1⟩=>hc Df s1 σ H1 vs us Q I1 r1 q1) he hpl
end
end L2
namespace HT
open PySem PyProof.Rows
def lexLt:List Int->List Int->Bool
 |[],[]=>false
 |[],_::_=>true
 |_::_,[]=>false
 |x::xs,y::ys=>if x=y then lexLt xs ys else decide (x<y)
theorem lexLt_cons (x y:Int) (xs ys:List Int):lexLt (x::xs) (y::ys)=if x=y then lexLt xs ys else decide (x<y):=rfl
theorem lexLt_nil_nil:lexLt [] []=false:=rfl
section
open PySem.SeqAt
open PySem.AutoSeq1 (wpAny_loadPart')
open PySem.MeetsSeq PySem.MeetsSeq2 PySem.MeetsSeq3
end
section
variable {prog:bb} {w:cb} {A:dj} {E:ah->ak->Prop} {s:ak}
def sIx (n d:Nat):Option Int->Nat
 |none=>d
 |some v=>if v<0 then(v+(n:Int)).toNat else min v.toNat n
theorem sIx_none (n d:Nat):sIx n d none=d:=rfl
theorem sIx_nat (n d k:Nat):sIx n d (some (k:Int))=min k n:=by
 show(if(k:Int)<0 then((k:Int)+(n:Int)).toNat else min (k:Int).toNat n)=min k n;rw[Dn (by omega),jo]
theorem i6 (n d:Nat) (hd:d<=n) (o:Option Int):sIx n d o<=n:=by
 cases o with
 |none=>exact hd
 |some v=>
  show(if v<0 then(v+(n:Int)).toNat else min v.toNat n)<=n;by_cases hv:v<0
  ·rw[Dm hv];omega
  ·rw[Dn hv];exact Nat.min_le_right _ _
theorem V8 (v:Int) (n d:Nat):(if v<0 then max (v+(n:Int)) 0 else min v (n:Int))=((sIx n d (some v):Nat):Int):=by
 show(if v<0 then max (v+(n:Int)) 0 else min v (n:Int))=(((if v<0 then(v+(n:Int)).toNat else min v.toNat n):Nat):Int);by_cases hv:v<0
 ·simp only[Dm hv];omega
 ·simp only[Dn hv];omega
theorem T5 (lo hi:Option Int) (n:Nat):qu lo hi 1 (n:Int)=(((sIx n 0 lo:Nat):Int),((sIx n n hi:Nat):Int)):=by
 have h1:¬((1:Int)<0):=by omega
 unfold qu;simp only[h1,if_false];refine Prod.ext ?_ ?_
 ·cases lo with
  |none=>rfl
  |some v=>exact V8 v n 0
 ·cases hi with
  |none=>rfl
  |some v=>exact V8 v n n
theorem T6 (i j:Nat):me (i:Int) (j:Int) 1=j - i:=by
 unfold me;have h1:(1:Int)>0:=by omega
 simp only[h1,if_true,Int.ediv_one];split<;>omega
theorem M6 {v:ah} {o:Option Int} {Q:Option Int->ak->Prop} (p:x3 v o) (h:Q o s):bi (bo prog w) A (y8 v) Q E s:=by
 cases p with
 |none=>exact zC h
 |int i t=>exact slicePart_int h
theorem KL {sl:ag} {vl vu:ah} {lo hi:Option Int} {n:Nat} {Q:Int×Int×Nat->ak->Prop} (hs:s.heap.IsSliceOf sl vl vu .none) (pl:x3 vl lo) (pu:x3 vu hi)
 (h:Q (((sIx n 0 lo:Nat):Int),1,sIx n n hi - sIx n 0 lo) s):bi (bo prog w) A (vo (.ref sl) (pure (n:Int))) Q E s:=by
 obtain⟨os,hos,hcs,hds⟩:=id hs;unfold vo Aj;refine ae (ae (iw hos hds (x:=vl) rfl (ae (iw hos hds (x:=vu) rfl (ae (iw hos hds (x:=.none) rfl (ao ?_)))))));refine ae (zC ?_);show bi _ _ (if((1:Int)==0)=true then _ else _) _ _ s;rw[Dn (by decide)];refine ae (M6 pl (ae (M6 pu (ae (ao ?_)))));show bi _ _ (match qu lo hi 1 (n:Int) with|(lo,hi)=>pure (lo,(1:Int),me lo hi 1)) _ _ s;rw[T5 lo hi n];show bi _ _ (pure (((sIx n 0 lo:Nat):Int),(1:Int),me ((sIx n 0 lo:Nat):Int) ((sIx n n hi:Nat):Int) 1)) _ _ s;rw[T6];exact ao h
theorem ZR (xs:Array ah) (i k:Nat):((jm k).filterMap λ(m:Nat)=>xs[((i:Int)+(m:Int)*1).toNat]?).toArray=((xs.toList.drop i).take k).toArray:=by
 have e:(λ(m:Nat)=>xs[((i:Int)+(m:Int)*1).toNat]?)=λm=>xs[i+m]?:=by
  funext m;have:((i:Int)+(m:Int)*1).toNat=i+m:=by omega
  rw[this]
 rw[e];have:=pick_run xs i k;rw[List.filterMap_map] at this;have e2:((λx=>xs[x]?)∘λx=>i+x)=λm=>xs[i+m]?:=rfl;rw[e2] at this;rw[this]
theorem getItem_tuple_cut {t sl:ag} {items:Array ah} {vl vu:ah} {lo hi:Option Int} {Q:ah->ak->Prop} (ht:IsTup s.heap t items) (hs:s.heap.IsSliceOf sl vl vu .none) (pl:x3 vl lo) (pu:x3 vu hi)
 (hw:¬(sIx items.size 0 lo=0/\sIx items.size items.size hi=items.size))
 (h:Q (.ref s.heap.objs.size) { s with heap:=s.heap.push { cls:=.type "tuple",data:=.seq ((items.toList.drop (sIx items.size 0 lo)).take (sIx items.size items.size hi - sIx items.size 0 lo)).toArray } })
 (hsz:items.size<=sizeLine):bi (bo prog w) A (wo (.ref t) (.ref sl)) Q E s:=by
 have htake:sizeOk (.seq ((items.toList.drop (sIx items.size 0 lo)).take (sIx items.size items.size hi - sIx items.size 0 lo)).toArray):=by
  show((items.toList.drop (sIx items.size 0 lo)).take (sIx items.size items.size hi - sIx items.size 0 lo)).toArray.size<=sizeLine;rw[br,eq,fw,fy];omega
 have hj:sIx items.size items.size hi<=items.size:=i6 _ _ (aw _) hi;obtain⟨os,hos,hcs,hds⟩:=id hs;have hTs:s.TypeIs (.ref sl) "slice":=⟨os,hos,hcs⟩
 unfold wo;try with_reducible refine io ?_
 first|refine ae (ao ?_)|skip
 refine ae (wpAny_sequenceKey ht.typeIs (by decide) ?_);refine ae (kl (name:=mm "__getitem__") ht.typeIs nk
  (oa nk ht.typeIs entry_tuple_getitem ?_ (args_tuple_getitem _ _)))
 show bi _ _ (zD (.ref t) >>= _) _ _ s;refine ae (tupleItemsOf_ ht ?_);refine ae (wpAny_typeOf hTs ?_);rw[Dm (by decide)];refine ae (KL hs pl pu ?_);have hno:¬((((sIx items.size 0 lo:Nat):Int)==0&&(1:Int)==1&&(sIx items.size items.size hi - sIx items.size 0 lo)==items.size)=true):=by
  intro q;rw[iz,iz] at q;have q1:((sIx items.size 0 lo:Nat):Int)=0:=eq_of_beq q.1.1;have q2:sIx items.size items.size hi - sIx items.size 0 lo=items.size:=eq_of_beq q.2;exact hw ⟨by omega,by omega⟩
 show bi _ _ (if(((sIx items.size 0 lo:Nat):Int)==0&&(1:Int)==1&&(sIx items.size items.size hi - sIx items.size 0 lo)==items.size)=true then _ else _) _ _ s;rw[Dn hno,ZR];first
  |exact ae (m:=mx _) (gg (ao ⟨_,rfl,ao h⟩) htake)
  |exact ae (m:=mx _) (gg (ae (ao (ao ⟨_,rfl,ao h⟩))) htake)
  |exact ae (ae (m:=mx _) (gg (ao (ao ⟨_,rfl,ao h⟩)) htake))
  |exact ae (ae (m:=mx _) (gg (ao ⟨_,rfl,ao h⟩) htake))
end
end HT
namespace L2
open PySem PySem.Spec PyProof.Rows
abbrev TO:=St->Hp->(Option Int->Hp->Prop)->Prop
def PO (X:Cx) (e:Option Expr) (t:TO):Prop:=
 ∀(Df:List (ag×Obj)) (s:ak) (σ:St) (H:Hp) (Q:Option Int->Hp->Prop),Inv X Df σ H s->t σ H Q->
  bi (bo X.prog X.w) X.A (evalPart e X.env) (λu s'=>Ex2 λo H'=>Inv X Df σ H' s'/\x3 u o/\Q o H') X.xe s
def d6:TO:=λ_ H Q=>Q none H
def nB (t:TE):TO:=λσ H Q=>t σ H λx H1=>I1At x λi=>Q (some i) H1
section
variable {X:Cx} {e:Expr} {te:TE} {lo hi:Option Expr} {tl th:TO} {pos p2:Pos}
theorem ME:PO X none d6:=by
 intro Df s σ H Q I h;rw[evalPart_none];exact ao ⟨none,H,I,.none,h⟩
theorem MF (h:PE X e te):PO X (some e) (nB te):=by
 intro Df s σ H Q I hw;rw[evalPart_some];refine thn (h Df s σ H _ I hw) λu s1 ⟨x,H1,I1,r1,q1⟩=>?_;obtain⟨i,rfl,q⟩:=q1;obtain⟨t,rfl⟩:=r1;exact⟨some i,H1,I1,.int i t,q⟩
def SlR (X:Cx) (r:V->Option Int->Option Int->Hp->VK->Prop):Prop:=
 ∀(Df:List (ag×Obj)) (s:ak) (σ:St) (H:Hp) (x:V) (v vl vu:ah) (lo hi:Option Int) (sl:ag) (Q:VK),Inv X Df σ H s->RelV x v->s.heap.IsSliceOf sl vl vu .none->x3 vl lo->x3 vu hi->r x lo hi H Q->
  Ex2 λT id=>wp (.type T) "__getitem__"=pure (some (.builtin id))/\s.TypeIs v T/\bi (bo X.prog X.w) X.A (wo v (.ref sl)) (EP X Df σ Q) X.xe s
def tSl (r:V->Option Int->Option Int->Hp->VK->Prop) (te:TE) (tl th:TO):TE:=λσ H Q=>te σ H λx H1=>tl σ H1 λl H2=>th σ H2 λu H3=>r x l u H3 Q
theorem JO {r:V->Option Int->Option Int->Hp->VK->Prop} (hr:SlR X r) (he:PE X e te) (hl:PO X lo tl) (hu:PO X hi th):PE X (.Subscript e (.Slice lo hi none p2) pos) (tSl r te tl th):=by
 intro Df s σ H Q I h;refine zE (thn (he Df s σ H _ I h) λv s1 ⟨x,H1,I1,r1,q1⟩=>?_);refine wpAny_Slice (thn (hl Df s1 σ H1 _ I1 q1) λvl s2 ⟨l,H2,I2,pl,q2⟩=>thn (hu Df s2 σ H2 _ I2 q2) λvu s3 ⟨u,H3,I3,pu,q3⟩=>?_);rw[evalPart_none];refine ao ?_;have I4:Inv X Df σ H3 { s3 with heap:=s3.heap.push { cls:=.type "slice",data:=.fields #[vl,vu,.none] } }:=I3.kept (t':=s3.toks) λb ob q=>am _ q;obtain⟨T,id,hT,ht,hg⟩:=hr Df { s3 with heap:=s3.heap.push { cls:=.type "slice",data:=.fields #[vl,vu,.none] } } σ H3 x v vl vu l u s3.heap.objs.size Q I4 r1 (Cq ..) pl pu q3;show bi (bo X.prog X.w) X.A (xO e (.Slice lo hi none p2) v (.ref s3.heap.objs.size)) (EP X Df σ Q) X.xe { s3 with heap:=s3.heap.push { cls:=.type "slice",data:=.fields #[vl,vu,.none] } };exact tail_any (ops:=[.ref s3.heap.objs.size,v]) ht hT hg (by with_unfolding_all rfl)
def II (xs:List V) (lo hi:Option Int):List V:=(xs.drop (HT.sIx xs.length 0 lo)).take (HT.sIx xs.length xs.length hi - HT.sIx xs.length 0 lo)
theorem FS (xs:List V) (lo hi:Option Int):(II xs lo hi).length<=xs.length:=by
 unfold II;rw[eq,fw];omega
def tO (K:aa):V->Option Int->Option Int->Hp->VK->Prop:=λx lo hi H Q=>Ex2 λa xs=>x= .ref a/\SqT K H a xs/\
 ¬(HT.sIx xs.length 0 lo=0/\HT.sIx xs.length xs.length hi=xs.length)/\∀p,H p=none->Q (.ref p) (upd H p (.tup (II xs lo hi)))
theorem i7:SlR X (tO X.K):=by
 intro Df s σ H x v vl vu lo hi sl Q I rx hs pl pu h;obtain⟨a,xs,rfl,hx,hw,q⟩:=h;cases rx;obtain⟨Di,r,ht,hz⟩:=I.tuple hx;have hlen:Di.toArray.size=xs.length:=by rw[br];exact r.length.symm
 refine⟨"tuple",_,nk.lookup,ht.typeIs,?_⟩;refine HT.getItem_tuple_cut ht hs pl pu (by rw[hlen];exact hw) ?_ (by rw[hlen];exact hz);rw[hlen];refine⟨.ref s.heap.objs.size,_,I.laid (t':=s.toks) (o:=.tup (II xs lo hi)) (λb ob q=>am _ q) (aw _) ?_,rfl,q _ (I.hok.fresh (aw _))⟩;exact⟨cu (FS xs lo hi) hz,_,(r.drop (HT.sIx xs.length 0 lo)).take (HT.sIx xs.length xs.length hi - HT.sIx xs.length 0 lo),Cy _ _⟩
end
def ixN (n:Nat) (i:Int):Option Nat:=if 0<=i then(if i<n then some i.toNat else none) else if -(n:Int)<=i then some (i+n).toNat else none
def atI {α:Type} (xs:List α) (i:Int):Option α:=(ixN xs.length i).bind λj=>xs[j]?
theorem V9 {n:Nat} {i:Int} {j:Nat} (h:ixN n i=some j):seqIndex? i n=some j/\j<n/\ -(n:Int)<=i/\i<n:=by
 unfold ixN at h;by_cases h0:0<=i
 ·rw[Dm h0] at h;by_cases h1:i<n
  ·rw[Dm h1] at h;have e:i.toNat=j:=cz h;exact⟨by rw[yX h0 h1,e],by omega,by omega,h1⟩
  ·rw[Dn h1] at h;cases h
 ·rw[Dn h0] at h;by_cases h1: -(n:Int)<=i
  ·rw[Dm h1] at h;have e:(i+n).toNat=j:=cz h;exact⟨by rw[seqIndex_neg (by omega) h1,e],by omega,h1,by omega⟩
  ·rw[Dn h1] at h;cases h
theorem P9 {α:Type} {xs:List α} {i:Int} {v:α} (h:atI xs i=some v):∃j,seqIndex? i xs.length=some j/\xs[j]? =some v/\j<xs.length/\ -(xs.length:Int)<=i/\i<xs.length:=by
 unfold atI at h;cases e:ixN xs.length i with
 |none=>rw[e] at h;cases h
 |some j=>
  rw[e] at h;obtain⟨h1,h2,h3,h4⟩:=V9 e;exact⟨j,h1,h,h2,h3,h4⟩
theorem DU {α:Type} {xs:List α} {j:Nat} {v:α} (h:xs[j]? =some v):atI xs (j:Int)=some v:=by
 have hj:j<xs.length:=(az.mp h).1;have e:ixN xs.length (j:Int)=some j:=by
  unfold ixN;rw[Dm (by omega),Dm (by omega)];simp
 unfold atI;rw[e];exact h
theorem M7 {α:Type} (xs:List α) (v:α):atI (xs++[v]) (-1)=some v:=by
 have hl:(xs++[v]).length=xs.length+1:=by simp
 have e:ixN (xs++[v]).length (-1)=some xs.length:=by
  unfold ixN;rw[hl,Dn (by decide),Dm (by omega)];congr 1;omega
 unfold atI;rw[e];show(xs++[v])[xs.length]? =some v;simp
def d7 (b:Expr):Prop:=∀o i,wX b false o i=operate [o,i] (wo o i)
def IxR (X:Cx) (r:R2):Prop:=
 ∀(value slice:Expr) (Df:List (ag×Obj)) (s:ak) (σ:St) (H:Hp) (x y:V) (v u:ah) (Q:VK),Inv X Df σ H s->RelV x v->RelV y u->r x y H Q->
  wX slice false v u=operate [v,u] (wo v u)->bi (bo X.prog X.w) X.A (xO value slice v u) (EP X Df σ Q) X.xe s
def MtR (X:Cx) (id:String) (r:V->List V->Hp->VK->Prop):Prop:=
 ∀(Df:List (ag×Obj)) (s:ak) (σ:St) (H:Hp) (x:V) (xs:List V) (v:ah) (us:List ah) (Q:VK),Inv X Df σ H s->RelV x v->Vals xs us->r x xs H Q->
  bi (bo X.prog X.w) X.A (call (.builtin id) (v::us)) (EP X Df σ Q) X.xe s
section
variable {X:Cx} {a b:Expr} {ta tb:TE} {pos:Pos}
theorem BI {r:R2} (hr:IxR X r) (ha:PE X a ta) (hb:PE X b tb) (hs:d7 b):PE X (.Subscript a b pos) (tOp r ta tb):=by
 intro Df s σ H Q I h;exact zE (iV ha hb I h λv u s2 x y H2 I2 rx ry q=>hr a b Df s2 σ H2 x y v u Q I2 rx ry q (hs _ _))
inductive IxAt (S:ag->List V->Prop) (x y:V) (Q:V->Prop):Prop
 |intro(p:ag) (xs:List V) (i:Int) (v:V) (e:x= .ref p) (e':y= .int i) (h1:S p xs) (h2:atI xs i=some v) (h:Q v):IxAt S x y Q
def nE (K:aa):R2:=λx y H Q=>IxAt (SqL K H) x y λv=>Q v H
def nF (K:aa):R2:=λx y H Q=>IxAt (SqT K H) x y λv=>Q v H
def tP:R2:=λx y H Q=>Ex3 λz i c=>x= .str z/\y= .int i/\z.length<=sizeLine/\atI z.cps.toList i=some c/\Q (.str ⟨#[c]⟩) H
theorem CD:IxR X (nE X.K):=by
 intro value slice Df s σ H x y v u Q I rx ry h hs;obtain⟨p,xs,i,z,rfl,rfl,hq,he,q⟩:=h;cases rx;obtain⟨t,rfl⟩:=ry;obtain⟨Di,r,pl,hz⟩:=I.list hq;obtain⟨j,h1,h2,h3,h4,h5⟩:=P9 he;obtain⟨w,ew,rw'⟩:=r.get h2;have hl:=r.length;have hn:=KH;have fin:EP X Df σ Q w s:=⟨z,H,I,rw',q⟩
 by_cases h0:0<=i
 ·have hj:i.toNat=j:=by
   rw[yX h0 h5] at h1;exact cz h1
  exact item_listR pl.isList h0 (by omega) (by rw[hj];simpa using ew) fin hs
 ·have hj:(i+(Di.toArray.size:Int)).toNat=j:=by
   rw[seqIndex_neg (by omega) h4] at h1;rw[br, ←hl];exact cz h1
  exact wq (x:=w) pl.isList.typeIs slot_list_getitem.lookup
   (wpAny_getItem_list_neg (Q:=λr s'=>r=w/\EP X Df σ Q r s') pl.isList (by omega) (by rw[br]<;>omega) (by omega) (by rw[hj];simpa using ew) ⟨rfl,fin⟩) hs
theorem DM:IxR X (nF X.K):=by
 intro value slice Df s σ H x y v u Q I rx ry h hs;obtain⟨p,xs,i,z,rfl,rfl,hq,he,q⟩:=h;cases rx;obtain⟨t,rfl⟩:=ry;obtain⟨Di,r,pl,hz⟩:=I.tuple hq;obtain⟨j,h1,h2,h3,h4,h5⟩:=P9 he;obtain⟨w,ew,rw'⟩:=r.get h2;have hl:=r.length;have hn:=KH;have fin:EP X Df σ Q w s:=⟨z,H,I,rw',q⟩
 exact wq (x:=w) pl.typeIs slot_tuple_getitem.lookup
  (getItem_tuple (j:=j) (Q:=λr s'=>r=w/\EP X Df σ Q r s') pl (by omega) (by omega) (by rw[br, ←hl];exact h1) (by simpa using ew) ⟨rfl,fin⟩) hs
theorem i8:IxR X tP:=by
 intro value slice Df s σ H x y v u Q I rx ry h hs;obtain⟨z,i,c,rfl,rfl,hz,he,q⟩:=h;obtain⟨t,rfl⟩:=rx;obtain⟨t',rfl⟩:=ry;obtain⟨j,h1,h2,h3,h4,h5⟩:=P9 he;have hl:z.cps.toList.length=z.length:=by simp[Cr]
 rw[hl] at h1 h4 h5;have hn:=KH;exact tail_any (typeIs_str s z t) slot_str_getitem.lookup (getItem_str (c:=c) (by
  have e1:decide (i< -(2 ^ 63:Int))=false:=decide_eq_false (by omega);have e2:decide (i>=2 ^ 63)=false:=decide_eq_false (by omega);rw[e1,e2,Az]) (by rw[h1];simpa using h2) ⟨.str ⟨#[c]⟩,H,I.tok _,⟨_,rfl⟩,q⟩) hs
theorem T7 (Di:List ah) (n j:Nat) (u:ah):fm (·.setIfInBounds j u) { cls:=.type "list",data:=.seq Di.toArray n }={ cls:=.type "list",data:=.seq (Di.set j u).toArray n }:=by
 simp[fm]
theorem Inv.lst {Df:List (ag×Obj)} {σ:St} {H:Hp} {s:ak} {p:ag} {xs:List V} (I:Inv X Df σ H s) (h:H p=some (.lst xs)):
 ∃(Di:List ah) (n:Nat),Vals xs Di/\s.heap.get? p=some { cls:=.type "list",data:=.seq Di.toArray n }/\xs.length<=sizeLine:=by
 obtain⟨z,Di,n,r,e⟩:=I.hok p _ h;exact⟨Di,n,r,e,z⟩
theorem Inv.lstUpd {Df:List (ag×Obj)} {σ:St} {H:Hp} {s:ak} {p:ag} {xs ys:List V} {Di its':List ah} {n n':Nat} {f:Obj->Obj} (I:Inv X Df σ H s) (h:H p=some (.lst xs))
 (ho:s.heap.get? p=some { cls:=.type "list",data:=.seq Di.toArray n }) (hf:f { cls:=.type "list",data:=.seq Di.toArray n }={ cls:=.type "list",data:=.seq its'.toArray n' }) (r:Vals ys its') (hz:ys.length<=sizeLine) (t:Nat):
 Inv X Df σ (upd H p (.lst ys)) { s with heap:=s.heap.update p f,toks:=t }:=by
 have e:(s.heap.update p f).get? p=some { cls:=.type "list",data:=.seq its'.toArray n' }:=by
  rw[je f ho (by rw[hf]<;>rfl),hf]
 refine I.write (x:=p) (e:=p) (by rw[h];trivial) (.inl rfl) (λb u hb q=>(ku _ _ (cw hb)).trans q) ⟨_,e⟩ ?_;exact⟨hz,its',n',r,e⟩
def nG:V->V->V->Hp->(Hp->Prop)->Prop:=λo i v H Q=>Ex4 λp xs k j=>o= .ref p/\i= .int k/\H p=some (.lst xs)/\ixN xs.length k=some j/\Q (upd H p (.lst (xs.set j v)))
theorem ZS:mQ X nG:=by
 intro Df s σ H o i v ov iv u Q I ro ri rv h;obtain⟨p,xs,k,j,rfl,rfl,hp,hj,q⟩:=h;cases ro;obtain⟨t,rfl⟩:=ri;obtain⟨Di,n,r,ho,hz⟩:=I.lst hp;obtain⟨h1,h2,h3,h4⟩:=V9 hj;have hl:=r.length;have hn:=KH;have I':Inv X Df σ (upd H p (.lst (xs.set j v))) { s with heap:=s.heap.update p (fm (·.setIfInBounds j u)) }:=
  I.lstUpd hp ho (T7 Di n j u) (r.set rv j) (by rw[y9];exact hz) s.toks
 by_cases h0:0<=k
 ·have hk:k.toNat=j:=by
   rw[yX h0 h4] at h1;exact cz h1
  exact PySem.W.ki_setAt ho h0 (by omega) (by rw[br, ←hl];exact h4) (by rw[hk];exact⟨_,I',q⟩)
 ·have hk:(k+(Di.toArray.size:Int)).toNat=j:=by
   rw[seqIndex_neg (by omega) h3] at h1;rw[br, ←hl];exact cz h1
  exact PySem.W.ki_setBack ho (by omega) (by rw[br, ←hl];exact h3) (by omega) (by rw[hk];exact⟨_,I',q⟩)
theorem QA (lo hi:Option Int) (n:Nat):(sr lo hi none n).1=((HT.sIx n 0 lo:Nat):Int)/\(sr lo hi none n).2.1=((HT.sIx n n hi:Nat):Int)/\(sr lo hi none n).2.2=1:=by
 refine⟨?_,?_,rfl⟩
 ·cases lo with
  |none=>simp[sr,HT.sIx]
  |some i=>
   simp only[sr,HT.sIx,yG,show(1:Int)>0 by decide,if_true];by_cases h:i<0
   ·simp only[h,if_true]<;>omega
   ·simp only[h,if_false]<;>omega
 ·cases hi with
  |none=>simp[sr,HT.sIx]
  |some i=>
   simp only[sr,HT.sIx,yG,show(1:Int)>0 by decide,if_true];by_cases h:i<0
   ·simp only[h,if_true]<;>omega
   ·simp only[h,if_false]<;>omega
theorem OI (Di:List ah) (lo hi:Option Int):slicePick Di.toArray lo hi none=((Di.drop (HT.sIx Di.length 0 lo)).take (HT.sIx Di.length Di.length hi - HT.sIx Di.length 0 lo)).toArray:=by
 obtain⟨h1,h2,h3⟩:=QA lo hi Di.toArray.size;unfold slicePick;rw[h1,h2,h3];simp only[sliceRange_one,pick_run,br]<;>rfl
def tQ (K:aa):V->Option Int->Option Int->Hp->VK->Prop:=λx lo hi H Q=>Ex2 λa xs=>x= .ref a/\SqL K H a xs/\∀p,H p=none->Q (.ref p) (upd H p (.lst (II xs lo hi)))
theorem QB:SlR X (tQ X.K):=by
 intro Df s σ H x v vl vu lo hi sl Q I rx hs pl pu h;obtain⟨a,xs,rfl,hx,q⟩:=h;cases rx;obtain⟨Di,r,ht,hz⟩:=I.list hx;have hlen:=r.length;refine⟨"list",_,slot_list_getitem.lookup,ht.isList.typeIs,?_⟩;refine wpAny_getItem_list_slice ht.isList hs pl pu .none (by simp) ?_ (by rw[br]<;>omega);rw[OI, ←hlen];refine⟨.ref s.heap.objs.size,_,I.laid (t':=s.toks) (o:=.lst (II xs lo hi)) (λb ob q=>am _ q) (aw _) ?_,rfl,q _ (I.hok.fresh (aw _))⟩;exact⟨cu (FS xs lo hi) hz,_,0,(r.drop (HT.sIx xs.length 0 lo)).take (HT.sIx xs.length xs.length hi - HT.sIx xs.length 0 lo),bj _ rfl⟩
theorem AO:LC X (.builtin "len") (λxs H Q=>Ex2 λp ys=>xs=[.ref p]/\(SqL X.K H p ys\/SqT X.K H p ys)/\Q (.int ys.length) H):=by
 intro Df s σ H xs us Q I r h;obtain⟨p,ys,rfl,hq,q⟩:=h;obtain⟨u,rfl,rx⟩:=OU r;cases rx;have hn:=KH;rcases hq with hq|hq
 ·obtain⟨Di,r',pl,hz⟩:=I.list hq;have hlen:=r'.length;exact Calls.call_len_list pl.isList (by simp only[br]<;>omega) ⟨.int ys.length,H,I.tok _,⟨s.toks+1,by rw[br,hlen]⟩,q⟩
 ·obtain⟨Di,r',pl,hz⟩:=I.tuple hq;have hlen:=r'.length;exact len_tuple pl (by simp only[br]<;>omega) ⟨.int ys.length,H,I.tok _,⟨s.toks+1,by rw[br,hlen]⟩,q⟩
theorem QC:LC X (.builtin "len") (λxs H Q=>∃z,xs=[.str z]/\z.length<=sizeLine/\Q (.int z.length) H):=by
 intro Df s σ H xs us Q I r h;obtain⟨z,rfl,hz,q⟩:=h;obtain⟨u,rfl,t,rfl⟩:=OU r;have hn:=KH;exact len_str (by omega) ⟨.int z.length,H,I.tok _,⟨_,rfl⟩,q⟩
theorem IL:LC X (.type "tuple") (λxs H Q=>Ex2 λp ys=>xs=[.ref p]/\((SqL X.K H p ys/\∀l,H l=none->Q (.ref l) (upd H l (.tup ys)))\/(SqT X.K H p ys/\Q (.ref p) H))):=by
 intro Df s σ H xs us Q I r h;obtain⟨p,ys,rfl,h⟩:=h;obtain⟨u,rfl,rx⟩:=OU r;cases rx;rcases h with⟨hq,q⟩|⟨hq,q⟩
 ·obtain⟨Di,r',pl,hz⟩:=I.list hq;have hlen:=r'.length;refine call_tuple_list pl.isList (λh' kp=>?_) (by simp only[br]<;>omega);have I1:Inv X Df σ H { s with heap:=h' }:=I.kept (t':=s.toks) kp;have I2:Inv X Df σ (upd H h'.objs.size (.tup ys)) { s with heap:=h'.push { cls:=.type "tuple",data:=.seq Di.toArray } }:=
   I1.laid (t':=s.toks) (λb o e=>am _ e) (aw _) (show ObjOk X.prog X.w _ _ _ (.tup ys) from⟨hz,Di,r',Cy _ _⟩)
  exact⟨.ref h'.objs.size,_,I2,rfl,q _ (I1.hok.fresh (aw _))⟩
 ·obtain⟨Di,r',pl,hz⟩:=I.tuple hq;exact call_tuple_same pl ⟨.ref p,H,I,rfl,q⟩
def tyV (K:aa) (T:String) (x:V) (H:Hp):Prop:=match x with
 | .str _=>T="str"
 | .int _=>T="int"
 | .ref p=>(T="list"/\∃xs,SqL K H p xs)\/(T="tuple"/\∃o,K.lookup p=some o/\o.cls= .type "tuple"/\o.dict=none)\/
  (T="dict"/\((∃Dj,H p=some (.dK Dj))\/∃Dj,H p=some (.dT Dj)))\/(T="set"/\Ex2 λS n=>H p=some (.set S n))
 |_=>False
theorem i9 {Df:List (ag×Obj)} {σ:St} {H:Hp} {s:ak} {T:String} {x:V} {v:ah} (I:Inv X Df σ H s) (r:RelV x v) (ty:tyV X.K T x H):
 s.TypeIs v T/\∀a,v= .ref a->∃ob,s.heap.get? a=some ob/\ob.dict=none:=by
 cases x with
 |str z=>
  obtain⟨t,rfl⟩:=r;cases (show T="str" from ty);exact⟨typeIs_str s z t,λ_ e=>nomatch e⟩
 |int i=>
  obtain⟨t,rfl⟩:=r;cases (show T="int" from ty);exact⟨typeIs_int s i t,λ_ e=>nomatch e⟩
 |ref p=>
  cases r;rcases ty with⟨rfl,xs,hq⟩|⟨rfl,o,hk,hc,hd⟩|⟨rfl,hk⟩|⟨rfl,S,n,hk⟩
  ·obtain⟨Di,_,pl,_⟩:=I.list hq;refine⟨pl.isList.typeIs,λa e=>?_⟩;cases e;obtain⟨o,n,e,c,hd,_⟩:=pl;exact⟨o,e,hd⟩
  ·refine⟨⟨o,I.kIn p o hk,hc⟩,λa e=>?_⟩;cases e;exact⟨o,I.kIn _ o hk,hd⟩
  ·have z:∃o,s.heap.get? p=some o/\o.ExactDict:=by
    rcases hk with⟨Dj,hk⟩|⟨Dj,hk⟩
    ·obtain⟨_,_,_,_,o,_,_,e,ex,_⟩:=I.hok p _ hk;exact⟨o,e,ex⟩
    ·obtain⟨_,_,_,_,o,_,_,e,ex,_⟩:=I.hok p _ hk;exact⟨o,e,ex⟩
   obtain⟨o,e,ex⟩:=z;refine⟨⟨o,e,ex.1⟩,λa e2=>?_⟩;cases e2;exact⟨o,e,ex.2.1⟩
  ·obtain⟨o,_,_,_,e,ex,_⟩:=I.hok p _ hk;refine⟨⟨o,e,ex.1⟩,λa e2=>?_⟩;cases e2;exact⟨o,e,ex.2.1⟩
 |_=>exact fk ty
def tBM (K:aa) (T:String) (r:V->List V->Hp->VK->Prop) (to:TE) (t:TA):TE:=λσ H Q=>to σ H λx H1=>tyV K T x H1/\t σ H1 λxs H2=>r x xs H2 Q
variable {o e:Expr} {es:List Expr} {to:TE} {t:TA} {name:Str} {apos cpos:Pos} {T id:String} {r:V->List V->Hp->VK->Prop}
theorem G7 (pa:PlainAttrs T) (slot:Slot T name id) (hty:zH (.builtin id)=pure (.type "method_descriptor")) (hm:MtR X id r) (ho:PE X o to) (ha:PA X (e::es) t)
 (hbase:jy o name X.env (eval o X.env)=eval o X.env:=by rfl)
 (hfew:((ie cpos (be (e::es) X.env)).all (λx=>!x.1)&&(kf cpos (gr [] X.env)).all (λx=>x.1.isSome)
  &&decide ((e::es).length+([]:List wm).length+(if([]:List wm).isEmpty then 0 else 1)<30))=true:=by rfl)
 (hline:(apos.endLine==cpos.line)=true:=by rfl) (hs:be (e::es) X.env=(false,eval e X.env)::be es X.env:=by rfl) (hplain:(ie cpos (be es X.env)).any (·.1)=false:=by rfl):
 PE X (.Call (.Attribute o name apos) (e::es) [] cpos) (tBM X.K T r to t):=by
 intro Df s σ H Q I h;refine wpAny_Call_method_late hbase hfew hline rfl (thn (ho Df s σ H _ I h) λv s1 ⟨x,H1,I1,r1,ty,q1⟩=>?_);obtain⟨h1,h2⟩:=i9 I1 r1 ty;refine⟨T,id,pa,slot,hty,h1,h2,?_⟩;have hA:=ha cpos Df s1 σ H1 _ I1 q1;rw[hs] at hA ⊢;refine Calls.callWith_builtin (by show(false||(ie cpos (be es X.env)).any (·.1))=false;rw[hplain]<;>rfl) (Calls.evalArgs_plain ?_);exact thn hA λus s2 ⟨vs,H2,I2,r2,q2⟩=>hm Df s2 σ H2 x vs v us Q I2 r1 r2 q2
end
def MtM (X:Cx) (id:String) (r:V->List V->Hp->VK->Prop):Prop:=
 ∀(Df:List (ag×Obj)) (s:ak) (σ:St) (H:Hp) (x:V) (xs:List V) (v:ah) (us:List ah) (Q:VK),Inv X Df σ H s->RelV x v->Vals xs us->r x xs H Q->
  bi (bo X.prog X.w) X.A (call (.builtin id) (v::us)) (EP X Df σ Q) X.xe s
theorem Vals.one:∀{x:V} {us:List ah},Vals [x] us->∃u,us=[u]/\RelV x u
 |_,_,.cons r .nil=>⟨_,rfl,r⟩
theorem Vals.two:∀{x y:V} {us:List ah},Vals [x,y] us->∃u v,us=[u,v]/\RelV x u/\RelV y v
 |_,_,_,.cons r (.cons q .nil)=>⟨_,_,rfl,r,q⟩
theorem Vals.zero:∀{us:List ah},Vals [] us->us=[]
 |_,.nil=>rfl
theorem Vals.reverse {xs:List V} {us:List ah} (h:Vals xs us):Vals xs.reverse us.reverse:=by
 induction h with
 |nil=>exact .nil
 |cons r t ih=>rw[uc,uc];exact Vals.append ih (.cons r .nil)
section
variable {X:Cx} {Df:List (ag×Obj)} {σ:St} {H:Hp} {s:ak} {l b:ag} {xs ys zs:List V}
theorem Inv.lset {Di its':List ah} {n:Nat} {f:Array ah->Array ah} {t':Nat} (I:Inv X Df σ H s) (hH:H l=some (.lst xs))
 (e:s.heap.get? l=some { cls:=.type "list",data:=.seq Di.toArray n }) (hf:f Di.toArray=its'.toArray) (hv:Vals ys its') (hz:ys.length<=sizeLine):
 Inv X Df σ (upd H l (.lst ys)) { s with heap:=s.heap.update l (fm f),toks:=t' }:=by
 have q:=PySem.IsL.update e f;rw[hf] at q;refine I.write (x:=l) (e:=l) (by rw[hH];exact trivial) (.inl rfl) (λb' u hb hu=>(ku s.heap (fm f) (cw hb)).trans hu) ⟨_,q⟩ ?_;exact⟨hz,its',_,hv,q⟩
theorem Inv.lnew {Di:List ah} {t':Nat} (I:Inv X Df σ H s) (hv:Vals ys Di) (hz:ys.length<=sizeLine):
 Inv X Df σ (upd H s.heap.objs.size (.lst ys)) { s with heap:=s.heap.push { cls:=.type "list",data:=.seq Di.toArray },toks:=t' }:=
 I.laid (λ_ _ q=>am _ q) (aw _) ⟨hz,Di,0,hv,bj _ rfl⟩
theorem Inv.fresh (I:Inv X Df σ H s):H s.heap.objs.size=none:=I.hok.fresh (aw _)
theorem Inv.lstM (I:Inv X Df σ H s) (hH:H l=some (.lst xs)):xs.length<=sizeLine/\∃(Di:List ah) (n:Nat),Vals xs Di/\xs.length=Di.length/\s.heap.get? l=some { cls:=.type "list",data:=.seq Di.toArray n }:=by
 obtain⟨z,Di,n,r,e⟩:=I.hok l _ hH;exact⟨z,Di,n,r,r.length,e⟩
theorem ZT {n:Nat} (h:n<=sizeLine):rc n=false:=by
 unfold rc;exact decide_eq_false (by omega)
end
section
variable {X:Cx}
def MG:V->List V->Hp->VK->Prop:=λx vs H Q=>Ex3 λl xs y=>x= .ref l/\vs=[y]/\H l=some (.lst xs)/\xs.length<sizeLine/\Q .non (upd H l (.lst (xs++[y])))
theorem CQ:MtM X "list.append" MG:=by
 intro Df s σ H x vs v us Q I rx rv h;obtain⟨l,xs,y,rfl,rfl,hH,hz,q⟩:=h;cases rx;obtain⟨u,rfl,ru⟩:=rv.one;obtain⟨z,Di,n,r,hl,e⟩:=I.lstM hH;refine zJ fb ⟨_,e,rfl⟩ F.entry_list_append (F.args_list_append_2 _ _) (PySem.list_append l Di.toArray n u (by rw[br];omega)) ⟨e,?_⟩;refine⟨.non,_,I.lset (its':=Di++[u]) hH e (by simp) (r.append (.cons ru .nil)) ?_,rfl,q⟩;rw[bp,List.length_singleton];omega
def d8:V->List V->Hp->VK->Prop:=λx vs H Q=>Ex4 λl b xs zs=>x= .ref l/\vs=[.ref b]/\H l=some (.lst xs)/\H b=some (.lst zs)/\xs.length+zs.length<=sizeLine/\Q .non (upd H l (.lst (xs++zs)))
theorem mN:MtM X "list.extend" d8:=by
 intro Df s σ H x vs v us Q I rx rv h;obtain⟨l,b,xs,zs,rfl,rfl,hH,hB,hz,q⟩:=h;cases rx;obtain⟨u,rfl,ru⟩:=rv.one;cases ru;obtain⟨z,Di,n,r,hl,e⟩:=I.lstM hH;obtain⟨z2,its2,n2,r2,hl2,e2⟩:=I.lstM hB;have hsz:Di.toArray.size+its2.toArray.size<=sizeLine:=by rw[br,br];omega
 have hlong:¬(!Di.toArray.isEmpty&&rc (Di.toArray.size+its2.toArray.size))=true:=by
  rw[ZT hsz,wY];exact bw
 refine zJ F.slot_list_extend ⟨_,e,rfl⟩ F.entry_list_extend (F.args_list_extend_2 _ _)
  (AutoSeq1.list_extend_list_list_0 l Di.toArray n b its2.toArray n2 hlong (by rw[br];omega) (by omega)) ⟨e,e2,?_⟩
 refine⟨.non,_,I.lset (its':=Di++its2) hH e (by simp) (r.append r2) ?_,rfl,q⟩;rw[bp];omega
def tR:R2:=λx y H Q=>Ex4 λl b xs zs=>x= .ref l/\y= .ref b/\H l=some (.lst xs)/\H b=some (.lst zs)/\xs.length+zs.length<=sizeLine/\∀p,H p=none->Q (.ref p) (upd H p (.lst (xs++zs)))
theorem jA:OpR X (tq .Add) tR:=by
 intro Df s σ H x y v u Q I rx ry h;obtain⟨l,b,xs,zs,rfl,rfl,hH,hB,hz,q⟩:=h;cases rx;cases ry;obtain⟨z,Di,n,r,hl,e⟩:=I.lstM hH;obtain⟨z2,its2,n2,r2,hl2,e2⟩:=I.lstM hB;refine PySem.P.add_list e e2 ?_ (by rw[br,br];omega);have ea:Di.toArray++its2.toArray=(Di++its2).toArray:=by simp
 rw[ea];exact⟨.ref _,_,I.lnew (t':=s.toks) (r.append r2) (by rw[bp];omega),rfl,q _ I.fresh⟩
end
theorem Vals.ints:∀{ns:List Int} {us:List ah},Vals (ns.map V.int) us->IntsAre us ns
 |[],us,h=>by
  rw[yk] at h;cases h;exact IntsAre.nil
 |n::ns,us,h=>by
  rw[dc] at h;cases h with
  |cons r t=>
   obtain⟨k,rfl⟩:=r;exact IntsAre.cons n k (Vals.ints t)
theorem Vals.strs:∀{xs:List Str} {us:List ah},Vals (xs.map V.str) us->StrsAre us xs
 |[],us,h=>by
  rw[yk] at h;cases h;exact StrsAre.nil
 |x::xs,us,h=>by
  rw[dc] at h;cases h with
  |cons r t=>
   obtain⟨k,rfl⟩:=r;exact StrsAre.cons x k (Vals.strs t)
mutual
inductive Dp (K:aa) (H:Hp):V->wZ->Prop
 |non:Dp K H .non .none
 |bl (b:Bool):Dp K H (.bl b) (.bool b)
 |int (i:Int):Dp K H (.int i) (.int i)
 |str (x:Str):Dp K H (.str x) (.str x)
 |lst {a:ag} {xs:List V} {ds:List wZ}:SqL K H a xs->DpAll K H xs ds->Dp K H (.ref a) (.list ds)
 |tup {a:ag} {xs:List V} {ds:List wZ}:SqT K H a xs->DpAll K H xs ds->Dp K H (.ref a) (.tuple ds)
inductive DpAll (K:aa) (H:Hp):List V->List wZ->Prop
 |nil:DpAll K H [] []
 |cons {v:V} {vs:List V} {d:wZ} {ds:List wZ}:Dp K H v d->DpAll K H vs ds->DpAll K H (v::vs) (d::ds)
end
section
variable {X:Cx} {Df:List (ag×Obj)} {σ:St} {H:Hp} {s:ak}
mutual
theorem Dp.reads (I:Inv X Df σ H s):∀(d:wZ) (v:V) (u:ah),Dp X.K H v d->RelV v u->∃as,Reads s.heap u d as
 | .none,_,_,h,r=>by
   cases h;cases r;exact⟨_,Reads.none⟩
 | .bool b,_,_,h,r=>by
   cases h;cases r;exact⟨_,Reads.bool b⟩
 | .int i,_,_,h,r=>by
   cases h;obtain⟨t,rfl⟩:=r;exact⟨_,Reads.int i t⟩
 | .str x,_,_,h,r=>by
   cases h;obtain⟨t,rfl⟩:=r;exact⟨_,Reads.str x t⟩
 | .list ds,_,_,h,r=>by
   cases h with
   |lst hs ha=>
    cases r;obtain⟨Di,rv,⟨o,n,ho,hc,_,hd⟩,_⟩:=I.list hs;obtain⟨as,hr⟩:=Dp.readsAll I ds _ Di ha rv;exact⟨_,Reads.list ho hc hd hr⟩
 | .tuple ds,_,_,h,r=>by
   cases h with
   |tup hs ha=>
    cases r;obtain⟨Di,rv,⟨o,ho,hc,n,hd⟩,_⟩:=I.tuple hs;obtain⟨as,hr⟩:=Dp.readsAll I ds _ Di ha rv;exact⟨_,Reads.tuple ho hc hd hr⟩
 | .dict _,_,_,h,_=>by cases h
theorem Dp.readsAll (I:Inv X Df σ H s):∀(ds:List wZ) (vs:List V) (us:List ah),DpAll X.K H vs ds->Vals vs us->∃as,ReadsAll s.heap us ds as
 |[],_,_,h,r=>by
  cases h;cases r;exact⟨_,ReadsAll.nil⟩
 |d::ds,_,_,h,r=>by
  cases h with
  |cons h1 h2=>
   cases r with
   |cons r1 r2=>
    obtain⟨as,q1⟩:=Dp.reads I d _ _ h1 r1;obtain⟨bs,q2⟩:=Dp.readsAll I ds _ _ h2 r2;exact⟨_,ReadsAll.cons q1 q2⟩
end
end
abbrev ZU (h:cr) (c:ag) (v:Option ah):Prop:=h.IsCell c v
def tS (scope sc:jr):jr:=
 { scope with names:=scope.names.map λ(n,k)=>if(k==.free&&sc.kind==.function&&sc.names.lookup n==some .cell) then(n,.cell) else(n,k) }
def BA (cells:List (Str×ag)):List (Str×lj)->List (Str×ag)->List (Str×ag)
 |[],acc=>acc
 |(n,k)::r,acc=>if k==.free then BA cells r ((n,(cells.lookup n).getD 0)::acc) else BA cells r acc
theorem JP (env:Env) (f:Str×lj->List (Str×ag)->Sem (ForInStep (List (Str×ag))))
 (hf:∀n k c,f (n,k) c=if k==.free then(do let a←cellOf env n;pure (.yield ((n,a)::c))) else pure (.yield c)):
 ∀(names:List (Str×lj)) (acc:List (Str×ag)),(∀y∈names,y.2= .free->∃c,env.cells.lookup y.1=some c)->forIn names acc f=pure (BA env.cells names acc)
 |[],acc,_=>by rw[zK];rfl
 |(n,k)::r,acc,h=>by
  rw[List.forIn_cons,hf];have ih:=λacc=>JP env f hf r acc λy hy=>h y (aq _ hy);unfold BA;by_cases hk:(k==rg)=true
  ·rw[Dm hk,Dm hk];obtain⟨c,hc⟩:=h (n,k) bc (by simpa using hk);have e:cellOf env n=pure c:=by unfold cellOf;rw[hc]
   rw[e];have e2:(env.cells.lookup n).getD 0=c:=by rw[hc];rfl
   rw[e2];exact ih _
  ·rw[Dn hk,Dn hk];exact ih _
theorem M8 {scope:jr} {env:Env} (h:∀y∈scope.names,y.2= .free->∃c,env.cells.lookup y.1=some c):zM scope env=pure (BA env.cells scope.names []):=by
 simp only[zM];rw[JP env _ (λn k c=>rfl) scope.names [] h];rfl
theorem E9 {α:Type}:∀{l:List (Str×α)} {n:Str} {c:α},(n,c)∈l->∃c',l.lookup n=some c'
 |(k,v)::r,n,c,h=>by
  rw[lg];cases hb:n==k with
  |true=>exact⟨_,rfl⟩
  |false=>
   rcases bq.mp h with e|h
   ·cases e;simp at hb
   ·exact E9 h
theorem EL {cells:List (Str×ag)}:∀{names:List (Str×lj)} {acc:List (Str×ag)} {n:Str} {c:ag},(n,c)∈BA cells names acc->(n,c)∈acc\/((n,.free)∈names/\c=(cells.lookup n).getD 0)
 |[],_,_,_,h=>.inl h
 |(m,k)::r,acc,n,c,h=>by
  unfold BA at h;split at h
  ·rename_i hk;have hk:k= .free:=by simpa using hk
   rcases EL h with h|⟨h1,h2⟩
   ·rcases bq.mp h with e|h
    ·cases e;exact .inr ⟨hk▸bc,rfl⟩
    ·exact .inl h
   ·exact .inr ⟨aq _ h1,h2⟩
  ·rcases EL h with h|⟨h1,h2⟩
   ·exact .inl h
   ·exact .inr ⟨aq _ h1,h2⟩
theorem G8 {cells:List (Str×ag)}:∀{names:List (Str×lj)} {acc:List (Str×ag)} {p:Str×ag},p∈acc->p∈BA cells names acc
 |[],_,_,h=>h
 |(m,k)::r,acc,p,h=>by
  unfold BA;split
  ·exact G8 (aq _ h)
  ·exact G8 h
theorem EM {cells:List (Str×ag)}:∀{names:List (Str×lj)} {acc:List (Str×ag)} {n:Str},(n,.free)∈names->(n,(cells.lookup n).getD 0)∈BA cells names acc
 |(m,k)::r,acc,n,h=>by
  unfold BA;rcases bq.mp h with e|h
  ·cases e;exact G8 bc
  ·split
   ·exact EM h
   ·exact EM h
theorem GD:∀{names:List (Str×lj)} {h:cr} {acc:List (Str×ag)} {x:Str} {c:ag},(x,c)∈ip h.objs.size names acc->
 (x,c)∈acc\/((x,.cell)∈names/\h.objs.size<=c/\ZU (ut h names) c none)
 |[],_,_,_,_,h=>.inl h
 |(n,k)::r,h,acc,x,c,hm=>by
  unfold ip at hm;unfold ut;split at hm
  ·rename_i hk;rw[Dm hk];have hk:k= .cell:=by simpa using hk
   rw[←fu h { cls:=.type "cell",data:=.cell none }] at hm;rcases GD hm with hm|⟨h1,h2,h3⟩
   ·rcases bq.mp hm with e|hm
    ·cases e;exact .inr ⟨hk▸bc,aw _,_,uQ r _ _ _ (bj _ rfl),rfl⟩
    ·exact .inl hm
   ·rw[fu] at h2;exact .inr ⟨aq _ h1,ud h2,h3⟩
  ·rename_i hk;rw[Dn hk];rcases GD hm with hm|⟨h1,h2,h3⟩
   ·exact .inl hm
   ·exact .inr ⟨aq _ h1,h2,h3⟩
theorem HZ:∀{names:List (Str×lj)} {n:Nat} {acc:List (Str×ag)} {p:Str×ag},p∈acc->p∈ip n names acc
 |[],_,_,_,h=>h
 |(m,k)::r,n,acc,p,h=>by
  unfold ip;split
  ·exact HZ (aq _ h)
  ·exact HZ h
theorem KM:∀{names:List (Str×lj)} {n:Nat} {acc:List (Str×ag)} {x:Str},(x,.cell)∈names->∃c,(x,c)∈ip n names acc
 |(m,k)::r,n,acc,x,h=>by
  unfold ip;rcases bq.mp h with e|h
  ·cases e;exact⟨n,HZ bc⟩
  ·split
   ·exact KM h
   ·exact KM h
theorem KO:∀{names:List (Str×lj)} {h:cr} {acc:List (Str×ag)} {x y:Str} {c:ag},(∀p∈acc,p.2<h.objs.size)->(∀x y c,(x,c)∈acc->(y,c)∈acc->x=y)->
 (x,c)∈ip h.objs.size names acc->(y,c)∈ip h.objs.size names acc->x=y
 |[],_,_,_,_,_,_,hi,h1,h2=>hi _ _ _ h1 h2
 |(n,k)::r,h,acc,x,y,c,hl,hi,h1,h2=>by
  unfold ip at h1 h2;split at h1
  ·rename_i hk;rw[Dm hk] at h2;rw[←fu h { cls:=.type "cell",data:=.cell none }] at h1 h2;refine KO (h:=h.push _) (λp hp=>?_) (λx y c a b=>?_) h1 h2
   ·rw[fu];rcases bq.mp hp with rfl|hp
    ·exact v5 _
    ·exact qc (hl p hp)
   ·rcases bq.mp a with e|a<;>rcases bq.mp b with e'|b
    ·cases e;cases e';rfl
    ·cases e;exact absurd (hl _ b) (jf _)
    ·cases e';exact absurd (hl _ a) (jf _)
    ·exact hi _ _ _ a b
  ·rename_i hk;rw[Dn hk] at h2;exact KO hl hi h1 h2
theorem RV {M:yW} {A:dj} {E:ah->ak->Prop} {s:ak} {scope:jr} {globals:ag} {closure:List (Str×ag)} {qual:Str} {func:Option ag} {code:ah} {around:Env} {builtins:ag} {Q:Env->ak->Prop}
 (h:Q (newEnv scope s.heap.objs.size globals (ip (s.heap.objs.size+1) scope.names closure) qual func code (some around) builtins)
  { s with heap:=ut (s.heap.push { cls:=.type "dict",data:=.dict #[] }) scope.names }):
 bi M A (zO scope globals closure [] qual func code (some around) builtins) Q E s:=by
 simp only[zO,Option.isSome_some,if_true];refine ae (wpAny_alloc ?_);refine ae (wpAny_layCells _ (λn k c=>rfl) scope.names closure _ _ ?_);rw[show({ s with heap:=s.heap.push { cls:=.type "dict",data:=.dict #[] } }:ak).heap.objs.size=s.heap.objs.size+1 from fu ..];rw[zK];exact ae (ao (ao h))
theorem G9 {sc:jr}:∀{names:List (Str×lj)} {x:Str} {k:lj},
 (names.map λ(n,k)=>if(k==rg&&sc.kind==.function&&sc.names.lookup n==some .cell) then(n,xP) else(n,k)).lookup x=some k->
 ∃k',names.lookup x=some k'/\(k=k'\/(k'= .free/\k= .cell))
 |[],_,_,h=>by simp at h
 |(n,k₀)::r,x,k,h=>by
  have ih:=@G9 sc r x k;have h':jk x ((if(k₀==rg&&sc.kind==.function&&sc.names.lookup n==some .cell)=true then(n,xP) else(n,k₀))::(r.map _))=some k:=h;cases hx:x==n with
  |true=>
   simp only[lg,hx];by_cases hc:(k₀==rg&&sc.kind==.function&&sc.names.lookup n==some .cell)=true
   ·rw[Dm hc] at h';simp only[lg,hx] at h';cases h';simp only[iz,beq_iff_eq] at hc;exact⟨k₀,rfl,.inr ⟨hc.1.1,rfl⟩⟩
   ·rw[Dn hc] at h';simp only[lg,hx] at h';cases h';exact⟨_,rfl,.inl rfl⟩
  |false=>
   simp only[lg,hx];by_cases hc:(k₀==rg&&sc.kind==.function&&sc.names.lookup n==some .cell)=true
   ·rw[Dm hc] at h';simp only[lg,hx] at h';exact ih h'
   ·rw[Dn hc] at h';simp only[lg,hx] at h';exact ih h'
structure BlkOk (N:List Str) (sc scope:jr) (own:List (Str×Nat)):Prop where
 kind:scope.kind= .function:=by rfl
 uniq:∀y∈scope.names,scope.names.lookup y.1=some y.2:=by decide +kernel
 ix:∀p∈own,N[p.2]? =some p.1:=by decide +kernel
 free:∀y∈scope.names,y.2= .free->sc.names.lookup y.1=some .cell\/sc.names.lookup y.1=some .free:=by decide +kernel
 own:∀y∈scope.names,y.2= .local\/y.2= .cell->y.1∈own.map (·.1)\/y.1∉N:=by decide +kernel
def GP (σ:St):List Nat->St
 |[]=>σ
 |v::vs=>(GP σ vs).set v none
theorem HA (σ:St):∀vs:List Nat,(GP σ vs).length=σ.length
 |[]=>rfl
 |v::vs=>by unfold GP;rw[y9,HA σ vs]
theorem KP {σ:St} {i:Nat} {x:V}:∀{vs:List Nat},(GP σ vs)[i]? =some (some x)->σ[i]? =some (some x)/\i∉vs
 |[],h=>⟨h,by simp⟩
 |v::vs,h=>by
  unfold GP at h;by_cases hi:v=i
  ·subst hi;by_cases hv:v<(GP σ vs).length
   ·rw[oj hv] at h;cases h
   ·rw[wL (by simpa using hv)] at h;cases h
  ·rw[uK hi] at h;obtain⟨h1,h2⟩:=KP h;exact⟨h1,by simp only[bq,not_or];exact⟨λe=>hi e.symm,h2⟩⟩
abbrev Cx.blk (X:Cx) (s:ak) (H:Hp) (scope:jr) (cenv:Env) (fp:List ag):Cx:={ X with s_0:=s,H_0:=H,env:=cenv,outer:=X.stack,ex:=fp,fn:=λx=>scope.names.lookup x==some .cell,pn:=[],xe:=λ_ _=>False }
section
variable {X:Cx} {Df:List (ag×Obj)} {σ:St} {H:Hp} {s:ak}
theorem RW {scope:jr} {own:List (Str×Nat)} {fp:List ag} (I:Inv X Df σ H s) (ok:BlkOk X.N X.env.scope scope own) (hN:X.N.Nodup) (hfp:∀b∈fp,KG X Df H b/\b<s.heap.objs.size):
 Inv (X.blk s H scope (ju scope (ip (s.heap.objs.size+1) scope.names (BA X.env.cells scope.names [])) s.heap.objs.size X.env) fp) [] (GP σ (own.map (·.2))) H { s with heap:=ut (s.heap.push { cls:=.type "dict",data:=.dict #[] }) scope.names }:=by
 have hfree:∀y∈scope.names,y.2= .free->∃c,X.env.cells.lookup y.1=some c:=λy hy e=>by
  rcases ok.free y hy e with k|k
  ·exact I.ok.has _ (.inl k)
  ·exact I.ok.has _ (.inr k)
 generalize hcenv:ju scope (ip (s.heap.objs.size+1) scope.names (BA X.env.cells scope.names [])) s.heap.objs.size X.env=cenv;have kp:∀b o,s.heap.get? b=some o->(ut (s.heap.push { cls:=.type "dict",data:=.dict #[] }) scope.names).get? b=some o:=λb o e=>uQ _ _ _ _ (am _ e);have hL:cenv.locals=s.heap.objs.size:=by rw[←hcenv];rfl
 have hcl:cenv.cells=ip (s.heap.objs.size+1) scope.names (BA X.env.cells scope.names []):=by rw[←hcenv];rfl
 have hsc:cenv.scope=tS scope X.env.scope:=by rw[←hcenv];rfl
 rw[←fu s.heap { cls:=.type "dict",data:=.dict #[] }] at hcl;have cm:∀{y c},(y,c)∈BA X.env.cells scope.names []->X.env.cells.lookup y=some c/\c<s.heap.objs.size:=λ{y c} hm=>by
  rcases EL hm with hm|⟨h1,rfl⟩
  ·cases hm
  ·obtain⟨c,hc⟩:=hfree _ h1 rfl;rw[hc];obtain⟨w,z⟩:=I.cell _ _ hc;exact⟨rfl,z.lt⟩
 have mem:∀{y c},cenv.cells.lookup y=some c->(X.env.cells.lookup y=some c/\c<s.heap.objs.size)\/(s.heap.objs.size+1<=c/\ZU (ut (s.heap.push { cls:=.type "dict",data:=.dict #[] }) scope.names) c none):=λ{y c} e=>by
  rw[hcl] at e;rcases GD (cq e) with hm|⟨_,h2,h3⟩
  ·exact .inl (cm hm)
  ·rw[fu] at h2;exact .inr ⟨h2,h3⟩
 have look:∀{y},scope.names.lookup y=some .free->∃c,cenv.cells.lookup y=some c/\X.env.cells.lookup y=some c:=λ{y} hl=>by
  have hy:(y,rg)∈scope.names:=cq hl;obtain⟨c',e'⟩:=E9 (HZ (names:=scope.names) (n:=(s.heap.push { cls:=.type "dict",data:=.dict #[] }).objs.size) (EM (cells:=X.env.cells) (acc:=[]) hy));rw[←hcl] at e';refine⟨c',e',?_⟩;rw[hcl] at e';rcases GD (cq e') with hm|⟨h1,_,_⟩
  ·exact(cm hm).1
  ·have:=ok.uniq _ h1;rw[hl] at this;cases this
 have okB:(X.blk s H scope cenv fp).Ok:=by
  refine⟨I.ok.mod,by show cenv.scope.kind=_;rw[hsc];exact ok.kind,by show cenv.globals=_;rw[←hcenv];exact I.ok.glob,by show cenv.builtins=_;rw[←hcenv];exact I.ok.blt,by show s.heap.objs.size<=cenv.locals;rw[hL];exact aw _,
   λy z c e1 e2=>?_,λy hy=>?_,λy c z e=>?_,I.ok.hd,I.ok.frames,.inl rfl,λb hb=>⟨?_,λy c e z=>?_⟩,I.bs,cu I.ok.bsz I.sz,λb o e hb=>?_,λb hb z=>?_,I.stack,I.stkFree⟩
  ·have e1:cenv.cells.lookup y=some c:=e1;have e2:cenv.cells.lookup z=some c:=e2;rw[hcl] at e1 e2;refine KO (λp hp=>?_) (λy z c a b=>I.ok.inj y z c (cm a).1 (cm b).1) (cq e1) (cq e2);rw[fu];exact qc (cm (y:=p.1) (c:=p.2) hp).2
  ·show∃c,cenv.cells.lookup y=some c;have key:∀k,cenv.kindOf y=some k->(k= .cell\/k= .free)->∃c,cenv.cells.lookup y=some c:=λk hk hk'=>by
    unfold Env.kindOf at hk;rw[hsc] at hk;obtain⟨k',e,r⟩:=G9 hk;have:k'= .cell\/k'= .free:=by
     rcases r with rfl|⟨rfl,_⟩
     ·exact hk'
     ·exact .inr rfl
    rcases this with rfl|rfl
    ·obtain⟨c,hm⟩:=KM (n:=(s.heap.push { cls:=.type "dict",data:=.dict #[] }).objs.size) (acc:=BA X.env.cells scope.names []) (cq e);obtain⟨c',e'⟩:=E9 hm;exact⟨c',by rw[hcl];exact e'⟩
    ·obtain⟨c,h1,_⟩:=look e;exact⟨c,h1⟩
   rcases hy with hy|hy
   ·exact key _ hy (.inl rfl)
   ·exact key _ hy (.inr rfl)
  ·have z:(scope.names.lookup y==some xP)=true:=z;have z:scope.names.lookup y=some .cell:=by simpa using z
   have e:cenv.cells.lookup y=some c:=e;rw[hcl] at e;rcases GD (cq e) with hm|⟨_,h2,_⟩
   ·rcases EL hm with hm|⟨h1,_⟩
    ·cases hm
    ·have q:=ok.uniq _ h1;rw[z] at q;cases q
   ·rw[fu] at h2;exact ud h2
  ·show b≠cenv.locals;rw[hL];exact cp (hfp b hb).2
  ·have e:cenv.cells.lookup y=some c:=e;rcases mem e with⟨h1,_⟩|⟨h1,_⟩
   ·exact(hfp b hb).1.2.2.2.2.1 y c h1 z
   ·have h2:s.heap.objs.size+1<=b:=by rw[←z];exact h1
    exact absurd (bv (hfp b hb).2 (ud h2)) (jf _)
  ·rcases(hfp b hb).1.2.2.2.1 with z|z
   ·exact I.ok.noex b o e z
   ·exact absurd (bv (bg e) (cu I.ok.bsz z)) (jf _)
  ·rcases bq.mp (I.stkSub b z) with z|z
   ·exact(hfp b hb).1.2.1 z
   ·exact(hfp b hb).1.2.2.1 z
 refine⟨okB,rfl,I.bare,Un.kept kp,⟨λ_=>none,?_,λi y av e1 e2 e3=>?_⟩,λy c e=>?_,?_,λy c e=>?_,λp hp=>?_,I.hok.kept kp,by rw[HA];exact I.len⟩
 ·show Heap.Ns _ cenv.locals _;rw[hL];exact Heap.Ns.keeps (Heap.Ns.new ..) λb o e=>uQ _ _ _ _ e
 ·obtain⟨e2,hne⟩:=KP e2;have hfr:scope.names.lookup y=some .free/\(cenv.kindOf y=some .cell\/cenv.kindOf y=some .free):=by
   have key:∀k,cenv.scope.names.lookup y=some k->k= .local\/k= .cell\/k= .free->scope.names.lookup y=some .free/\(cenv.kindOf y=some .cell\/cenv.kindOf y=some .free):=λk hk hk'=>by
    have hk0:=hk;rw[hsc] at hk;obtain⟨k',e,r⟩:=G9 hk;have no:¬(k'= .local\/k'= .cell):=λhh=>by
     rcases ok.own _ (cq e) hh with e'|e'
     ·obtain⟨p,hp,hpy⟩:=il.mp e';have e3:=ok.ix p hp;have:p.1=y:=hpy;rw[this] at e3;exact hne (il.mpr ⟨p,hp,MX hN e3 e1⟩)
     ·exact e' (bn e1)
    rcases r with rfl|⟨rfl,rfl⟩
    ·rcases hk' with rfl|rfl|rfl
     ·exact absurd (.inl rfl) no
     ·exact absurd (.inr rfl) no
     ·exact⟨e,.inr hk0⟩
    ·exact⟨e,.inl hk0⟩
   have e3:Vis cenv.scope y:=e3;rcases e3 with e3|e3|e3
   ·exact key _ e3 (.inl rfl)
   ·exact key _ e3 (.inr (.inl rfl))
   ·exact key _ e3 (.inr (.inr rfl))
  obtain⟨m,hn,hl⟩:=I.loc;have hvis:Vis X.env.scope y:=(ok.free _ (cq hfr.1) rfl).elim (λk=>.inr (.inl k)) (λk=>.inr (.inr k));obtain⟨w,r,q⟩:=hl i y av e1 e2 hvis;refine⟨w,r,.inr ⟨hfr.2,?_⟩⟩;obtain⟨c,h1,h2⟩:=look hfr.1;rcases q with⟨k,_⟩|⟨_,c',e',z⟩
  ·have k:X.env.scope.names.lookup y=some .local:=k;rcases ok.free _ (cq hfr.1) rfl with k'|k'<;>rw[show X.env.scope.names.lookup y=_ from k'] at k<;>cases k
  ·rw[h2] at e';cases e';exact⟨c,h1,z.keeps kp⟩
 ·have e:cenv.cells.lookup y=some c:=e;rcases mem e with⟨h1,_⟩|⟨_,z⟩
  ·obtain⟨w,z⟩:=I.cell y c h1;exact⟨w,z.keeps kp⟩
  ·exact⟨_,z⟩
 ·show H cenv.locals=none;rw[hL];exact I.hok.fresh (aw _)
 ·have e:cenv.cells.lookup y=some c:=e;rcases mem e with⟨h1,_⟩|⟨h1,_⟩
  ·exact I.freeC y c h1
  ·exact I.hok.fresh (ud h1)
 ·exact absurd (show p∈([]:List (ag×Obj))++[] from hp) (by simp)
theorem jB {E:ah->ak->Prop} {D:ag} {xs:List V} {y:V} {v:ah} {Q:ah->ak->Prop} (I:Inv X Df σ H s) (hD:H D=some (.lst xs)) (hz:xs.length<sizeLine) (r:RelV y v)
 (h:∀s',Inv X Df σ (upd H D (.lst (xs++[y]))) s'->Q .none s'):bi (bo X.prog X.w) X.A (call (.builtin "list.append") [.ref D,v]) Q E s:=by
 obtain⟨hz',Di,n,ri,e⟩:=I.hok D _ hD;have hl:=ri.length;refine append_at (hsz:=by rw[br];omega) e λh' sb ho'=>?_;refine h { s with heap:=h' } (I.write (t':=s.toks) (by rw[hD];trivial) (.inl rfl) (λb u hb q=>(sb.2 b hb).trans q) ⟨_,ho'⟩ ⟨by rw[bp];exact hz,Di++[v],n+1,ri.append (.cons r .nil),?_⟩);rw[ho'];simp
def PTs (X:Cx) (ifs:List Expr) (t:TT):Prop:=
 ∀(Df:List (ag×Obj)) (s:ak) (σ:St) (H:Hp) (Q:Bool->Hp->Prop),Inv X Df σ H s->t σ H Q->
  bi (bo X.prog X.w) X.A (forIn ifs true λc r=>if r=true then do let ok←yz c X.env (eval c X.env);pure (uR ok) else pure (uR r)) (TP X Df σ Q) X.xe s
def tT:TT:=λ_ H Q=>Q true H
theorem QD:PTs X [] tT:=λ_ _ _ H _ I h=>wpAny_tests_nil ⟨H,I,h⟩
end
theorem YC {α:Type} {t:Sem α} {Q Q':α->ak->Prop} {M:yW} {A:dj} {E:ah->ak->Prop} {s:ak} (h:bi M A t Q (λ_ _=>False) s) (hQ:∀a s,Q a s->Q' a s):bi M A t Q' E s:=ig h hQ λ_ _ z=>fk z
theorem QE {prog:bb} {w:cb} {A:dj} {R:yE->ak->Prop} {s:ak} {elt target iter:Expr} {ifs:List Expr} {scope:jr} {pos:Pos} {it acc:ah} {env:Env} (I:Nat->ak->Prop)
 (turn:∀n s,I n s->bi (bo prog w) A (xX it) (λr s₁=>match r with
  |none=>R (.ok .next) s₁
  |some v=>bi (bo prog w) A (rn target it v) (λ_ s₁'=>bi (bo prog w) A (yB target env v) (λ_ s₂=>
   bi (bo prog w) A (forIn ifs true λc r=>if r=true then do let ok←yz c env (eval c env);pure (uR ok) else pure (uR r)) (λok s₃=>
    if ok=true then bi (bo prog w) A (eval elt env) (λx s₄=>
     bi (bo prog w) A (call (.builtin "list.append") [acc,x]) (λ_ s₅=>∃m,m<n/\I m s₅) (xx (bo prog w) A env λe s'=>R (.error e) s') s₄) (xx (bo prog w) A env λe s'=>R (.error e) s') s₃
    else∃m,m<n/\I m s₃) (xx (bo prog w) A env λe s'=>R (.error e) s') s₂) (xx (bo prog w) A env λe s'=>R (.error e) s') s₁') (xx (bo prog w) A env λe s'=>R (.error e) s') s₁) (xx (bo prog w) A env λe s'=>R (.error e) s') s)
 (n:Nat) (h:I n s):
 nw (bo prog w) A (.compLoop (.ListComp elt [⟨target,iter,ifs,0⟩] scope pos) 0 it acc env) R s:=by
 refine codeAny_loop rfl I (λn s hI=>?_) n h;show bi _ A ((compTurn (.ListComp elt [⟨target,iter,ifs,0⟩] scope pos) 0 it acc env).onRaise (λx=>do v6 x env;theTreesLotGoes x)) _ _ s;refine wpAny_noted ?_;rw[compTurn_list];refine ae (jx (ae (ig (turn n s hI) (λr s₁ h₁=>?_) λ_ _ h'=>h')));cases r with
 |none=>exact ao h₁
 |some v=>
  refine ae (ig h₁ (λ_ s₁' h₁'=>?_) λ_ _ h'=>h');refine ae (ig h₁' (λ_ s₂ h₂=>ae (ig h₂ (λok s₃ h₃=>?_) λ_ _ h'=>h')) λ_ _ h'=>h');cases ok with
  |false=>exact ao ⟨rfl,h₃⟩
  |true=>
   exact ae (ae (ig h₃ (λx s₄ h₄=>ae (ig h₄ (λ_ s₅ h₅=>ao (ao ⟨rfl,h₅⟩)) λ_ _ h'=>h')) λ_ _ h'=>h'))
section
variable {X:Cx}
def tLc (wi:TI) (g:TG) (tt:TT) (te:TE) (vs:List Nat):TE:=λσ H Q=>wi σ H λJ H1=>∀D,H1 D=none->∃W:Nat->Nat->Hp->Prop,(∃m,W 0 m (upd H1 D (.lst [])))/\∀i m H,W i m H->
 (J.stop i H/\Q (.ref D) H)\/(J.go i H/\∃Nx:Hp->Prop,(∀H',Nx H'->∃m',m'<m/\W (i+1) m' H')/\∀x H',J.yld i H x H'->g x (GP σ vs) H' λσ2 H2=>GP σ2 vs=GP σ vs/\tt σ2 H2 λb H3=>
  if b=true then te σ2 H3 λy H4=>∃acc,H4 D=some (.lst acc)/\acc.length<sizeLine/\Nx (upd H4 D (.lst (acc++[y]))) else Nx H3)
theorem WA {Df:List (ag×Obj)} {s:ak} {σ:St} {H:Hp} {Q:VK} {elt tg iter:Expr} {ifs:List Expr} {scope:jr} {own:List (Str×Nat)} {pos pos':Pos} {wi:TI} {g:TG} {tt:TT} {te:TE} {use:Option (ah->Sem Unit)} {Qf:ah->ak->Prop}
 (hc:X.calm=true) (hN:X.N.Nodup) (I:Inv X Df σ H s) (hi:PI X tg iter wi) (ok:BlkOk X.N X.env.scope scope own)
 (hg:∀(s:ak) (H:Hp) (C:ag) (cl:List (Str×ag)) (fp:List ag),PG (X.blk s H scope (ju scope cl C X.env) fp) tg g) (ht:∀(s:ak) (H:Hp) (C:ag) (cl:List (Str×ag)) (fp:List ag),PTs (X.blk s H scope (ju scope cl C X.env) fp) ifs tt)
 (he:∀(s:ak) (H:Hp) (C:ag) (cl:List (Str×ag)) (fp:List ag),PE (X.blk s H scope (ju scope cl C X.env) fp) elt te) (hs:∀x,ml iter X.env x=pure x)
 (h:tLc wi g tt te (own.map (·.2)) σ H Q)
 (hRR:∀D C s' m H',Inv X Df σ H' s'->Q (.ref D) H'->s'.heap.Ns C m->KG X Df H' C->compPost (bo X.prog X.w) X.A X.xe use Qf (.ref D) C (.ok .next) s'):
 bi (bo X.prog X.w) X.A (comprehension (.ListComp elt [⟨tg,iter,ifs,0⟩] scope pos) scope X.env pos' (newList []) false (eval iter X.env) use) Qf X.xe s:=by
 have hfree:∀y∈scope.names,y.2= .free->∃c,X.env.cells.lookup y.1=some c:=λy hy e=>by
  rcases ok.free y hy e with k|k
  ·exact I.ok.has _ (.inl k)
  ·exact I.ok.has _ (.inr k)
 refine wpAny_comprehension_free (use:=use) rfl hs (M8 hfree) ok.kind (λy hy e=>by rw[ok.uniq y hy,e])
  (thn (hi Df s σ H _ I h) λxv s1 hx=>thn hx λitv s2 h2=>?_)
 obtain⟨it,fp,tn,J,H2,e,I2,T,st2,f2,q⟩:=h2;subst e;refine gg (RV ?_) (by show 0<=sizeLine;decide);generalize hD:s2.heap.objs.size=D;have hDn:H2 D=none:=I2.hok.fresh (tu hD);obtain⟨W,⟨m0,w0⟩,turn⟩:=q D hDn;generalize hs3:({ s2 with heap:=s2.heap.push { cls:=.type "list",data:=.seq ([]:List ah).toArray } }:ak)=s3;have I3:Inv X Df σ (upd H2 D (.lst [])) s3:=by
  rw[←hs3];refine I2.laid (t':=s2.toks) (λb o e=>am _ e) (tu hD) ⟨du _,[],0,.nil,?_⟩;rw[←hD];exact bj _ rfl
 have h3:s3.heap=s2.heap.push { cls:=.type "list",data:=.seq ([]:List ah).toArray }:=by rw[←hs3]
 have sz:∀b∈fp,b<s2.heap.objs.size:=λb hb=>by
  obtain⟨o,e,_⟩:=T.obj _ _ st2 b hb;exact bg e
 have f3:∀b∈fp,KG X Df (upd H2 D (.lst [])) b/\b<s3.heap.objs.size:=λb hb=>by
  have Dl:=sz b hb;refine⟨⟨?_,(f2 b hb).2⟩,by rw[h3,fu];exact qc Dl⟩;rw[AE (by rw[←hD];exact cp Dl)];exact(f2 b hb).1
 have st3:tn 0 s3.heap:=T.keep _ _ _ st2 λb _ o e=>by rw[h3];exact am _ e
 have I4:=RW I3 ok hN f3;have pg:=hg s3 (upd H2 D (.lst [])) s3.heap.objs.size (ip (s3.heap.objs.size+1) scope.names (BA X.env.cells scope.names [])) fp;have pt:=ht s3 (upd H2 D (.lst [])) s3.heap.objs.size (ip (s3.heap.objs.size+1) scope.names (BA X.env.cells scope.names [])) fp;have pe:=he s3 (upd H2 D (.lst [])) s3.heap.objs.size (ip (s3.heap.objs.size+1) scope.names (BA X.env.cells scope.names [])) fp;show nw _ _ (.compStart (.ListComp elt [⟨tg,iter,ifs,0⟩] scope pos) 0 (.ref it) (.ref D) (ju scope (ip (s3.heap.objs.size+1) scope.names (BA X.env.cells scope.names [])) s3.heap.objs.size X.env)) (compPost (bo X.prog X.w) X.A X.xe use Qf (.ref D) s3.heap.objs.size) { s3 with heap:=ut (s3.heap.push { cls:=.type "dict",data:=.dict #[] }) scope.names };have nfp:∀b∈fp,(upd H2 D (.lst [])) b=none:=λb hb=>(f3 b hb).1.1;generalize hce:ju scope (ip (s3.heap.objs.size+1) scope.names (BA X.env.cells scope.names [])) s3.heap.objs.size X.env=ce at I4 pg pt pe ⊢;have cL:ce.locals=s3.heap.objs.size:=by subst hce;rfl
 generalize hH3:upd H2 D (.lst [])=H3 at I3 I4 pg pt pe w0 nfp f3;generalize hs4:({ s3 with heap:=ut (s3.heap.push { cls:=.type "dict",data:=.dict #[] }) scope.names }:ak)=s4 at I4 ⊢;have st4:tn 0 s4.heap:=T.keep _ _ _ st3 λb _ o e=>by rw[←hs4];exact uQ _ _ _ _ (am _ e)
 have stat:∀{σ':St} {H':Hp} {s':ak},Inv (X.blk s3 H3 scope ce fp) [] σ' H' s'->(∀b∈fp,H' b=none)->∀b∈fp,KG (X.blk s3 H3 scope ce fp) [] H' b:=λ{σ' H' s'} I' hn b hb=>
  ⟨hn b hb,(I'.ok.exf b hb).1,I'.ok.exfs b hb,.inl hb,λx c e=>(I'.ok.exf b hb).2 x c e,λp hp=>absurd (show p∈([]:List (ag×Obj))++[] from hp) (by simp)⟩
 have loop:nw (bo X.prog X.w) X.A (.compLoop (.ListComp elt [⟨tg,iter,ifs,0⟩] scope pos) 0 (.ref it) (.ref D) ce) (compPost (bo X.prog X.w) X.A X.xe use Qf (.ref D) s3.heap.objs.size) s4:=by
  refine QE (λn s'=>∃i H',Inv (X.blk s3 H3 scope ce fp) [] (GP σ (own.map (·.2))) H' s'/\tn i s'.heap/\(∀b∈fp,H' b=none)/\W i n H') ?_ m0 ⟨0,H3,I4,st4,nfp,w0⟩;rintro n s5 ⟨i,H5,I5,st5,n5,w5⟩;rcases turn i n H5 w5 with⟨stop,qq⟩|⟨go,Nx,hNx,step⟩
  ·have td:=T.done (X.blk s3 H3 scope ce fp) rfl rfl rfl hc i [] s5 _ H5 (λ_ _=>False) I5 (stat I5 n5) st5 stop;refine YC td λr s6 ⟨hr,I6⟩=>?_;subst hr;have I7:Inv X Df σ H5 s6:=I3.call' (ch:=fp) I6.os I6.base I6.hok I6.bare λb hb=>⟨(f3 b hb).1.2.2.2.1,(f3 b hb).1.2.1,(f3 b hb).1.2.2.2.2.1,(f3 b hb).1.2.2.2.2.2⟩
   have nC:H5 s3.heap.objs.size=none:=by
    have z:H5 ce.locals=none:=I6.free;rw[cL] at z;exact z
   obtain⟨m,hn,_⟩:=I6.loc;have hn:s6.heap.Ns ce.locals m:=hn;rw[cL] at hn;exact hRR D s3.heap.objs.size s6 m H5 I7 qq hn (I3.fpOk (aw _) nC)
  ·have ti:=T.item (X.blk s3 H3 scope ce fp) rfl rfl rfl hc i [] s5 _ H5 (λ_ _=>False) I5 (stat I5 n5) st5 go;refine YC ti λr s6 ⟨u,hr,h6⟩=>?_;subst hr;refine YC h6 λ_ s7 ⟨x,H7,I7,r7,y7,st7,n7⟩=>?_;have I7':=I7.pinned (stat I7 n7) (T.obj _ _ st7);refine YC (pg _ s7 _ H7 x u _ I7' r7 (step x H7 y7)) λ_ s8 ⟨σ8,H8,I8,hw8,q8⟩=>?_;refine YC (pt _ s8 σ8 H8 _ I8 q8) λb s9 ⟨H9,I9,q9⟩=>?_;have fin:∀{s':ak} {H':Hp},Inv (X.blk s3 H3 scope ce fp) ([]++MZ fp s7.heap) σ8 H' s'->Nx H'->∃m,m<n/\∃i H',Inv (X.blk s3 H3 scope ce fp) [] (GP σ (own.map (·.2))) H' s'/\tn i s'.heap/\(∀b∈fp,H' b=none)/\W i m H':=λ{s' H'} I' nx=>by
    obtain⟨m',hm,w'⟩:=hNx H' nx;have pin':∀b∈fp,∀o,s7.heap.get? b=some o->s'.heap.get? b=some o/\H' b=none:=λb hb o e=>
     let z:=I'.pin (b,o) (dy _ (dy _ (IT hb e)))
     ⟨z.1,z.2.1⟩
    have hl:(GP σ (own.map (·.2))).length=σ8.length:=by rw[←hw8,HA]
    refine⟨m',hm,i+1,H',(I'.unpinned (Df:=[])).weak hl (λj v e=>?_),T.keep _ _ _ st7 λb hb o e=>(pin' b hb o e).1,λb hb=>?_,w'⟩
    ·rw[←hw8] at e;exact(KP e).1
    ·obtain⟨o,e,_⟩:=T.obj _ _ st7 b hb;exact(pin' b hb o e).2
   cases b with
   |false=>
    simp only[fx,if_false] at q9 ⊢;exact fin I9 q9
   |true=>
    simp only[if_true] at q9 ⊢;refine YC (pe _ s9 σ8 H9 _ I9 q9) λz s10 ⟨yv,H10,I10,r10,acc,hD10,hz10,nx⟩=>?_;exact jB (X:=X.blk s3 H3 scope ce fp) I10 hD10 hz10 r10 λs11 I11=>fin I11 nx
 exact codeAny_compStart_list loop (T.self X.A 0 _ _ _ st4 loop)
theorem nI {elt tg iter:Expr} {ifs:List Expr} {scope:jr} {own:List (Str×Nat)} {pos:Pos} {wi:TI} {g:TG} {tt:TT} {te:TE} (hc:X.calm=true) (hN:X.N.Nodup) (hi:PI X tg iter wi) (ok:BlkOk X.N X.env.scope scope own)
 (hg:∀(s:ak) (H:Hp) (C:ag) (cl:List (Str×ag)) (fp:List ag),PG (X.blk s H scope (ju scope cl C X.env) fp) tg g) (ht:∀(s:ak) (H:Hp) (C:ag) (cl:List (Str×ag)) (fp:List ag),PTs (X.blk s H scope (ju scope cl C X.env) fp) ifs tt)
 (he:∀(s:ak) (H:Hp) (C:ag) (cl:List (Str×ag)) (fp:List ag),PE (X.blk s H scope (ju scope cl C X.env) fp) elt te) (hs:∀x,ml iter X.env x=pure x:=by intro _;rfl):
 PE X (.ListComp elt [⟨tg,iter,ifs,0⟩] scope pos) (tLc wi g tt te (own.map (·.2))):=by
 intro Df s σ H Q I h;rw[eval_ListComp];refine WA hc hN I hi ok hg ht he hs h λD C s' m H' I' q hn f=>⟨m,hn,λh'' sb=>?_⟩
 obtain⟨f0,f1,f2,f3,f4,f5⟩:=f;exact⟨.ref D,H',I'.turned (t':=s'.toks) (λb o hb e=>(sb.2 b hb).trans e) f0 f1 f3 f4 f5,rfl,q⟩
theorem ZV {i:Nat} {y:Str} {py:Pos} {elt tg iter:Expr} {ifs:List Expr} {scope:jr} {own:List (Str×Nat)} {pos spos:Pos} {wi:TI} {g:TG} {tt:TT} {te:TE} (hc:X.calm=true) (hN:X.N.Nodup) (hy:X.N[i]? =some y) (hyl:X.env.scope.names.lookup y=some .local)
 (hsw:qm (.ListComp elt [⟨tg,iter,ifs,0⟩] scope pos) (some (.Name y py)) spos.line X.env=pure true) (hi:PI X tg iter wi) (ok:BlkOk X.N X.env.scope scope own)
 (hg:∀(s:ak) (H:Hp) (C:ag) (cl:List (Str×ag)) (fp:List ag),PG (X.blk s H scope (ju scope cl C X.env) fp) tg g) (ht:∀(s:ak) (H:Hp) (C:ag) (cl:List (Str×ag)) (fp:List ag),PTs (X.blk s H scope (ju scope cl C X.env) fp) ifs tt)
 (he:∀(s:ak) (H:Hp) (C:ag) (cl:List (Str×ag)) (fp:List ag),PE (X.blk s H scope (ju scope cl C X.env) fp) elt te) (hs:∀x,ml iter X.env x=pure x:=by intro _;rfl):
 PS X (.Assign [.Name y py] (.ListComp elt [⟨tg,iter,ifs,0⟩] scope pos) spos) (ZH (tLc wi g tt te (own.map (·.2))) (MY i)):=by
 intro Df s σ H D I h;rw[exec_Assign_Name_used _ _ _ _ hsw];refine ae (jx (ae ?_));show bi _ X.A (do let _←comprehension (.ListComp elt [⟨tg,iter,ifs,0⟩] scope pos) scope X.env (firstIterPos [⟨tg,iter,ifs,0⟩] pos) (newList []) false (eval iter X.env) (some (yB (.Name y py) X.env))) _ _ s;have h:tLc wi g tt te (own.map (·.2)) σ H (λx H1=>MY i x σ H1 D.nx):=h;refine ae (thn (WA (Qf:=λ_ s'=>SP X Df D .next s') hc hN I hi ok hg ht he hs h λL C s' m H' I' q hn f=>?_) λ_ s' hq=>ao (ao hq));show bi _ _ (yB (.Name y py) X.env (.ref L)) _ _ _;refine ye (OQ (v:=V.ref L) I' hN hy (.inl hyl) rfl (λs2 I2 ⟨a,sb,ha⟩=>?_) (.inr hyl));obtain⟨f0,f1,f2,f3,f4,f5⟩:=f;have haC:C≠a:=by
  rcases ha with z|z
  ·rw[z];exact f1
  ·exact λe=>f4 y a z e.symm
 refine⟨m,hn.sameBut sb haC,λh3 sb3=>?_⟩;exact⟨_,H',I2.turned (t':=s2.toks) (λb o hb e=>(sb3.2 b hb).trans e) f0 f1 f3 f4 f5,q⟩
end
section
variable {κ:Type} [DecidableEq κ]
def E2 (Dj:List (κ×V)) (k:κ):Option V:=(Dj.find? λkv=>decide (kv.1=k)).map (·.2)
def gH (Dj:List (κ×V)) (k:κ):List (κ×V):=Dj.filter λkv=>decide (kv.1≠k)
theorem GE {p:κ×V} {r:List (κ×V)} {k:κ} (e:p.1=k):E2 (p::r) k=some p.2:=by simp[E2,js,e]
theorem EN {p:κ×V} {r:List (κ×V)} {k:κ} (e:¬p.1=k):E2 (p::r) k=E2 r k:=by simp[E2,js,e]
theorem KQ (k j:κ) (y:V):∀Dj:List (κ×V),E2 Dj k=none->E2 (Dj++[(k,y)]) j=if j=k then some y else E2 Dj j
 |[],_=>by
  by_cases e:k=j
  ·rw[Dm e.symm];exact GE (p:=(k,y)) e
  ·rw[Dn (λz=>e z.symm)];exact EN (p:=(k,y)) e
 |p::r,hn=>by
  rw[qp];have hk:¬p.1=k:=λz=>by rw[GE z] at hn;cases hn
  rw[EN hk] at hn;have ih:=KQ k j y r hn;by_cases e:p.1=j
  ·rw[GE e,GE e,Dn (λz=>hk (e.trans z))]
  ·rw[EN e,EN e,ih]
theorem RelO.isSome_eq {o:Option V} {u:Option ah} (r:RelO o u):o.isSome=u.isSome:=by
 cases o with
 |none=>cases u with
  |none=>rfl
  |some _=>exact(show False from r).elim
 |some _=>cases u with
  |none=>exact(show False from r).elim
  |some _=>rfl
theorem RelO.getD {o:Option V} {u:Option ah} {d:V} {d':ah} (r:RelO o u) (rd:RelV d d'):RelV (o.getD d) (u.getD d'):=by
 cases o with
 |none=>cases u with
  |none=>exact rd
  |some _=>exact(show False from r).elim
 |some _=>cases u with
  |none=>exact(show False from r).elim
  |some _=>exact r
theorem KV.drop {Dj:List (κ×V)} {vs:List (κ×ah)} (r:KV Dj vs) (k:κ):KV (gH Dj k) (without vs k):=by
 unfold KV at r ⊢;unfold gH without;induction r with
 |nil=>exact .nil
 |@cons p q ps qs h t ih=>
  obtain⟨h1,h2⟩:=h;rw[yH,yH];by_cases e:p.1=k
  ·have a:¬decide (p.1≠k)=true:=by simp[e]
   have b:¬decide (q.1≠k)=true:=by simp[h1.symm.trans e]
   rw[Dn a,Dn b];exact ih
  ·have e':¬q.1=k:=λz=>e (h1.trans z);have a:decide (p.1≠k)=true:=by simp[e]
   have b:decide (q.1≠k)=true:=by simp[e']
   rw[Dm a,Dm b];exact .cons ⟨h1,h2⟩ ih
theorem KV.keys {Dj:List (κ×V)} {vs:List (κ×ah)} (r:KV Dj vs):Dj.map (·.1)=vs.map (·.1):=by
 unfold KV at r;induction r with
 |nil=>rfl
 |cons h t ih=>rw[dc,dc,ih,h.1]
theorem KV.length {Dj:List (κ×V)} {vs:List (κ×ah)} (r:KV Dj vs):Dj.length=vs.length:=cn r
end
theorem nJ {P:bb} {w:cb} {k:Key} {u:ah} (r:RelV (kV k) u):(DH P w).is k u=true:=by
 cases k with
 |inl i=>obtain⟨t,e⟩:=(show∃t,u=vY i t from r);subst e;exact RK P w i t
 |inr x=>obtain⟨t,e⟩:=(show∃t,u=yy x t from r);subst e;exact RL P w x t
theorem O1 {P:bb} {w:cb}:∀{ks:List Key} {us:List ah},Vals (ks.map kV) us->ItemsAre (DH P w) ks us
 |[],_,r=>by rw[yk] at r;cases r;exact .nil
 |k::ks,_,r=>by
  rw[dc] at r;cases r with
  |cons h t=>exact .cons (nJ h) (O1 t)
abbrev KT (H:Hp):List (List Key×V)->List (List Key×ag×ah)->Prop:=cg λp q=>p.1=q.1/\H q.2.1=some (.tup (p.1.map kV))/\RelV p.2 q.2.2
theorem KT.keeps {H H':Hp} {Dj:List (List Key×V)} {xs:List (List Key×ag×ah)} (r:KT H Dj xs) (ht:∀b ys,H b=some (.tup ys)->H' b=some (.tup ys)):KT H' Dj xs:=
 cg.mapP r λ_ _ z=>⟨z.1,ht _ _ z.2.1,z.2.2⟩
section
variable {X:Cx} {Df:List (ag×Obj)} {σ:St} {H:Hp} {s:ak} {a:ag} {y v:V} {u r:ah} {o:Option V} {A:dj} {E:ah->ak->Prop}
theorem Inv.big (I:Inv X Df σ H s):sd<s.heap.objs.size:=by
 have h:fh<s.heap.objs.size:=(I.mod.glob.keeps I.bk).lt;exact ot (by decide) h
theorem d9 {h':cr} {t':Nat} {ob:HO} (I:Inv X Df σ H s) (mu:Mut (H a)) (hs:ql a s.heap h') (he:∃q,h'.get? a=some q) (new:ObjOk X.prog X.w (upd H a ob) h' a ob):
 Inv X Df σ (upd H a ob) { s with heap:=h',toks:=t' }:=
 I.write (x:=a) (e:=a) mu (.inl rfl) (λb q hb z=>(hs.2 b hb).trans z) he new
end
def nL (i:Expr):Prop:=∀ov iv,wX i false ov iv=operate [ov,iv] (wo ov iv)
theorem eD {prog:bb} {w:cb} {A:dj} {E:ah->ak->Prop} {s:ak} {env:Env} {value slice:Expr} {pos:Pos} {T id:String} {Q:ah->ak->Prop}
 (hl:wp (.type T) "__getitem__"=pure (some (.builtin id))) (hs:nL slice)
 (h:bi (bo prog w) A (eval value env) (λo s₁=>bi (bo prog w) A (eval slice env) (λi s₂=>s₂.TypeIs o T/\bi (bo prog w) A (wo o i) Q E s₂) E s₁) E s):
 bi (bo prog w) A (eval (.Subscript value slice pos) env) Q E s:=by
 refine zE (ig h (λo s₁ h₁=>ig h₁ (λi s₂ h₂=>?_) λ_ _ x=>x) λ_ _ x=>x);obtain⟨hT,h₂⟩:=h₂;unfold xO;refine ae ?_;rw[getitemInPython_of_ne hT.not_modules];refine ae (wB hT hl ?_);have fin:bi (bo prog w) A (wX slice false o i) (λr s₃=>bi (bo prog w) A (letTemporaryGo value o r >>= λ_=>pure r) Q E s₃) E s₂:=by
  rw[hs o i];exact wpAny_operating (ig h₂ (λr s₃ h₃=>ae (wpAny_letTemporaryGo (ao h₃))) λ_ _ x=>x)
 first
  |exact ao (ae fin)
  |exact ae (ao (ae fin))
  |exact ae fin
structure M1 (X:Cx) (o:Expr) (m:Str) (apos:Pos) (e:Expr) (cpos:Pos):Prop where
 base:jy o m X.env (eval o X.env)=eval o X.env
 few:((ie cpos (be [e] X.env)).all (λx=>!x.1)&&(kf cpos (gr [] X.env)).all (λx=>x.1.isSome)
  &&decide (([e]:List Expr).length+([]:List wm).length+(if([]:List wm).isEmpty then 0 else 1)<30))=true
 line:(apos.endLine==cpos.line)=true
 trees:ie cpos (be [e] X.env)=[(false,eval e X.env)]
structure M2 (X:Cx) (o:Expr) (m:Str) (apos:Pos) (e f:Expr) (cpos:Pos):Prop where
 base:jy o m X.env (eval o X.env)=eval o X.env
 few:((ie cpos (be [e,f] X.env)).all (λx=>!x.1)&&(kf cpos (gr [] X.env)).all (λx=>x.1.isSome)
  &&decide (([e,f]:List Expr).length+([]:List wm).length+(if([]:List wm).isEmpty then 0 else 1)<30))=true
 line:(apos.endLine==cpos.line)=true
 trees:ie cpos (be [e,f] X.env)=[(false,eval e X.env),(false,eval f X.env)]
theorem M9:jn "reversed"=some (.type "reversed"):=by decide +kernel
section
variable {X:Cx} {Df:List (ag×Obj)} {σ:St} {H:Hp} {s:ak} {h':cr}
theorem Inv.turnedL {t':Nat} {ch:List ag} (I:Inv X Df σ H s) (k:∀b o,b∉ch->s.heap.get? b=some o->h'.get? b=some o) (hf:∀b∈ch,KG X Df H b):Inv X Df σ H { s with heap:=h',toks:=t' }:=by
 have nit:∀b u,H b=some u->b∉ch:=λb u e z=>by
  have q:=(hf b z).1;rw[q] at e;cases e
 refine I.step (g':=s.gens) (d':=s.drawn) (ch:=ch) (λb hb=>⟨(hf b hb).2.2.2.1,(hf b hb).2.1,(hf b hb).2.2.2.2.1,(hf b hb).2.2.2.2.2⟩) (λb o _ _ hc e _=>k b o hc e) (λb o _ _ hc e _=>⟨o.slots,k b o hc e⟩)
  (λ_ _ _ _ n=>n) (λb o hc e=>⟨o,k b o hc e⟩) (λ_ _ e=>e) (λ_ _ _ e=>e) (λb ps e=>⟨#[],by rw[e];simp⟩) (λm hm=>?_) (λb u e=>?_) I.bare
 ·obtain⟨o,es,ep,ho,r⟩:=hm;exact⟨o,es,ep,k _ o (λz=>(hf _ z).2.1 rfl) ho,r⟩
 ·refine(I.hok b u e).stay (λc v hc q=>k c v ?_ q) (λ_ q=>q) λ_ _ q=>q;rcases hc with z|z
  ·rw[z];exact nit b u e
  ·exact nit c _ z
theorem Inv.turnedNew {t':Nat} {ch:List ag} {T:ag} {ob:HO} (I:Inv X Df σ H s) (k:∀b o,b∉ch->s.heap.get? b=some o->h'.get? b=some o) (hf:∀b∈ch,KG X Df H b) (hT:s.heap.objs.size<=T)
 (new:ObjOk X.prog X.w (upd H T ob) h' T ob):Inv X Df σ (upd H T ob) { s with heap:=h',toks:=t' }:=by
 have hn:H T=none:=I.hok.fresh hT;have nit:∀b u,H b=some u->b∉ch:=λb u e z=>by
  have q:=(hf b z).1;rw[q] at e;cases e
 refine I.step (g':=s.gens) (d':=s.drawn) (ch:=ch) (λb hb=>⟨(hf b hb).2.2.2.1,(hf b hb).2.1,(hf b hb).2.2.2.2.1,(hf b hb).2.2.2.2.2⟩) (λb o _ _ hc e _=>k b o hc e) (λb o _ _ hc e _=>⟨o.slots,k b o hc e⟩)
  (λb o _ e n=>?_) (λb o hc e=>⟨o,k b o hc e⟩) (λb xs e=>?_) (λb o u e=>?_) (λb ps e=>⟨#[],?_⟩) (λm hm=>?_) (λb u e=>?_) I.bare
 ·rw[AE (cp (bv (bg e) hT))];exact n
 ·rw[AE (AG e hn)];exact e
 ·rw[AE (AG e hn)];exact e
 ·rw[AE (AG e hn),e];simp
 ·obtain⟨o,es,ep,ho,r⟩:=hm;exact⟨o,es,ep,k _ o (λz=>(hf _ z).2.1 rfl) ho,r⟩
 ·by_cases hb:b=T
  ·subst hb;rw[upd_same] at e;cases e;exact new
  ·rw[AE hb] at e;refine(I.hok b u e).stay (λc v hc q=>k c v ?_ q) (λc q=>by rw[AE (AG q hn)];exact q) λc xs q=>by rw[AE (AG q hn)];exact q
   rcases hc with z|z
   ·rw[z];exact nit b u e
   ·exact nit c _ z
end
section
variable {X:Cx}
theorem ZW {tg:Expr} {Df:List (ag×Obj)} {σ:St} {H:Hp} {s:ak} {R:It->Hp->Prop} {J:It} {tn:Nat->cr->Prop} {tk:Nat} (I:Inv X Df σ H s) (o:Obj)
 (T:Turn X.prog X.w X.K tg J [s.heap.objs.size] s.heap.objs.size tn) (st:tn 0 (s.heap.push o)) (q:R J H):PIE X Df σ tg R (.ref s.heap.objs.size) { s with heap:=s.heap.push o,toks:=tk }:=by
 refine⟨s.heap.objs.size,[s.heap.objs.size],tn,J,H,rfl,I.kept λb ob e=>am _ e,T,st,λb hb=>?_,q⟩;have e:b=s.heap.objs.size:=by simpa using hb
 subst e;exact I.fpOk (aw _) (I.hok.fresh (aw _))
end
def RgC (i j c:Int) (n:Nat):Prop:=c≠0/\c.natAbs<1073741824/\Ck i j c=true/\v0 i j c=n
def Its (x:Str):It:=⟨λi _=>i<x.cps.size,λi H v H'=>H'=H/\∃c,x.cps[i]? =some c/\v= .str ⟨#[c]⟩,λi _=>x.cps.size<=i⟩
theorem RX {P:bb} {w:cb} {K:aa} {tg:Expr} (it:ag) (x:Str) (t:Tok) (ty:String) (hty:ty="str_ascii_iterator"\/ty="str_iterator"):
 Turn P w K tg (Its x) [it] it (λi h=>h.IsStrIter it ty x t i) where
 mem:=by simp
 obj:=λi h st b hb=>by
  have e:b=it:=by simpa using hb
  subst e;obtain⟨o,e,c,d⟩:=st;exact⟨o,e,λv z=>by rw[d] at z;cases z⟩
 keep:=λi h h' st k=>let ⟨o,ho,r⟩:=st;⟨o,k it (by simp) o ho,r⟩
 item:=by
  intro X hP hw hK hc i Df s σ H E I hf st hg;subst hP hw hK;obtain⟨f0,f1,f2,f3,f4,f5⟩:=hf it (by simp);have W:Walks X.prog X.w X.A it [it] [it] x.cps.size (SignAt x) (λi h=>h.IsStrIter it ty x t i):=by
   rcases hty with e|e
   ·rw[e];exact Walks.strAscii (I.ok.hd hc) it x t
   ·rw[e];exact Walks.strWide (I.ok.hd hc) it x t
  have hno:["enumerate","zip","dict_itemiterator","dict_reverseitemiterator","odict_iterator","itertools.zip_longest","itertools.pairwise"].contains ty=false:=by
   rcases hty with e|e
   ·rw[e];decide
   ·rw[e];decide
  refine W.item i s _ _ hg st λv h' tk hv st' kk=>?_;obtain⟨c,u,hcx,rfl⟩:=hv;have I1:Inv X Df σ H { s with heap:=h',toks:=tk }:=I.turned (λb o hb e=>kk b o (by simpa using hb) e) f0 f1 f3 f4 f5;obtain⟨oi,e,cc,dd⟩:=id st';exact⟨_,rfl,V1 (s:={ s with heap:=h',toks:=tk }) e cc dd hno ⟨.str ⟨#[c]⟩,H,I1,⟨u,rfl⟩,⟨rfl,c,hcx,rfl⟩,st',λb hb=>(hf b hb).1⟩⟩
 done:=by
  intro X hP hw hK hc i Df s σ H E I hf st hg;subst hP hw hK;obtain⟨f0,f1,f2,f3,f4,f5⟩:=hf it (by simp);have hx:x.cps[i]? =none:=ue hg;rcases hty with e|e
  ·rw[e] at st;exact wpAny_pyNext_ascii_end (I.ok.hd hc) st hx λh' eb=>⟨rfl,I.turned (t':=s.toks) (λb o hb e=>eb b o hb e) f0 f1 f3 f4 f5⟩
  ·rw[e] at st;exact wpAny_pyNext_wide_end (I.ok.hd hc) st hx λh' eb=>⟨rfl,I.turned (t':=s.toks) (λb o hb e=>eb b o hb e) f0 f1 f3 f4 f5⟩
 self:=λA i s Q E st h=>by
  rcases hty with e|e
  ·rw[e] at st;exact wpAny_pyIter_striter_ascii st h
  ·rw[e] at st;exact wpAny_pyIter_striter_wide st h
def tU (te:TE):TI:=λσ H R=>te σ H λv H1=>∃x,v= .str x/\R (Its x) H1
theorem jC {X:Cx} {tg e:Expr} {te:TE} (he:PE X e te):PI X tg e (tU te):=by
 intro Df s σ H R I h;refine thn (he Df s σ H _ I h) λv s1 ⟨y,H1,I1,r1,x,ex,q⟩=>?_;subst ex;obtain⟨t,rfl⟩:=r1;cases ha:x.cps.all (·<128)
 ·exact wpAny_pyIter_wide ha (ZW (tk:=s1.toks) I1 _ (RX _ x t "str_iterator" (.inr rfl)) ⟨_,bj _ rfl,rfl,rfl⟩ q)
 ·exact wpAny_pyIter_ascii ha (ZW (tk:=s1.toks) I1 _ (RX _ x t "str_ascii_iterator" (.inl rfl)) ⟨_,bj _ rfl,rfl,rfl⟩ q)
def Ite (K:aa) (a:ag):It:=
 ⟨λi H=>Ex2 λ(xs:List V) (x:V)=>SqL K H a xs/\xs[i]? =some x,λi H v H'=>Ex2 λT x=>v= .ref T/\H T=none/\H'=upd H T (.tup [.int (i:Nat),x])/\∀xs,SqL K H a xs->xs[i]? =some x,λi H=>∃xs:List V,SqL K H a xs/\xs.length<=i⟩
theorem YD {P:bb} {w:cb} {K:aa} {elts:List Expr} {kk:Nat} {tpos:Pos} (a e it:ag):
 Turn P w K (.Tuple elts kk tpos) (Ite K a) [e,it] e (λi h=>(∃old,x5 h e it ((i:Nat):Int) old)/\h.IsListIter it a i/\e≠it) where
 mem:=by simp
 obj:=λi h st b hb=>by
  obtain⟨⟨old,he⟩,⟨o,ho,hc,hd⟩,_⟩:=st;have e':b=e\/b=it:=by simpa using hb
  rcases e' with z|z
  ·rw[z];exact⟨_,he,λv q=>nomatch q⟩
  ·rw[z];exact⟨o,ho,λv q=>by rw[hd] at q;cases q⟩
 keep:=λi h h' st k=>let ⟨⟨old,he⟩,hi,hne⟩:=st;⟨⟨old,k e (by simp) _ he⟩,hi.at λo q=>k it (by simp) o q,hne⟩
 item:=by
  intro X hP hw hK hc i Df s σ H E I hf st hg;subst hP hw hK;obtain⟨⟨old,he⟩,hit,hne⟩:=st;obtain⟨xs,x,hq,hx⟩:=hg;obtain⟨Di,rv,p,hz⟩:=I.list hq;obtain⟨u,hu,ru⟩:=rv.get hx;have hel:e<s.heap.objs.size:=bg he;have hil:it<s.heap.objs.size:=by obtain⟨_,q,_⟩:=hit;exact bg q
  refine wpAny_pyNext_enum_item he hit p.isList (x:=u) (by simpa using hu) hne λh' ho hit' hT hsz hk=>?_;refine⟨_,rfl,vq (s:={ s with heap:=h',toks:=s.toks+1 }) ho λh'' he' sb=>?_⟩;have hT2:h''.get? s.heap.objs.size=some { cls:=.type "tuple",data:=.seq #[.int i s.toks,u] }:=(sb.2 _ (om hel)).trans hT;have new:ObjOk X.prog X.w (upd H s.heap.objs.size (.tup [.int (i:Nat),x])) h'' s.heap.objs.size (.tup [.int (i:Nat),x]):=
   ⟨by show 2<=sizeLine;decide,[.int i s.toks,u],.cons ⟨_,rfl⟩ (.cons ru .nil),⟨_,hT2,rfl,_,rfl⟩⟩
  have I1:Inv X Df σ (upd H s.heap.objs.size (.tup [.int (i:Nat),x])) { s with heap:=h'',toks:=s.toks+1 }:=
   I.turnedNew (ch:=[e,it]) (λb ob hb q=>(sb.2 b (λz=>hb (by simp[z]))).trans (hk b ob (λz=>hb (by simp[z])) (λz=>hb (by simp[z])) q)) hf (aw _) new
  refine⟨.ref s.heap.objs.size,_,I1,rfl,⟨_,x,rfl,I.hok.fresh (aw _),rfl,λys hy=>by rw[I.list_inj hy hq];exact hx⟩,⟨⟨u,?_⟩,hit'.at λo q=>(sb.2 it (cw hne)).trans q,hne⟩,λb hb=>?_⟩
  ·have e1:((i+1:Nat):Int)=(i:Int)+1:=by omega
   rw[e1];exact he'
  ·have hb':b<s.heap.objs.size:=by
    have e':b=e\/b=it:=by simpa using hb
    rcases e' with z|z
    ·rw[z];exact hel
    ·rw[z];exact hil
   rw[AE (cp hb')];exact(hf b hb).1
 done:=by
  intro X hP hw hK hc i Df s σ H E I hf st hg;subst hP hw hK;obtain⟨⟨old,he⟩,hit,hne⟩:=st;obtain⟨xs,hq,hx⟩:=hg;obtain⟨Di,rv,p,hz⟩:=I.list hq;obtain⟨f0,f1,f2,f3,f4,f5⟩:=hf it (by simp);have hl:=rv.length;exact wpAny_pyNext_enum_end (I.ok.hd hc) he hit p.isList (by simp;omega) λh' eb=>⟨rfl,I.turned (t':=s.toks) (λb o hb q=>eb b o hb q) f0 f1 f3 f4 f5⟩
 self:=λA i s Q E st h=>let ⟨⟨_,he⟩,_⟩:=st;mn he h
def nM (K:aa) (ta:TA):TI:=λσ H R=>ta σ H λvs H1=>Ex2 λa xs=>vs=[.ref a]/\SqL K H1 a xs/\R (Ite K a) H1
theorem MJ {X:Cx} {e:Expr} {ta:TA} {p pos tpos:Pos} {elts:List Expr} {kk:Nat} (hg:Gl X "enumerate") (hm:X.mg "enumerate"=none) (ha:PA X [e] ta) (hs:be [e] X.env=[(false,eval e X.env)]:=by rfl):
 PI X (.Tuple elts kk tpos) (.Call (.Name "enumerate" p) [e] [] pos) (nM X.K ta):=by
 intro Df s σ H R I h;refine zw (D9 I hg hm w6 (df (thn (ha pos Df s σ H _ I h) λus s1 ⟨vs,H1,I1,r1,q1⟩=>?_) hs rfl));obtain⟨a,xs,ex,hq,q⟩:=q1;subst ex;cases r1 with
 |cons r rr=>
  cases rr;cases r;obtain⟨Di,rv,p',hz⟩:=I1.list hq;refine call_enumerate_list p'.isList λh' he hit hsz hk=>mn he ?_;have I2:Inv X Df σ H1 { s1 with heap:=h' }:=I1.kept (t':=s1.toks) hk;refine⟨s1.heap.objs.size+1,[s1.heap.objs.size+1,s1.heap.objs.size],_,_,H1,rfl,I2,YD a (s1.heap.objs.size+1) s1.heap.objs.size,⟨⟨.none,he⟩,hit,v7 _⟩,λb hb=>?_,q⟩;have e':b=s1.heap.objs.size+1\/b=s1.heap.objs.size:=by simpa using hb
  have hle:s1.heap.objs.size<=b:=by
   rcases e' with z|z
   ·rw[z];exact lh _ _
   ·rw[z];exact aw _
  exact I1.fpOk hle (I1.hok.fresh hle)
theorem YE:jn "zip"=some (.type "zip"):=by decide +kernel
def Itz (K:aa) (a b:ag):It:=
 ⟨λi H=>Ex4 λ(xs ys:List V) (x y:V)=>SqL K H a xs/\SqL K H b ys/\xs[i]? =some x/\ys[i]? =some y,
  λi H v H'=>Ex3 λT x y=>v= .ref T/\H T=none/\H'=upd H T (.tup [x,y])/\(∀xs,SqL K H a xs->xs[i]? =some x)/\∀ys,SqL K H b ys->ys[i]? =some y,
  λi H=>Ex2 λxs ys:List V=>SqL K H a xs/\SqL K H b ys/\(xs.length<=i\/ys.length<=i)⟩
theorem ZX {P:bb} {w:cb} {K:aa} {elts:List Expr} {kk:Nat} {tpos:Pos} {a b z TI TO i1 i2:ag} (D:ZipApart z TI TO i1 i2 a b):
 Turn P w K (.Tuple elts kk tpos) (Itz K a b) [z,TI,TO,i1,i2] z (λi h=>IsZip h z TI TO .none/\IsPair h TI (.ref i1) (.ref i2)/\(∃x y,IsPair h TO x y)/\h.IsListIter i1 a i/\h.IsListIter i2 b i) where
 mem:=by simp
 obj:=λi h st c hc=>by
  obtain⟨hz,hTI,⟨x,y,hTO⟩,⟨o1,e1,_,d1⟩,⟨o2,e2,_,d2⟩⟩:=st;have e':c=z\/c=TI\/c=TO\/c=i1\/c=i2:=by simpa using hc
  rcases e' with q|q|q|q|q
  ·rw[q];exact⟨_,hz,λv q=>nomatch q⟩
  ·rw[q];exact⟨_,hTI,λv q=>nomatch q⟩
  ·rw[q];exact⟨_,hTO,λv q=>nomatch q⟩
  ·rw[q];exact⟨o1,e1,λv q=>by rw[d1] at q;cases q⟩
  ·rw[q];exact⟨o2,e2,λv q=>by rw[d2] at q;cases q⟩
 keep:=λi h h' st k=>by
  obtain⟨hz,hTI,⟨x,y,hTO⟩,h1,h2⟩:=st;exact⟨k z (by simp) _ hz,k TI (by simp) _ hTI,⟨x,y,k TO (by simp) _ hTO⟩,h1.at λo q=>k i1 (by simp) o q,h2.at λo q=>k i2 (by simp) o q⟩
 item:=by
  intro X hP hw hK hc i Df s σ H E I hf st hg;subst hP hw hK;obtain⟨hz,hTI,⟨x0,y0,hTO⟩,h1,h2⟩:=st;obtain⟨xs,ys,x,y,hqx,hqy,hx,hy⟩:=hg;obtain⟨Di,rv,p,_⟩:=I.list hqx;obtain⟨its2,rv2,p2,_⟩:=I.list hqy;obtain⟨u,hu,ru⟩:=rv.get hx;obtain⟨u2,hu2,ru2⟩:=rv2.get hy;have hzl:z<s.heap.objs.size:=bg hz;refine wpAny_pyNext_zip_item D hz hTI hTO h1 h2 p.isList p2.isList (x:=u) (y:=u2) (by simpa using hu) (by simpa using hu2) λh' z' TO' h1' h2' hT hsz hk=>?_;refine⟨_,rfl,wpAny_letOwnedTupleGo_zip (s:={ s with heap:=h' }) z' λh'' z'' sb=>?_⟩;have hT2:h''.get? s.heap.objs.size=some { cls:=.type "tuple",data:=.seq #[u,u2] }:=(sb.2 _ (om hzl)).trans hT;have new:ObjOk X.prog X.w (upd H s.heap.objs.size (.tup [x,y])) h'' s.heap.objs.size (.tup [x,y]):=
   ⟨by show 2<=sizeLine;decide,[u,u2],.cons ru (.cons ru2 .nil),⟨_,hT2,rfl,_,rfl⟩⟩
  have I1:Inv X Df σ (upd H s.heap.objs.size (.tup [x,y])) { s with heap:=h'' }:=
   I.turnedNew (t':=s.toks) (ch:=[z,TI,TO,i1,i2]) (λc o hb q=>(sb.2 c (λq'=>hb (by simp[q']))).trans (hk c o (λq'=>hb (by simp[q'])) (λq'=>hb (by simp[q'])) (λq'=>hb (by simp[q'])) (λq'=>hb (by simp[q'])) q)) hf (aw _) new
  refine⟨.ref s.heap.objs.size,_,I1,rfl,⟨_,x,y,rfl,I.hok.fresh (aw _),rfl,λl hl=>by rw[I.list_inj hl hqx];exact hx,λl hl=>by rw[I.list_inj hl hqy];exact hy⟩,⟨z'',?_,⟨u,u2,?_⟩,?_,?_⟩,λc hcm=>?_⟩
  ·exact(sb.2 _ D.TIz).trans (hk _ _ D.TIz D.TITO D.TIi1 D.TIi2 hTI)
  ·exact(sb.2 _ D.TOz).trans TO'
  ·exact h1'.at λo q=>(sb.2 _ D.i1z).trans q
  ·exact h2'.at λo q=>(sb.2 _ D.i2z).trans q
  ·have Dl:c<s.heap.objs.size:=by
    have e':c=z\/c=TI\/c=TO\/c=i1\/c=i2:=by simpa using hcm
    rcases e' with q|q|q|q|q
    ·rw[q];exact hzl
    ·rw[q];exact bg hTI
    ·rw[q];exact bg hTO
    ·rw[q];obtain⟨_,e1,_⟩:=h1;exact bg e1
    ·rw[q];obtain⟨_,e2,_⟩:=h2;exact bg e2
   rw[AE (cp Dl)];exact(hf c hcm).1
 done:=by
  intro X hP hw hK hc i Df s σ H E I hf st hg;subst hP hw hK;obtain⟨hz,hTI,⟨x0,y0,hTO⟩,h1,h2⟩:=st;obtain⟨xs,ys,hqx,hqy,hend⟩:=hg;obtain⟨Di,rv,p,_⟩:=I.list hqx;obtain⟨its2,rv2,p2,_⟩:=I.list hqy;have l1:=rv.length;have l2:=rv2.length;have he:Di.toArray[i]? =none\/its2.toArray[i]? =none:=by
   rcases hend with q|q
   ·exact .inl (by simp;omega)
   ·exact .inr (by simp;omega)
  exact wpAny_pyNext_zip_end (I.ok.hd hc) D hz hTI hTO h1 h2 p.isList p2.isList he λh' hk=>⟨rfl,I.turnedL (t':=s.toks) (ch:=[z,TI,TO,i1,i2]) (λc o hb q=>
   hk c o (λq'=>hb (by simp[q'])) (λq'=>hb (by simp[q'])) (λq'=>hb (by simp[q'])) (λq'=>hb (by simp[q'])) q) hf⟩
 self:=λA i s Q E st h=>yI st.1 h
def tV (K:aa) (ta:TA):TI:=λσ H R=>ta σ H λvs H1=>Ex4 λa b xs ys=>vs=[.ref a,.ref b]/\SqL K H1 a xs/\SqL K H1 b ys/\R (Itz K a b) H1
theorem jD {X:Cx} {e e2:Expr} {ta:TA} {p pos tpos:Pos} {elts:List Expr} {kk:Nat} (hg:Gl X "zip") (hm:X.mg "zip"=none) (ha:PA X [e,e2] ta)
 (hs:be [e,e2] X.env=(false,eval e X.env)::be [e2] X.env:=by rfl) (hpl:(ie pos (be [e2] X.env)).any (·.1)=false:=by rfl):
 PI X (.Tuple elts kk tpos) (.Call (.Name "zip" p) [e,e2] [] pos) (tV X.K ta):=by
 intro Df s σ H R I h;refine zw (D9 I hg hm YE (df (thn (ha pos Df s σ H _ I h) λus s1 ⟨vs,H1,I1,r1,q1⟩=>?_) hs hpl));obtain⟨a,b,xs,ys,ex,hqx,hqy,q⟩:=q1;subst ex;cases r1 with
 |cons r rr=>
  cases rr with
  |cons r' rr=>
   cases rr;cases r;cases r';obtain⟨Di,rv,p1,_⟩:=I1.list hqx;obtain⟨its2,rv2,p2,_⟩:=I1.list hqy;have la:a<s1.heap.objs.size:=p1.lt;have lb:b<s1.heap.objs.size:=p2.lt;refine call_zip_2 p1.isList p2.isList λh' hz hTI hTO h1 h2 hsz hk=>yI hz ?_;have I2:Inv X Df σ H1 { s1 with heap:=h' }:=I1.kept (t':=s1.toks) hk;refine⟨s1.heap.objs.size+4,[s1.heap.objs.size+4,s1.heap.objs.size+2,s1.heap.objs.size+3,s1.heap.objs.size,s1.heap.objs.size+1],_,_,H1,rfl,I2,ZX (PySem.W.ktu_apart s1.heap.objs.size a b la lb),⟨hz,hTI,⟨_,_,hTO⟩,h1,h2⟩,λc hcm=>?_,q⟩;have e':c=s1.heap.objs.size+4\/c=s1.heap.objs.size+2\/c=s1.heap.objs.size+3\/c=s1.heap.objs.size\/c=s1.heap.objs.size+1:=by simpa using hcm
   have hle:s1.heap.objs.size<=c:=by
    rcases e' with z|z|z|z|z
    ·rw[z];exact lh _ _
    ·rw[z];exact lh _ _
    ·rw[z];exact lh _ _
    ·rw[z];exact aw _
    ·rw[z];exact lh _ _
   exact I1.fpOk hle (I1.hok.fresh hle)
end L2
section
end
section
namespace TL
open PySem PySem.Builtin PySem.Builtin.Str PySem.StrLaws
abbrev tl (x:Str):List Nat:=x.cps.toList
theorem jE (x:Str):x.length=(tl x).length:=by simp[tl,Cr]
def pre (S l:List Nat):Bool:=l.take S.length==S
def par (S:List Nat):List Nat->List Nat->Option (List Nat×List Nat)
 |_,[]=>none
 |acc,c::r=>if pre S (c::r)=true then some (acc,(c::r).drop S.length) else par S (acc++[c]) r
theorem MK {S:List Nat} (hS:S≠[]):pre S []=false:=by
 cases S with
 |nil=>exact absurd rfl hS
 |cons s S=>rfl
theorem ZY {y:Str} (hy:tl y≠[]):1<=y.length:=by
 have e2:0<(tl y).length:=xB.mpr hy;rw[jE y];exact e2
end TL
end
namespace L2
open PySem PySem.Spec PyProof.Rows
def BJ (s:dm) (j:Nat):dm:=match s with
 | .ClassDef _ _ _ body _ _ _ _ _ _ _=>body.getD j (.Pass ⟨0,0,0,0⟩)
 |_=>.Pass ⟨0,0,0,0⟩
def DJ (s:dm):vc:=match s with
 | .FunctionDef _ a _ _ _ _ _ _ _ _=>a
 |_=>{ posonlyargs:=[],args:=[],vararg:=none,kwonlyargs:=[],kw_defaults:=[],kwarg:=none,defaults:=[] }
def BX (s:dm):List dm:=match s with
 | .FunctionDef _ _ b _ _ _ _ _ _ _=>b
 |_=>[]
def AH (s:dm):jr:=match s with
 | .FunctionDef _ _ _ _ _ _ sc _ _ _=>sc
 |_=>{ kind:=.function,names:=[],isGenerator:=false,isCoroutine:=false }
structure Fun (K:aa) (x qual:Str) (st:dm) (f:ag) (fd:fv):Prop where
 ex:∃(oc:ah) (od:Option ag) (kV doc pm:ah) (an:Option ag) (Dk ct:ah) (osl:Array (Option ah)),
  fd=ik x qual (DJ st) (BX st) (AH st) .none kV doc pm an Dk ct/\K.lookup f=some ⟨oc,od,.func fd,osl⟩/\jg K Dk qual=true
 kp:fi K (.ref f)=true
section
variable {P:bb} {w:cb} {K:aa} {mg:Str->Option ah} {base:cr}
theorem Fun.binds {x qual:Str} {st:dm} {f:ag} {fd:fv} {ps:List Str} (F:Fun K x qual st f fd)
 (h:∀(kV doc pm:ah) (an:Option ag) (Dk ct:ah) (us:List ah),us.length=ps.length->wW (ik x qual (DJ st) (BX st) (AH st) .none kV doc pm an Dk ct) ⟨us,[]⟩=pure (ps.zip us)):Binds K fd ps []:=by
 obtain⟨oc,od,kV,doc,pm,an,Dk,ct,osl,rfl,lk,hcd⟩:=F.ex;exact .all (h kV doc pm an Dk ct)
theorem NB {x qual:Str} {st:dm} {f:ag} {oc:ah} {od an:Option ag} {osl:Array (Option ah)} {kV doc pm Dk ct:ah} (l:K.lookup f=some ⟨oc,od,.func (ik x qual (DJ st) (BX st) (AH st) .none kV doc pm an Dk ct),osl⟩)
 (c:jg K Dk qual=true) (k:fi K (.ref f)=true):Fun K x qual st f (ik x qual (DJ st) (BX st) (AH st) .none kV doc pm an Dk ct):=⟨⟨oc,od,kV,doc,pm,an,Dk,ct,osl,rfl,l,c⟩,k⟩
end
theorem NC {A:dj} {k:Nat} (hr:Room k A):A.units+1<wV:=vt (Nat.add_le_add_left (by decide:1<=64) _) hr.units
section
variable {X:Cx}
theorem pv (i:Nat) {x:Str} {pos:Pos} (hN:X.N[i]? =some x:=by rfl) (hv:Vis X.env.scope x:=by first|exact vT rfl|exact Bo (vT rfl)|exact Bo (Bo rfl)) (hd:(x==("__debug__":Str))=false:=by decide)
 (hcd:(x==("__classdict__":Str))=false:=by decide):PE X (.Name x pos) (BP i):=iO hN hv hd hcd
end
theorem BH {A B:Prop} (h:B):if false=true then A else B:=by
 rw[Dn bw];exact h
theorem BS {A B:Prop} (h:A):if true=true then A else B:=by
 rw[Dm rfl];exact h
theorem B4 {c A B:Prop} [Decidable c] (h1:c->A) (h2:¬c->B):if c then A else B:=by
 by_cases h:c
 ·rw[Dm h];exact h1 h
 ·rw[Dn h];exact h2 h
theorem gI {c A B:Prop} [Decidable c] (hc:c) (h:B):if(!decide c)=true then A else B:=by
 rw[decide_eq_true hc];exact BH h
def Same (H H':Hp):Prop:=∀b o,H b=some o->H' b=some o
theorem Same.refl (H:Hp):Same H H:=λ_ _ h=>h
theorem Same.trans {H H1 H2:Hp} (a:Same H H1) (b:Same H1 H2):Same H H2:=λc o h=>b c o (a c o h)
theorem Same.free {H H':Hp} (e:Same H H') {l:ag} (h:H' l=w8):H l=w8:=by
 cases q:H l with
 |none=>rfl
 |some o=>
  rw[e l o q] at h;cases h
theorem Same.seq {K:aa} {H H':Hp} {a:ag} {xs:List V} (e:Same H H') (h:SqL K H a xs):SqL K H' a xs:=by
 rcases h with(h|⟨o,h⟩)|h
 ·exact .inl (.inl (e _ _ h))
 ·exact .inl (.inr ⟨o,e _ _ h⟩)
 ·exact .inr h
theorem RY {xs:List V} {z:Int} {j:Nat} {v:V} (e:z=(j:Int)) (h:xs[j]? =some v):atI xs z=some v:=by
 rw[e];exact DU h
theorem nN {α:Type} {l:List α} (hN:l.Nodup) {i j:Nat} {x:α} (a:l[i]? =some x) (b:l[j]? =some x):i=j:=by
 obtain⟨h1,e1⟩:=az.mp a;obtain⟨h2,e2⟩:=az.mp b;exact(vZ hN).mp (e1.trans e2.symm)
theorem Same.made {H H1:Hp} {x dx C:ag} (nx:H x=w8) (nd:H dx=w8) (k:∀b o,(upd (upd H dx (.own x)) x (.ins C dx [])) b=some o->b≠x->H1 b=some o):Same H H1:=λb o e=>
 k b o (by rw[AE (AG e nx),AE (AG e nd)];exact e) (AG e nx)
end L2
end
section
namespace L2
open PySem PySem.Spec PyProof.Rows
def cxV:Option ag->ah
 |none=>.none
 |some b=>.ref b
def XoO (a C:ag) (dict:Option ag) (tb:ah) (cx:Option ag):HO:=
 .ext λh=>∃vs:Array ah,h.get? a=some ⟨.ref C,dict,.fields vs,#[]⟩/\4<vs.size/\vs[1]? =some tb/\vs[2]? =some (cxV cx)
def XdO (d:ag) (fs:List (Str×V)):HO:=
 .ext λh=>∃mA,h.Ns1 d mA/\(∀f,RelO (fs.lookup f) (mA f))/\qk mA (fs.map (·.1))/\fs.length<=1000
def TbO (T:ag) (fl:ah):HO:=
 .ext λh=>Ex2 λ(o:Obj) (ts:Array ah)=>h.get? T=some o/\o.data= .fields ts/\ts[3]? =some fl
section
variable {P:bb} {w:cb} {H:Hp} {h:cr} {a C d T:ag} {dict cx:Option ag} {tb fl:ah} {fs:List (Str×V)}
theorem ZZ {vs:Array ah} (e:h.get? a=some ⟨.ref C,dict,.fields vs,#[]⟩) (hs:4<vs.size) (h1:vs[1]? =some tb) (h2:vs[2]? =some (cxV cx)):ObjOk P w H h a (XoO a C dict tb cx):=
 ⟨⟨vs,e,hs,h1,h2⟩,⟨_,e⟩,λg1 g2 ⟨us,q,r⟩ k=>⟨us,k _ q,r⟩⟩
theorem gJ {mA:Str->Option ah} (n:h.Ns1 d mA) (r:∀f,RelO (fs.lookup f) (mA f)) (wi:qk mA (fs.map (·.1))) (z:fs.length<=1000):ObjOk P w H h d (XdO d fs):=by
 obtain⟨o,es,ep,e,q⟩:=id n;refine⟨⟨mA,n,r,wi,z⟩,⟨o,e⟩,λg1 g2 ⟨mB,⟨o1,es1,ep1,e1,q1⟩,y⟩ k=>⟨mB,⟨o1,es1,ep1,k _ e1,q1⟩,y⟩⟩
theorem gK {o:Obj} {ts:Array ah} (e:h.get? T=some o) (hd:o.data= .fields ts) (h3:ts[3]? =some fl):ObjOk P w H h T (TbO T fl):=
 ⟨⟨o,ts,e,hd,h3⟩,⟨o,e⟩,λg1 g2 ⟨o1,ts1,e1,q1⟩ k=>⟨o1,ts1,k _ e1,q1⟩⟩
theorem CU (ok:HOk P w H h) (e:H a=some (XoO a C dict tb cx)):∃vs:Array ah,h.get? a=some ⟨.ref C,dict,.fields vs,#[]⟩/\4<vs.size/\vs[1]? =some tb/\vs[2]? =some (cxV cx):=
 (ok a _ e).1
theorem Z0 (ok:HOk P w H h) (e:H d=some (XdO d fs)):∃mA,h.Ns1 d mA/\(∀f,RelO (fs.lookup f) (mA f))/\qk mA (fs.map (·.1))/\fs.length<=1000:=
 (ok d _ e).1
theorem T8 (ok:HOk P w H h) (e:H T=some (TbO T fl)):Ex2 λ(o:Obj) (ts:Array ah)=>h.get? T=some o/\o.data= .fields ts/\ts[3]? =some fl:=
 (ok T _ e).1
end
structure XAt (H:Hp) (a C:ag) (fs:List (Str×V)) (cx:Option ag) (tb:ah):Prop where
 at_:∃d,d≠a/\H a=some (XoO a C (some d) tb cx)/\H d=some (XdO d fs)
def WB (H:Hp) (a C:ag) (fs:List (Str×V)) (cx:Option ag):Prop:=
 XAt H a C fs cx .none\/Ex2 λT d=>T≠a/\T≠d/\d≠a/\H a=some (XoO a C (some d) (.ref T) cx)/\H d=some (XdO d fs)/\H T=some (TbO T .none)
def Noted (H:Hp) (a C:ag) (fs:List (Str×V)) (cx:Option ag) (fl:ah):Prop:=
 Ex2 λT d=>T≠a/\T≠d/\d≠a/\H a=some (XoO a C (some d) (.ref T) cx)/\H d=some (XdO d fs)/\H T=some (TbO T fl)
theorem Noted.loose {H:Hp} {a C:ag} {fs:List (Str×V)} {cx:Option ag} (n:Noted H a C fs cx .none):WB H a C fs cx:=.inr n
section
variable {X:Cx} {Df:List (ag×Obj)} {σ:St} {H:Hp} {s:ak} {a C d T:ag} {dict cx:Option ag} {tb fl:ah} {fs:List (Str×V)} {E:ah->ak->Prop} {A:dj}
theorem Inv.slots {h':cr} (I:Inv X Df σ H s) (x:Heap.SlotsOnly (frs X.stack) s.heap h'):Inv X Df σ H { s with heap:=h' }:=by
 have hk:∀b o,H b=some o->b∉frs X.stack:=λb o e z=>by
  rw[I.stkFree b z] at e;cases e
 refine I.call (g':=s.gens) (d':=s.drawn) (t':=s.toks) (ch:=[]) ⟨λb o e _ hb _=>(x.2.1 b hb).trans e,λb o e _ _ _=>x.2.2 b o e,λ_ _ _ n _=>n,λb o e _=>let ⟨sl,q⟩:=x.2.2 b o e;⟨_,q⟩,λ_ _ e=>e,λ_ _ _ e=>e,λb ps e=>⟨#[],by rw[e];simp⟩⟩
  (λb o e=>(I.hok b o e).stay (λc u hc q=>?_) (λ_ q=>q) λ_ _ q=>q) I.bare (λ_ z=>nomatch z)
 rcases hc with rfl|hc
 ·exact(x.2.1 c (hk c o e)).trans q
 ·exact(x.2.1 c (hk c _ hc)).trans q
theorem JQ {vs:Array ah} {i:Nat} {v tb':ah} {cx':Option ag} (I:Inv X Df σ H s) (e:H a=some (XoO a C dict tb cx)) (q:s.heap.get? a=some ⟨.ref C,dict,.fields vs,#[]⟩) (z:4<vs.size)
 (h1:(vs.setIfInBounds i v)[1]? =some tb') (h2:(vs.setIfInBounds i v)[2]? =some (cxV cx')):
 Inv X Df σ (upd H a (XoO a C dict tb' cx')) { s with heap:=s.heap.update a (pj (·.setIfInBounds i v)) }:=by
 have e2:(s.heap.update a (pj (·.setIfInBounds i v))).get? a=some ⟨.ref C,dict,.fields (vs.setIfInBounds i v),#[]⟩:=je _ q rfl;exact I.write (x:=a) (e:=a) (t':=s.toks) (by rw[e];exact jj) (.inl rfl) (λb u hb r=>(ku _ _ (cw hb)).trans r) ⟨_,e2⟩
  (ZZ e2 (by rw[Array.size_setIfInBounds];exact z) h1 h2)
theorem RZ {v:ah} {o:Obj} {ts:Array ah} (I:Inv X Df σ H s) (e:H T=some (TbO T fl)) (q:s.heap.get? T=some o) (hd:o.data= .fields ts) (h3:ts[3]? =some fl):
 Inv X Df σ (upd H T (TbO T v)) { s with heap:=s.heap.update T (pj (·.setIfInBounds 3 v)) }:=by
 have hz:3<ts.size:=(lp.mp h3).1;have hd':=ou hd (·.setIfInBounds 3 v);have e2:(s.heap.update T (pj (·.setIfInBounds 3 v))).get? T=some (o.mapFields (·.setIfInBounds 3 v)):=je _ q (um hd');exact I.write (x:=T) (e:=T) (t':=s.toks) (by rw[e];exact jj) (.inl rfl) (λb u hb r=>(ku _ _ (cw hb)).trans r) ⟨_,e2⟩
  (gK e2 hd' (by simp[hz]))
theorem E6 {fr:Option ag} {Q:Unit->ak->Prop} (I:Inv X Df σ H s) (n:Noted H a C fs cx fl)
 (h:∀H' s',Inv X Df σ H' s'->Noted H' a C fs cx (fr.elim .none λf=>ge f)->Q () s'):bi (bo X.prog X.w) A (v8 (.ref a) fr) Q E s:=by
 obtain⟨T,d,n1,n2,n3,ea,ed,et⟩:=n;obtain⟨vs,q,z,h1,h2⟩:=CU I.hok ea;obtain⟨o,ts,qt,hd,h3⟩:=T8 I.hok et;unfold v8;refine ae (iw q rfl h1 ?_);rw[Dm (show(cj T != iq)=true from by simp)];refine jp qt hd (lp.mp h3).1 (h _ _ (RZ I et qt hd h3) ⟨T,d,n1,n2,n3,?_,?_,upd_same⟩)
 ·rw[AE (cw n1)];exact ea
 ·rw[AE (cw n2)];exact ed
theorem R7 {L:ag} {head:ah} {had:Bool} {Q:Unit->ak->Prop} (hst:X.stack=X.env::X.outer) (hf:X.env.frame=some L) (hfr:A.frames=some X.stack) (I:Inv X Df σ H s)
 (dn:d≠a) (ea:H a=some (XoO a C (some d) tb cx)) (ed:H d=some (XdO d fs))
 (h:∀H' s',Inv X Df σ H' s'->Noted H' a C fs cx (ge L)->Q () s'):
 bi (bo X.prog X.w) A (do zQ (.ref a) 1 (←xC head (←frameOf X.env) .none (ge L) .none (←entryPlaceOf L had))) Q E s:=by
 have fun1:s.heap.FunFrames X.base (X.env::X.outer):=by rw[←hst];exact I.stack
 refine ae (wpAny_frameOf_fun (base:=X.base) (outer:=X.outer) (by rw[←hst];exact hfr) fun1 hf λh1 hs1=>?_);have I1:Inv X Df σ H { s with heap:=h1 }:=I.slots (by rw[hst];exact hs1);refine ae (wpAny_entryPlaceOf λpl hpl=>?_);unfold xC newFields;refine ae (gg ?_ (hpl.sizeOk5 _ _ _ _ _));have et:∀t0:Obj,t0={ cls:=.type "traceback",dict:=none,data:=.fields ([head,.ref L,.none,ge L,.none]++(if pl.isEmpty then zB 6 iq else pl)).toArray }->(h1.push t0).get? h1.objs.size=some t0:=λt0 z=>by
  subst z;exact bj h1 rfl
 have I2:=I1.laid (a:=h1.objs.size) (o:=TbO h1.objs.size (ge L)) (t':=s.toks) (λb u q=>am _ q) (aw _)
  (gK (et _ rfl) rfl (by first|(simp;done)|(rcases hpl with rfl|⟨_,_,_,_,_,_,_,rfl⟩<;>simp)))
 have nT:H h1.objs.size=none:=I1.hok.fresh (aw _);have na:h1.objs.size≠a:=cw (AG ea nT);have nd:h1.objs.size≠d:=cw (AG ed nT);have ea2:(upd H h1.objs.size (TbO h1.objs.size (ge L))) a=some (XoO a C (some d) tb cx):=by rw[AE (cw na)];exact ea
 obtain⟨vs,q,z,q1,q2⟩:=CU I2.hok ea2;have hz1:1<vs.size:=ot (by decide) z;have I3:=JQ (i:=1) (v:=.ref h1.objs.size) (tb':=.ref h1.objs.size) (cx':=cx) I2 ea2 q z (by simp[hz1]) (by rw[gj (by decide)];exact q2);refine jp q rfl hz1 (h _ _ I3 ⟨h1.objs.size,d,na,nd,dn,upd_same,?_,?_⟩)
 ·rw[AE dn,AE (cw nd)];exact ed
 ·rw[AE na,upd_same]
theorem QF {L:ag} {Q:Unit->ak->Prop} (hst:X.stack=X.env::X.outer) (hf:X.env.frame=some L) (hfr:A.frames=some X.stack) (I:Inv X Df σ H s) (n:WB H a C fs cx)
 (h:∀H' s',Inv X Df σ H' s'->Noted H' a C fs cx (ge L)->Q () s'):bi (bo X.prog X.w) A (v6 (.ref a) X.env) Q E s:=by
 rcases n with⟨d,dn,ea,ed⟩|⟨T,d,n1,n2,n3,ea,ed,et⟩
 ·obtain⟨vs,q,z,h1,h2⟩:=CU I.hok ea;unfold v6;simp only[hf];refine ae (iw q rfl h1 ?_);rw[Dn (by decide)];exact R7 hst hf hfr I dn ea ed h
 ·obtain⟨vs,q,z,h1,h2⟩:=CU I.hok ea;obtain⟨o,ts,qt,hd,h3⟩:=T8 I.hok et;unfold v6;simp only[hf];refine ae (iw q rfl h1 ?_);rw[Dm (show(cj T != iq)=true from by simp)];refine ae (iw qt hd h3 ?_);rw[Dn (show¬((iq==ge L)=true) from by simp[ge])];refine ae (jp qt hd (lp.mp h3).1 ?_);exact R7 hst hf hfr (RZ I et qt hd h3) n3 (by rw[AE (cw n1)];exact ea) (by rw[AE (cw n2)];exact ed) h
theorem IW {L:ag} {Q:Unit->ak->Prop} (hf:X.env.frame=some L) (I:Inv X Df σ H s) (n:Noted H a C fs cx (ge L)) (h:Q () s):bi (bo X.prog X.w) A (v6 (.ref a) X.env) Q E s:=by
 obtain⟨T,d,n1,n2,n3,ea,ed,et⟩:=n;obtain⟨vs,q,z,h1,h2⟩:=CU I.hok ea;obtain⟨o,ts,qt,hd,h3⟩:=T8 I.hok et;exact wpAny_noteFrame_inFlight hf q rfl h1 qt hd h3 h
theorem R8 {L:ag} {Q:Unit->ak->Prop} (hst:X.stack=X.env::X.outer) (hf:X.env.frame=some L) (hfr:A.frames=some X.stack) (I:Inv X Df σ H s) (n:WB H a C fs cx\/Noted H a C fs cx (ge L))
 (h:∀H' s',Inv X Df σ H' s'->Noted H' a C fs cx .none->Q () s'):bi (bo X.prog X.w) A (leaving X.env (.ref a)) Q E s:=by
 unfold leaving;rcases n with n|n
 ·exact ae (QF hst hf hfr I n λH1 s1 I1 n1=>E6 I1 n1 h)
 ·exact ae (IW hf I n (E6 I n h))
end
def xH (fs:List (Str×V)):Hp:=λb=>if b=0 then some (.xd fs) else none
theorem Z1 {fs gs:List (Str×V)} (e:xH fs=xH gs):fs=gs:=by
 have q:=congrFun e 0;simp only[xH,if_true] at q;injection q with q;injection q
def CX1 (P:bb) (w:cb):CXT:=λouter H s E e s'=>Ex5 λa C fs cx H'=>e= .ref a/\s'.os=s.os/\wk s'.gens/\Un (frs outer) [] H H' s.heap s'.heap/\HOk P w H' s'.heap/\Noted H' a C fs cx .none/\E (.ref C) cx (xH fs)
def nO (X:Cx) (H:Hp) (a C:ag) (fs:List (Str×V)) (cx:Option ag):Prop:=WB H a C fs cx\/∃L,X.env.frame=some L/\Noted H a C fs cx (ge L)
def Out (X:Cx) (E:XK):Prop:=∀(Df:List (ag×Obj)) (σ:St) (H:Hp) (s:ak) (a C:ag) (fs:List (Str×V)) (cx:Option ag),Inv X Df σ H s->nO X H a C fs cx->E (.ref C) cx (xH fs)->X.xe (.ref a) s
theorem Out.passes {X:Cx} {E:XK} (o:Out X E):EA (CX1 X.prog X.w) X E:=by
 intro Df σ H s e s' I ⟨a,C,fs,cx,H',he,os,bare,un,hok,n,q⟩;subst he;exact o Df σ H' s' a C fs cx (I.call' os un hok bare (λ_ z=>nomatch z)) (.inl n.loose) q
theorem AD {P:bb} {w:cb} {K:aa} {mg:Str->Option ah} {base:cr} {N:List Str} {qual:Str} {scope:jr} {f:ag} {cd:ah} {A:dj} {outer:List Env} {s:ak} {H:Hp} {E:XK}:
 Out (OH (CX1 P w) P w K mg base N qual scope f cd A outer s H E) E:=by
 intro Df σ H1 s1 a C fs cx I n q;refine R8 (C:=C) (fs:=fs) (cx:=cx) (L:=s.heap.objs.size) rfl rfl I.ok.frames I ?_ λH' s' I' n'=>?_
 ·rcases n with n|⟨L,e,n⟩
  ·exact .inl n
  ·have e':s.heap.objs.size=L:=cz e;subst e';exact .inr n
 ·exact⟨a,C,fs,cx,H',rfl,I'.os,I'.bare,I'.base,I'.hok,n',q⟩
end L2
end
section
namespace L2
open PySem PySem.Spec PyProof.Rows PySem.W
open Builtin Builtin.ObjectAttr
def JR:List ah->Bool
 | .ref _::r=>JR r
 |l=>l==[.type "ValueError",.type "Exception",.type "BaseException",.type "object"]
theorem ND (self:ah):∀{l:List ah},JR l=true->refuseLoop self "__setattr__" l=pure ():=by
 intro l;induction l with
 |nil=>intro e;cases e
 |cons c r ih=>
  intro e;cases c with
  |ref q=>rw[refuseLoop_ref];exact ih e
  |type n=>
   have q:(ji n::r)=[.type "ValueError",.type "Exception",.type "BaseException",.type "object"]:=eq_of_beq e;rw[q];exact PySem.F.store_ValueError.passes self
  |_=>exact absurd e (by intro z;exact nomatch (xQ (eq_of_beq z)).1)
theorem LE {T:ah} (hT:[.type "ValueError",.type "Exception",.type "BaseException",.type "object"].contains T=true):∀{l:List ah},JR l=true->l.contains T=true:=by
 intro l;induction l with
 |nil=>intro e;cases e
 |cons c r ih=>
  intro e;cases c with
  |ref q=>rw[lq,ih e,yl]
  |type n=>
   have q:(ji n::r)=[.type "ValueError",.type "Exception",.type "BaseException",.type "object"]:=eq_of_beq e;rw[q];exact hT
  |_=>exact absurd e (by intro z;exact nomatch (xQ (eq_of_beq z)).1)
theorem NE:∀{l:List ah},JR l=true->l.isEmpty=false
 |[],e=>nomatch e
 |_::_,_=>rfl
structure XCls (K:Frag) (C:ag):Prop where
 tail:(clsIn K C).any (λcd=>JR cd.mro)=true
 hd:hasDictIn K C=true
 sa:findIn K (.ref C) "__setattr__"=some (some (.builtin "object.__setattr__"))
 ga:findIn K (.ref C) "__getattribute__"=some (some (.builtin "BaseException.__getattribute__"))
 gn:findIn K (.ref C) "__getattr__"=some none
 cls:typeIn K (.ref C)=some (.type "type")
section
variable {prog:bb} {w:cb} {A:dj} {E:ah->ak->Prop} {s:ak} {K:Frag} {a C:ag} {ox:Obj} {od:Option Obj} {name:Str} {v:ah}
theorem nQ {M:yW} {h:cr} {T:ah} (X:K.In h) (c:XCls K C) (I:InstAt h a ox C od) (hT:[.type "ValueError",.type "Exception",.type "BaseException",.type "object"].contains T=true):
 Looks M h (zS (.ref a) T) true:=by
 obtain⟨cd,hc,ht⟩:=any_some c.tail;exact I.type.andThen (looks_mroIn X (by unfold mroIn;rw[hc,yJ,Dn (by rw[NE ht];decide),LE hT ht]))
theorem Z2 {R:yE->ak->Prop} {tk:Tok} (X:K.In s.heap) (c:XCls K C) (I:InstAt s.heap a ox C od) (hn:findIn K (.ref C) name=some none)
 (h:bi (bo prog w) A.in1 (storeInOwnDict (.ref a) (.ref C) (.str name tk) name v false)
  (λfin s'=>match fin with| .done f=>R (.ok f) s'| .again c'=>c'.quiet=true/\nw (bo prog w) A c' R s') (λe s'=>R (.error e) s') s):
 nw (bo prog w) A (.call (.builtin "object.__setattr__") ⟨[.ref a,.str name tk,v],[]⟩) R s:=by
 have SF:=PySem.F.store_object;obtain⟨cd,hc,ht⟩:=any_some c.tail;refine w9 SF.slot.plain SF.entry (@check_slot (bo prog w) _ _ s "object.__setattr__" "object" "__setattr__" (.ref a) [.str name tk,v] [] _ SF.kind SF.split (nQ X c I (by decide)) (SF.args (.ref a) (.str name tk) v) ?_);have hm:Looks (bo prog w) s.heap (mroOf (.ref C)) cd.mro:=(looks_clsIn X hc).andThen .now;rw[osa_eq,refuse_eq];refine ae (ae (I.type.here (ae (hm.here ?_))));rw[ND _ ht];refine ao (ae (I.type.here (ae ((looks_findIn X hn).here (ae ?_)))));exact(show Looks (bo prog w) s.heap (storeTaker? none) none from .now).here h
theorem nR {vs:Array ah} {Q:Unit->ak->Prop} (X:K.In s.heap) (c:XCls K C) (ha:s.heap.get? a=some ⟨.ref C,none,.fields vs,#[]⟩) (hn:findIn K (.ref C) name=some none)
 (h:∀h':cr,h'.get? a=some ⟨.ref C,some s.heap.objs.size,.fields vs,#[]⟩->h'.Ns1 s.heap.objs.size (λy=>if y=name then some v else none)->(∀b o,b≠a->s.heap.get? b=some o->h'.get? b=some o)->
  Q () { s with heap:=h',toks:=s.toks+2 }):
 bi (bo prog w) A (Bn (.ref a) name v) Q E s:=by
 have I:InstAt s.heap a ⟨.ref C,none,.fields vs,#[]⟩ C none:=⟨ha,rfl,rfl,jj⟩
 refine set_plain X I c.sa (Z2 (s:={ s with toks:=s.toks+1 }) X c I hn ?_);obtain⟨cd,hc,hd'⟩:=any_some c.hd;unfold storeInOwnDict zT ownDictForStores instanceDict;refine ae (ao (ae (ae (wU ha (ae (on (s:={ s with toks:=s.toks+1 }) (looks_clsIn X hc) ?_))))));rw[hd'];simp only[Bool.not_true,fx,if_false,typeHasDict,Bool.or_self];have hxs:a≠s.heap.objs.size:=cp (bg ha);have ha1:(s.heap.push { cls:=.type "dict",data:=.dict #[] }).get? a=some ⟨.ref C,none,.fields vs,#[]⟩:=am _ ha;refine ae (wpAny_alloc (ae (wpAny_update ha1 ?_)));have hgd:((s.heap.push { cls:=.type "dict",data:=.dict #[] }).update a λo=>{ o with dict:=some s.heap.objs.size }).get? s.heap.objs.size=some { cls:=.type "dict",data:=.dict #[] }:=
  (ny _ _ _ _ hxs.symm).trans (Heap.get?_push_at rfl rfl)
 have hga:((s.heap.push { cls:=.type "dict",data:=.dict #[] }).update a λo=>{ o with dict:=some s.heap.objs.size }).get? a=some ⟨.ref C,some s.heap.objs.size,.fields vs,#[]⟩:=je _ ha1 rfl;have hnd:((s.heap.push { cls:=.type "dict",data:=.dict #[] }).update a λo=>{ o with dict:=some s.heap.objs.size }).Ns s.heap.objs.size (λ_=>none):=
  ⟨_,#[],_,hgd,rfl,λe he=>absurd he (by simp),λ_=>rfl⟩
 refine ao ?_;show bi _ _ (storeInDict s.heap.objs.size (.str name s.toks) name v) _ _ _;unfold storeInDict newKeyGuard;refine ae (ao (ae (yg (yh hnd) λh' hn' hs=>?_)));obtain⟨oD,esD,epD,hoD,hdD,hcD⟩:=hn'.count (vI name v Cz);refine ae (v3 hoD (by rw[hdD];exact v4 (cu hcD (by rw[de,List.length_nil,cf];omega))) ?_);refine ao (h h' ((hs.2 a hxs).trans hga) hn' λb o hb e=>?_);exact(hs.2 b (cp (bg e))).trans ((ny _ _ _ _ hb).trans (am _ e))
theorem nS {vs:Array ah} {d:ag} {mA:Str->Option ah} {ns:List Str} {Q:Unit->ak->Prop} (X:K.In s.heap) (c:XCls K C) (ha:s.heap.get? a=some ⟨.ref C,some d,.fields vs,#[]⟩) (hm:s.heap.Ns1 d mA) (hda:d≠a)
 (hn:findIn K (.ref C) name=some none) (hw:qk mA ns) (hsz:ns.length<=sizeLine)
 (h:∀h':cr,h'.Ns1 d (λy=>if y=name then some v else mA y)->ql d s.heap h'->Q () { s with heap:=h',toks:=s.toks+2 }):
 bi (bo prog w) A (Bn (.ref a) name v) Q E s:=by
 obtain⟨od,ho,_⟩:=KI hm;have I:InstAt s.heap a ⟨.ref C,some d,.fields vs,#[]⟩ C (some od):=⟨ha,rfl,rfl,ho⟩
 refine set_plain X I c.sa (Z2 (s:={ s with toks:=s.toks+1 }) X c I hn ?_);obtain⟨cd,hc,hd'⟩:=any_some c.hd;unfold storeInOwnDict zT ownDictForStores instanceDict;refine ae (ao (ae (ae (wU ha (ae (on (s:={ s with toks:=s.toks+1 }) (looks_clsIn X hc) ?_))))));rw[hd'];refine ao (a:=some d) ?_;show bi _ _ (storeInDict d (.str name s.toks) name v) _ _ _;unfold storeInDict newKeyGuard;refine ae (ao (ae (yg (s:={ s with toks:=s.toks+1 }) hm λh' hn2 hs2=>?_)));obtain⟨oD,esD,epD,hoD,hdD,hcD⟩:=hn2.count (vI name v hw);refine ae (v3 hoD (by rw[hdD];exact v4 (cu hcD (by rw[de];omega))) ?_);exact ao (h _ hn2 hs2)
theorem T9:(ux "BaseException.__getattribute__"==ux "object.__getattribute__")=false:=by decide +kernel
theorem YF:builtinKind "BaseException.__getattribute__"=some .slot:=by decide +kernel
theorem UA:splitId "BaseException.__getattribute__"=some ("BaseException","__getattribute__"):=by decide +kernel
theorem tW {vs:Array ah} {d:ag} {mA:Str->Option ah} {expr:Bool} {Q:ah->ak->Prop} (X:K.In s.heap) (c:XCls K C) (ha:s.heap.get? a=some ⟨.ref C,some d,.fields vs,#[]⟩) (hm:s.heap.Ns1 d mA)
 (hn:findIn K (.ref C) name=some none) (hv:mA name=some v) (hh:handedIn v=true) (h:Q v { s with toks:=s.toks+1 }):
 bi (bo prog w) A (Bm (.ref a) name expr) Q E s:=by
 obtain⟨od,ho,hl⟩:=KI hm;have I:InstAt s.heap a ⟨.ref C,some d,.fields vs,#[]⟩ C (some od):=⟨ha,rfl,rfl,ho⟩
 have hf:findObj K C (some od) name=some (.value v):=findObj_own c.hd hn rfl (by rw[hl,hv]);have hb:Looks (bo prog w) s.heap (hookBefore (.ref C)) none:=looks_hook X (by rw[Dm (show Bi (cj C)=true from rfl)];exact c.gn);refine ae (wpAny_mkText (io (ae (I.type _ _ _ _ (λ_ _ e=>e) (ae (looks_findIn X c.ga _ _ _ _ (λ_ _ e=>e) ?_))))));dsimp only;rw[show(Bi (cj C)&&ux "BaseException.__getattribute__"==ux "object.__getattribute__")=false from by rw[T9,wY],Dn (by decide)];refine ae (hb _ _ _ _ (λ_ _ e=>e) (ae (vU (io ?_))));unfold callGetattribute;rw[show(expr&&Bi (ux "BaseException.__getattribute__"))=false from wY _,Dn (by decide)];unfold boundAndCalled;rw[v9.ga.bind];refine ae (ao ?_);show bi _ _ (call (.builtin "BaseException.__getattribute__") [.ref a,.str name s.toks]) _ _ _;refine ur ?_;refine w9 v9.ga.plain PySem.F.entry_bexc_ga ?_;refine @check_slot (bo prog w) _ _ { s with toks:=s.toks+1 } "BaseException.__getattribute__" "BaseException" "__getattribute__" (.ref a) [.str name s.toks] [] _ YF UA (nQ X c I (by decide)) (PySem.F.args_bexc_ga (.ref a) (.str name s.toks)) ?_;have L1:=looks_find (M:=bo prog w) X I hf;refine ae (ao (ae (ao (ae (on (s:={ s with toks:=s.toks+1 }) I.type (ae (on (s:={ s with toks:=s.toks+1 }) L1 ?_)))))));refine ao ?_;show bi _ _ (handedOut v) _ _ _;rw[handedOut_of hh];exact ao h
end
end L2
end
section
namespace L2
open PySem PySem.Spec PyProof.Rows PySem.W
open Builtin Builtin.ObjectAttr
def HB (K:Frag) (C:ag):Bool:=match K.lookup C with
 |some ⟨.type "type",_,.cls cd,sl⟩=>(match cd.mro,sl.toList with
  | .ref C'::bm,[_,_,_,_,some (.builtin n),_]=>C'==C&&!cd.hasDel&&n=="ValueError.__new__"&&bm.contains (.type "ValueError")&&!(bm.contains (.type "AttributeError"))&&!(bm.contains (.type "NameError"))
  |_,_=>false)
 |_=>false
theorem YG {K:Frag} {h:cr} {C:ag} (X:K.In h) (q:HB K C=true):∃nm qn N bs bm hdct sn sub ab col dd k0 k1 k2 k3 k5,
 h.get? C=some (yY nm qn C N bs bm hdct sn sub ab col dd k0 k1 k2 k3 k5 "ValueError.__new__")/\bm.contains (.type "ValueError")=true/\bm.contains (.type "AttributeError")=false/\bm.contains (.type "NameError")=false:=by
 unfold HB at q;split at q
 ·rename_i dd cd sl ho;split at q
  ·rename_i C' bm k0 k1 k2 k3 n k5 hm hs;simp only[iz,beq_iff_eq,Bool.not_eq_true'] at q;obtain⟨⟨⟨⟨⟨rfl,hdel⟩,rfl⟩,hb⟩,ha⟩,hn⟩:=q;obtain⟨nm,bs,mro,ns,qn,hd,sn,sub,ab,col,del⟩:=cd;dsimp only at hm hdel;subst hm hdel;have hsl:sl=#[k0,k1,k2,k3,some (.builtin "ValueError.__new__"),k5]:=by
    obtain⟨l⟩:=sl;simp only at hs;rw[hs]
   subst hsl;exact⟨nm,qn,ns,bs,bm,hd,sn,sub,ab,col,dd,k0,k1,k2,k3,k5,X _ _ ho,hb,ha,hn⟩
  ·cases q
 ·cases q
abbrev LS (C t:ag):Obj:={ cls:=.ref C,data:=.fields #[.ref t,.none,.none,.none,.bool false,.none] }
abbrev GF (vs:List ah):Obj:={ cls:=.type "tuple",data:=.seq vs.toArray }
section
variable {prog:bb} {w:cb} {A:dj} {E:ah->ak->Prop} {h:cr} {g:Array GenState} {dr:Drawn} {t:Nat} {os:OsState} {R:yE->ak->Prop}
variable {nm q:Str} {C N:ag} {bs bm:List ah} {hdct:Bool} {sn:List Str} {sub:List ah} {ab:Bool} {col:Option Bool} {dd:Option ag} {k0 k1 k2 k3 k5:Option ah} {Dg:List ah}
theorem UB {M:yW} {Q:Unit->ak->Prop} (hC:h.get? C=some (yY nm q C N bs bm hdct sn sub ab col dd k0 k1 k2 k3 k5 "ValueError.__new__")) (hB:bm.contains (.type "ValueError")=true)
 (hq:Q () ⟨h,g,dr,t,os⟩):bi M A (yK "ValueError.__new__" ⟨.ref C::Dg,[]⟩) Q E ⟨h,g,dr,t,os⟩:=by
 have F:=qh;have hcont:(cj C::bm).contains (.type "ValueError")=true:=by rw[lq,hB,yl]
 have hstar:=F.noStar;simp only[yK,F.newKind,F.newSplit,F.newRow];repeat (first|refine uf hC ?_|(refine u4 hC ?_;rw[hcont])|refine wpAny_staticBase_exc hC ?_|refine yL hC ?_|simp only[bne_self_eq_false,fx,if_false]|wp_step)
 exact hq
theorem Z3 (hC:h.get? C=some (yY nm q C N bs bm hdct sn sub ab col dd k0 k1 k2 k3 k5 "ValueError.__new__")) (hB:bm.contains (.type "ValueError")=true) (hA:bm.contains (.type "AttributeError")=false)
 (hN:bm.contains (.type "NameError")=false) (hrest:Dg.length<=sizeLine)
 (hq:R (.ok (.ret (.ref (h.objs.size+1)))) ⟨(h.push (GF Dg)).push (LS C h.objs.size),g,dr,t,os⟩):
 nw (bo prog w) A (.builtin "ValueError.__new__" ⟨.ref C::Dg,[]⟩) R ⟨h,g,dr,t,os⟩:=by
 have F:=qh;have hends:=F.ends;have hcB:(cj C::bm).contains (.type "ValueError")=true:=by rw[lq,hB,yl]
 have hcA:(cj C::bm).contains (.type "AttributeError")=false:=by rw[lq,hA];rfl
 have hcN:(cj C::bm).contains (.type "NameError")=false:=by rw[lq,hN];rfl
 refine codeAny_builtinAt F.entry ?_;unfold vJ.«BaseException.__new__»;refine zc ?_;show PySem.wpAt _ _ _ (stack >>= _) _ _ _;refine zc (PySem.wpAt_stack λp below=>xD ?_)
 wp_walk
 refine xD ?_;rw[F.owner];repeat (first|with_reducible refine wpAny_madeHere_exc F.canon hC ?_|with_reducible refine uf hC ?_|(with_reducible refine u4 hC ?_;first|rw[hcB]|rw[hcA]|rw[hcN])|wp_step)
 show R _ _;rw[fu];exact hq
theorem UC {K:Frag} {f:ag} (X:K.In h) (hx:HB K C=true) (hi:findIn K (.ref C) "__init__"=some (some (.ref f))) (hf:typeIn K (.ref f)=some (.type "function")) (hrest:Dg.length<=sizeLine)
 (hq:nw (bo prog w) (A.under (.builtin "type.__call__" ⟨.ref C::Dg,[]⟩)) (.call (.ref f) ⟨.ref (h.objs.size+1)::Dg,[]⟩) (InitBack (h.objs.size+1) R)
  ⟨(h.push (GF Dg)).push (LS C h.objs.size),g,dr,t,os⟩):
 nw (bo prog w) A (.call (.ref C) ⟨Dg,[]⟩) R ⟨h,g,dr,t,os⟩:=by
 obtain⟨nm,q,N,bs,bm,hdct,sn,sub,ab,col,dd,k0,k1,k2,k3,k5,hC,hB,hA,hN⟩:=YG X hx;have f1:=tc_lookup;have f2:=tc_bind (.ref C);have hT:(⟨h,g,dr,t,os⟩:ak).TypeIs (.ref C) "type":=⟨_,hC,rfl⟩
 refine codeAny_of_tree ?_;show bi _ _ (callAny (.ref C) _) _ _ _;repeat (any_goals (first|assumption|with_reducible refine uf hC ?_|wp_step))
 refine⟨rfl,?_⟩;refine codeAny_call_builtin_at (x6 _ (by decide +kernel)) entry_typeCall (wpAny_check_type_call_sub hC ?_);unfold vJ.«type.__call__»;repeat (first|with_reducible refine uf hC ?_|with_reducible refine yL hC ?_|wp_step)
 refine codeAny_call_builtin_code (x6 _ qh.quiet) (UB (Dg:=Dg) hC hB ?_);refine Z3 (Dg:=Dg) hC hB hA hN hrest ?_;show bi _ _ _ _ _ _;have k:∀b o,h.get? b=some o->((h.push (GF Dg)).push (LS C h.objs.size)).get? b=some o:=λb o e=>am _ (am _ e);have hC1:=k _ _ hC;have hg:((h.push (GF Dg)).push (LS C h.objs.size)).get? (h.objs.size+1)=some (LS C h.objs.size):=by heap_get
 have hcC:(cj C::bm).contains (.ref C)=true:=by simp
 have i1:Looks (bo prog w) ((h.push (GF Dg)).push (LS C h.objs.size)) (wp (.ref C) "__init__") (some (.ref f)):=looks_findIn (X.keeps k) hi;have b1:Looks (bo prog w) ((h.push (GF Dg)).push (LS C h.objs.size)) (bindSpecial (.ref f) (.ref (h.objs.size+1))) (.ref f,[.ref (h.objs.size+1)]):=bind_fn (X.keeps k) _ hf;have t1:Looks (bo prog w) ((h.push (GF Dg)).push (LS C h.objs.size)) (zH (.ref (h.objs.size+1))) (.ref C):=(uu hg).andThen .now;have s1:Looks (bo prog w) ((h.push (GF Dg)).push (LS C h.objs.size)) (isSubtype (.ref C) (.ref C)) true:=λA' Q' E' s' k' q'=>by
  obtain⟨h2,g2,d2,u2,o2⟩:=s';exact u4 (k' _ _ hC1) (by rw[hcC];exact q')
 unfold zS callSpecial? specialOf;repeat (first|with_reducible refine ur ?_|lk)
 refine oo hq λr s' z=>?_;rcases r with e|(v|_|_|_)<;>first|exact z|exact z.elim|skip
 obtain⟨rfl,z⟩:=z;exact ao (ao z)
end
end L2
end
section
namespace L2
open PySem PySem.Spec PyProof.Rows
abbrev Cx.re (X:Cx) (A:dj) (calm:Bool) (E:ah->ak->Prop):Cx:={ X with A:=A,calm:=calm,xe:=E }
abbrev Cx.tr (X:Cx) (pn:List (ag×Obj)) (E:ah->ak->Prop):Cx:={ X with pn:=pn,xe:=E }
theorem Cx.Ok.re {X:Cx} {A:dj} {calm:Bool} {E:ah->ak->Prop} (ok:X.Ok) (hf:A.frames=some X.stack) (hd:calm=true->A.handled=none):(X.re A calm E).Ok:=
 ⟨ok.mod,ok.kind,ok.glob,ok.blt,ok.above,ok.inj,ok.has,ok.cab,hd,hf,ok.stk,ok.exf,ok.bs,ok.bsz,ok.noex,ok.exfs,ok.funs,ok.frf⟩
theorem Cx.Ok.tr {X:Cx} {pn:List (ag×Obj)} {E:ah->ak->Prop} (ok:X.Ok):(X.tr pn E).Ok:=
 ⟨ok.mod,ok.kind,ok.glob,ok.blt,ok.above,ok.inj,ok.has,ok.cab,ok.hd,ok.frames,ok.stk,ok.exf,ok.bs,ok.bsz,ok.noex,ok.exfs,ok.funs,ok.frf⟩
section
variable {X:Cx} {Df pn:List (ag×Obj)} {σ:St} {H:Hp} {s:ak} {A:dj} {calm:Bool} {E:ah->ak->Prop}
theorem Inv.re (I:Inv X Df σ H s) (hf:A.frames=some X.stack) (hd:calm=true->A.handled=none):Inv (X.re A calm E) Df σ H s:=
 ⟨I.ok.re hf hd,I.os,I.bare,I.base,I.loc,I.cell,I.free,I.freeC,I.pin,I.hok,I.len⟩
theorem Inv.unre (ok:X.Ok) (I:Inv (X.re A calm E) Df σ H s):Inv X Df σ H s:=
 ⟨ok,I.os,I.bare,I.base,I.loc,I.cell,I.free,I.freeC,I.pin,I.hok,I.len⟩
theorem Inv.tr (I:Inv X Df σ H s):Inv (X.tr (X.pn++Df) E) [] σ H s:=
 ⟨I.ok.tr,I.os,I.bare,I.base,I.loc,I.cell,I.free,I.freeC,λp hp=>I.pin p (by rw[jh] at hp;exact hp),I.hok,I.len⟩
theorem Inv.untr {pins':List (ag×Obj)} (ok:X.Ok) (I:Inv (X.tr (X.pn++Df) E) pins' σ H s):Inv X Df σ H s:=
 ⟨ok,I.os,I.bare,I.base,I.loc,I.cell,I.free,I.freeC,λp hp=>I.pin p (uJ _ hp),I.hok,I.len⟩
theorem SP.unre {D:Ends} {f:Flow} {s':ak} (ok:X.Ok) (h:SP (X.re A calm E) Df D f s'):SP X Df D f s':=by
 cases f with
 |next=>obtain⟨σ',H',I,q⟩:=h;exact⟨σ',H',I.unre ok,q⟩
 |brk=>obtain⟨σ',H',I,q⟩:=h;exact⟨σ',H',I.unre ok,q⟩
 |cont=>obtain⟨σ',H',I,q⟩:=h;exact⟨σ',H',I.unre ok,q⟩
 |ret u=>obtain⟨v,σ',H',I,r,q⟩:=h;exact⟨v,σ',H',I.unre ok,r,q⟩
theorem SP.untr {D:Ends} {f:Flow} {s':ak} (ok:X.Ok) (h:SP (X.tr (X.pn++Df) E) [] D f s'):SP X Df D f s':=by
 cases f with
 |next=>obtain⟨σ',H',I,q⟩:=h;exact⟨σ',H',I.untr ok,q⟩
 |brk=>obtain⟨σ',H',I,q⟩:=h;exact⟨σ',H',I.untr ok,q⟩
 |cont=>obtain⟨σ',H',I,q⟩:=h;exact⟨σ',H',I.untr ok,q⟩
 |ret u=>obtain⟨v,σ',H',I,r,q⟩:=h;exact⟨v,σ',H',I.untr ok,r,q⟩
end
structure RoomU (k:Nat) (A:dj):Prop where
 dp:A.depth+3*k+5<vi
 un:A.units+16*k+200<wV
theorem Room.u {k:Nat} {A:dj} (r:Room k A):RoomU k A:=⟨r.dp,r.un⟩
theorem RoomU.mono {j k:Nat} {A:dj} (r:RoomU k A) (h:j<=k):RoomU j A:=⟨by have:=r.dp;omega,by have:=r.un;omega⟩
theorem RoomU.mark {k:Nat} {A:dj} (r:RoomU k A) (e:Option ah):RoomU k (A.mark e):=⟨r.dp,r.un⟩
theorem RoomU.deeper {k:Nat} {A:dj} (r:RoomU (k+1) A) (env:Env):RoomU k (A.deeper env):=
 ⟨by have:=r.dp;show A.depth+1+3*k+5<_;omega,by have:=r.un;show A.units+3+16*k+200<_;omega⟩
theorem RoomU.make {k:Nat} {A:dj} (r:RoomU (k+1) A) (C:ag) (us:List ah) (kw:List (Str×ah)):RoomU k (A.under (.builtin "type.__call__" ⟨.ref C::us,kw⟩)):=
 ⟨by have:=r.dp;rw[M4];omega,by have:=r.un;rw[M5];omega⟩
structure FnOkU (P:bb) (w:cb) (K:aa) (mg:Str->Option ah) (base:cr) (CX:CXT) (k:Nat) (f:ag) (fd:fv) (ps:List Str) (sp:Sp):Prop where
 len:∀vs H Q E,sp vs H Q E->vs.length=ps.length
 run:∀(A:dj) (outer:List Env) (s:ak) (H:Hp) (args:Args) (us:List ah) (vs:List V) (Q:VK) (E:XK),RoomU k A->Env0 P w K mg base A outer s H->xw s fd args (ps.zip us)->Vals vs us->sp vs H Q E->
  nw (bo P w) A (.call (.ref f) args) (CR CX outer P w H s Q E) s
def R9 (CX:CXT) (P:bb) (w:cb) (K:aa) (mg:Str->Option ah) (base:cr) (N:List Str) (qual:Str) (scope:jr) (f:ag) (cd:ah) (A:dj) (outer:List Env) (s:ak) (H:Hp) (E:XK):Cx:=
 { OH CX P w K mg base N qual scope f cd A outer s H E with calm:=false }
theorem jF {CX:CXT} {P:bb} {w:cb} {K:aa} {mg:Str->Option ah} {base:cr} {k:Nat} {f:ag} {name qual:Str} {params:vc} {body:List dm} {scope:jr} {dV kV doc pm Dk ct oc:ah} {an od:Option ag}
 {osl:Array (Option ah)} {N ps:List Str} {sp:Sp} (lk:K.lookup f=some ⟨oc,od,.func (ik name qual params body scope dV kV doc pm an Dk ct),osl⟩) (hcd:jg K Dk qual=true) (S:FnScope N ps scope)
 (len:∀vs H Q E,sp vs H Q E->vs.length=ps.length)
 (hbody:∀(A:dj) (outer:List Env) (s:ak) (H:Hp) (vs:List V) (Q:VK) (E:XK),RoomU k (A.deeper (vk qual scope s.heap.objs.size f Dk))->sp vs H Q E->
  ∃t,PSs (R9 CX P w K mg base N qual scope f Dk A outer s H E) body t/\t { nx:=λ_ H'=>Q .non H',rt:=Q } (FQ N vs) H):
 FnOkU P w K mg base CX (k+1) f (ik name qual params body scope dV kV doc pm an Dk ct) ps sp:=by
 refine⟨len,λA outer s H args us vs Q E hr e0 hb r hsp=>?_⟩;have hl:=len _ _ _ _ hsp;have KX:K.In s.heap:=e0.mod.kin.keeps λb o e=>(e0.bs b o e).1;have lim:s.heap.NoLimit:=e0.mod.nolimit.keeps λb o e=>(e0.bs b o e).1;have hkind:∀y∈ps.zip us,scope.names.lookup y.1=some .local\/(scope.names.lookup y.1=some .cell/\((ip (s.heap.objs.size+1) scope.names []).lookup y.1).isSome=true):=λ⟨n,v⟩ hy=>by
  rcases S.par n (rp hy).1 with q|q
  ·exact .inl q
  ·exact .inr ⟨q,ub _ _ _ (.inl q)⟩
 have hdp:A.depth<vi:=by have:=hr.dp;omega
 refine wK hdp (KX _ _ lk) rfl S.co S.gen rfl (xZ KX hcd) (hb _ _ _ _ ?_);refine vn S.kind hkind λenv he s1 x=>?_;subst he;refine⟨lim.keeps x.toInCall.keep,codeAny_func ?_⟩;obtain⟨t,ht,hq⟩:=hbody A outer s H vs Q E (hr.deeper _) hsp;have e1:Env0 P w K mg base { A with handled:=none } outer s H:=⟨e0.frames,e0.mod,e0.bs,e0.bsz,e0.funs,e0.frf,e0.hok,e0.bare⟩
 have I0:Inv (OH CX P w K mg base N qual scope f Dk { A with handled:=none } outer s H E) [] (FQ N vs) H s1:=O0 S rfl e1 hl r x;have I:Inv (R9 CX P w K mg base N qual scope f Dk A outer s H E) [] (FQ N vs) H s1:=
  ⟨⟨I0.ok.mod,I0.ok.kind,I0.ok.glob,I0.ok.blt,I0.ok.above,I0.ok.inj,I0.ok.has,I0.ok.cab,λz=>(bw z).elim,uN e0.frames,I0.ok.stk,I0.ok.exf,I0.ok.bs,I0.ok.bsz,I0.ok.noex,I0.ok.exfs,I0.ok.funs,I0.ok.frf⟩,
   I0.os,I0.bare,I0.base,I0.loc,I0.cell,I0.free,I0.freeC,I0.pin,I0.hok,I0.len⟩
 refine ig (ht [] s1 (FQ N vs) H _ I hq) (λfl s' hs=>?_) λe s' hs=>hs;have fin:∀{σ':St} {H':Hp} {v:V} {u:ah},Inv (R9 CX P w K mg base N qual scope f Dk A outer s H E) [] σ' H' s'->RelV v u->Q v H'->CE outer P w H s Q u s':=
  λ{σ' H' v u} J rv q=>⟨v,H',J.os,J.bare,J.base,J.hok,rv,q⟩
 cases fl with
 |ret u=>
  obtain⟨v,σ',H',J,rv,q⟩:=hs;exact fin J rv q
 |next=>
  obtain⟨σ',H',J,q⟩:=hs;exact fin (v:=V.non) (u:=iq) J rfl q
 |brk=>
  obtain⟨_,_,_,q⟩:=hs;exact fk q
 |cont=>
  obtain⟨_,_,_,q⟩:=hs;exact fk q
section
variable {X:Cx} {CX:CXT} {k:Nat} {f C:ag} {fd:fv} {ps:List Str} {sp:Sp} {E:XK} {x m fld:Str} {p pos apos pos':Pos} {e o value:Expr} {es:List Expr} {ta te tv:TE} {t:TA}
theorem eE {Df:List (ag×Obj)} {σ:St} {H:Hp} {s:ak} {Q:VK} {us:List ah} {vs:List V} (F:FnOkU X.prog X.w X.K X.mg X.base CX k f fd ps sp) (hr:RoomU k X.A) (hb:Binds X.K fd ps []) (hx:EA CX X E)
 (I:Inv X Df σ H s) (r:Vals vs us) (h:sp vs H Q E):bi (bo X.prog X.w) X.A (call (.ref f) us) (EP X Df σ Q) X.xe s:=by
 have hl:(us++[]).length=ps.length:=by rw[jh, ←r.length];exact F.len _ _ _ _ h
 have hb':=hb s us I.kIn hl;rw[jh] at hb';refine ur (oo (F.run X.A X.stack s H ⟨us,[]⟩ us vs Q E hr I.env0 hb' r h) λr s' hq=>?_);cases r with
 |error e=>exact hx Df σ H s e s' I hq
 |ok fl=>
  cases fl with
  |ret u=>exact I.after hq
  |next=>exact fk hq
  |brk=>exact fk hq
  |cont=>exact fk hq
structure XMk (K:aa) (C f:ag):Prop where
 makes:HB K C=true
 init:im K (.ref C) "__init__"=some (some (.ref f))
 fn:qo K (.ref f)=true
 kp:fi K (.ref C)=true
def NF (C:ag) (sp:Sp) (E:XK) (t:TA):TE:=λσ H Q=>t σ H λvs H1=>vs.length<=100/\∀a,H1 a=none->sp (.ref a::vs) (upd H1 a (XoO a C none .none none)) (λv H2=>v= .non/\Q (.ref a) H2) E
theorem O2 {Df:List (ag×Obj)} {σ:St} {H:Hp} {s:ak} {Q:VK} {us:List ah} {vs:List V} (M:XMk X.K C f) (F:FnOkU X.prog X.w X.K X.mg X.base CX k f fd ps sp) (hr:RoomU (k+1) X.A) (hb:Binds X.K fd ps [])
 (hx:EA CX X E) (I:Inv X Df σ H s) (r:Vals vs us) (hv:vs.length<=100)
 (h:∀a,H a=none->sp (.ref a::vs) (upd H a (XoO a C none .none none)) (λv H2=>v= .non/\Q (.ref a) H2) E):
 bi (bo X.prog X.w) X.A (call (.ref C) us) (EP X Df σ Q) X.xe s:=by
 have hus:us.length<=sizeLine:=by rw[←r.length,cf];omega
 have hq:=h (s.heap.objs.size+1) (I.hok.fresh (uM _));obtain⟨hh,g,dr,tk,os⟩:=s;have e1:(hh.push (GF us)).get? hh.objs.size=some (GF us):=bj hh rfl;have e2:((hh.push (GF us)).push (LS C hh.objs.size)).get? (hh.objs.size+1)=some (LS C hh.objs.size):=by heap_get
 have I1:=I.kept (h':=hh.push (GF us)) (t':=tk) λb u q=>am _ q;have I2:=I1.laid (a:=hh.objs.size+1) (o:=XoO (hh.objs.size+1) C none .none none) (h':=(hh.push (GF us)).push (LS C hh.objs.size)) (t':=tk) (λb u q=>am _ q) (tu (fu _ _))
  (ZZ e2 (by simp) rfl rfl)
 have r2:Vals (V.ref (hh.objs.size+1)::vs) (cj (hh.objs.size+1)::us):=.cons rfl r;have hl:(cj (hh.objs.size+1)::us++[]).length=ps.length:=by
  rw[jh, ←r2.length];exact F.len _ _ _ _ hq
 have hb':=hb _ (cj (hh.objs.size+1)::us) I2.kIn hl;rw[jh] at hb';refine ur (UC (f:=f) I.kIn M.makes M.init (beq_iff_eq.mp M.fn) hus (oo (F.run _ X.stack _ _ ⟨cj (hh.objs.size+1)::us,[]⟩ (cj (hh.objs.size+1)::us) _ _ E (hr.make C us [])
  (I2.env0.make C us []) hb' r2 hq) λr s' hq'=>?_))
 cases r with
 |error e=>exact hx Df σ _ _ e s' I2 hq'
 |ok fl=>
  cases fl with
  |ret u=>
   obtain⟨v,H',I3,rv,ev,q3⟩:=I2.after hq';subst ev;exact⟨rv,⟨V.ref (hh.objs.size+1),H',I3,rfl,q3⟩⟩
  |next=>exact fk hq'
  |brk=>exact fk hq'
  |cont=>exact fk hq'
theorem Z4 (M:XMk X.K C f) (F:FnOkU X.prog X.w X.K X.mg X.base CX k f fd ps sp) (hr:RoomU (k+1) X.A) (hg:Gl X x) (hm:X.mg x=some (.ref C)) (hb:Binds X.K fd ps []) (hx:EA CX X E)
 (ha:PA X (e::es) t) (hdb:(x==("__debug__":Str))=false:=by decide) (he:be (e::es) X.env=(false,eval e X.env)::be es X.env:=by rfl) (hpl:(ie pos (be es X.env)).any (·.1)=false:=by rfl):
 PE X (.Call (.Name x p) (e::es) [] pos) (NF C sp E t):=by
 intro Df s σ H Q I h;refine ij (E0 I hg hm ?_ hdb);refine oq (h₀:=X.base) I.ok.mod.kin M.kp (thn (ha pos Df s σ H _ I h) λus s1 ⟨vs,H1,I1,r,hv,q⟩=>⟨I1.kIn,?_⟩) he hpl;exact O2 M F hr hb hx I1 r hv q
theorem YH (M:XMk X.K C f) (F:FnOkU X.prog X.w X.K X.mg X.base CX k f fd ps sp) (hr:RoomU (k+1) X.A) (hg:Gl X x) (hm:X.mg x=some (.ref C)) (hb:Binds X.K fd ps []) (hx:EA CX X E)
 (hdb:(x==("__debug__":Str))=false:=by decide):PE X (.Call (.Name x p) [] [] pos) (NF C sp E EQ):=by
 intro Df s σ H Q I h;refine ij (E0 I hg hm ?_ hdb);exact u0 I.kIn M.kp (O2 (us:=[]) M F hr hb hx I .nil (by simp) h.2)
theorem JS {mc:ah} {pl:Sem Bool} (hg:Gl X x) (hm:X.mg x=some (.ref C)) (hsp:vK X.K (.ref C) "__getattribute__"=some (some (.builtin "type.__getattribute__"))) (hr0:wC X.K C mc=true)
 (hfc:rq X.K (.ref C) mc m=some (.val (.ref f))) (hk:fi X.K (.ref f)=true)
 (F:FnOkU X.prog X.w X.K X.mg X.base CX k f fd ps sp) (hr:RoomU k X.A) (hb:Binds X.K fd ps []) (hx:EA CX X E) (ha:PA X (e::es) t)
 (hdb:(x==("__debug__":Str))=false:=by decide) (hst:be (e::es) X.env=(false,eval e X.env)::be es X.env:=by rfl) (hpl:(ie pos (be es X.env)).any (·.1)=false:=by rfl)
 (ht:eval (.Call (.Attribute (.Name x p) m apos) (e::es) [] pos) X.env=(do
  let ov←eval (.Name x p) X.env
  nq apos.atName
  let (f,first)←mj [ov] (kz ov m pl)
  nz pos f first (ie pos (be (e::es) X.env)) (kf pos (gr [] X.env))):=by rfl):
 PE X (.Call (.Attribute (.Name x p) m apos) (e::es) [] pos) (LD sp [] E t):=by
 intro Df s σ H Q I h;refine qa (pl:=pl) (E0 I hg hm ?_ hdb) ht;refine PySem.W.method_cls I.kIn hsp (PySem.W.cls_value I.kIn hr0 hfc rfl ?_);refine oq (first:=[]) (h₀:=X.base) I.ok.mod.kin hk (thn (ha pos Df _ σ H _ (I.tok _) h) λus s2 ⟨vs,H2,I2,r,q2⟩=>⟨I2.kIn,?_⟩) hst hpl;have q3:sp (vs++[]) H2 Q E:=q2;rw[jh] at q3;exact eE F hr hb hx I2 r q3
def jG (K:aa) (ta tv:TE) (f:Str):TS:=λD σ H=>tv σ H λy H1=>ta σ H1 λx H2=>Ex4 λa C tb cx=>x= .ref a/\H2 a=some (XoO a C none tb cx)/\XCls K C/\NoAttr K C f/\
 ∀d,H2 d=none->d≠a->D.nx σ (upd (upd H2 d (XdO d [(f,y)])) a (XoO a C (some d) tb cx))
def nU (K:aa) (ta tv:TE) (f:Str):TS:=λD σ H=>tv σ H λy H1=>ta σ H1 λx H2=>Ex6 λa C d fs tb cx=>x= .ref a/\H2 a=some (XoO a C (some d) tb cx)/\H2 d=some (XdO d fs)/\d≠a/\XCls K C/\NoAttr K C f/\
 fs.length<1000/\D.nx σ (upd H2 d (XdO d (FY f y fs)))
theorem SA (ha:PE X o ta) (hv:PE X value tv) (hs:qm value (some (.Attribute o fld pos')) pos.line X.env=pure false):PS X (.Assign [.Attribute o fld pos'] value pos) (jG X.K ta tv fld):=by
 intro Df s σ H D I h;refine nj (thn (hv Df s σ H _ I h) λu s1 ⟨y,H1,I1,ry,q⟩=>thn (ha Df s1 σ H1 _ I1 q) λov s2 ⟨x,H2,I2,rx,a,C,tb,cx,ex,ea,c,n,q2⟩=>?_) hs;subst ex;obtain rfl:ov=cj a:=rx;obtain⟨vs,ga,z,h1,h2⟩:=CU I2.hok ea;have nd:H2 s2.heap.objs.size=none:=I2.hok.fresh (aw _);have na:s2.heap.objs.size≠a:=cw (cp (bg ga));refine nR I2.kIn c ga n λh' e1 e2 kp=>⟨σ,_,?_,q2 s2.heap.objs.size nd na⟩
 obtain⟨od,es,ep,g1,g2⟩:=id e2;have fr:od.isFreed=false:=(Heap.get?_some_iff.mp g1).2;have p1:(s2.heap.push od).get? s2.heap.objs.size=some od:=bj s2.heap fr;have J1:=I2.laid (a:=s2.heap.objs.size) (o:=XdO s2.heap.objs.size [(fld,y)]) (h':=s2.heap.push od) (t':=s2.toks+2) (λb u q=>am _ q) (aw _)
  (gJ (mA:=λg=>if g=fld then some u else none) ⟨od,es,ep,p1,g2⟩ (λg=>?_) (λg hg=>?_) (by simp))
 ·refine J1.write (x:=a) (e:=a) (h':=h') (t':=s2.toks+2) (by rw[AE (cw na),ea];exact jj) (.inl rfl) (λb u hb r=>?_) ⟨_,e1⟩ (ZZ e1 z h1 h2);by_cases hbs:b=s2.heap.objs.size
  ·subst hbs;have r':(s2.heap.push od).get? s2.heap.objs.size=some u:=r;rw[p1] at r';cases r';exact g1
  ·have Dl:b<(s2.heap.push od).objs.size:=bg r;rw[fu] at Dl;have r':(s2.heap.push od).get? b=some u:=r;have e3:(s2.heap.push od).get? b=s2.heap.get? b:=vL _ _ _ (by omega);exact kp b u hb (e3.symm.trans r')
 ·show RelO (jk g [(fld,y)]) (if g=fld then some u else none);by_cases hgf:g=fld
  ·rw[Dm hgf];have hb:(g==fld)=true:=beq_iff_eq.mpr hgf;simp only[jk,hb];exact ry
  ·rw[Dn hgf];have hb:(g==fld)=false:=beq_eq_false_iff_ne.mpr hgf;simp only[jk,hb];exact jj
 ·by_cases hgf:g=fld
  ·rw[hgf];exact bc
  ·exact absurd (Dn hgf) hg
theorem WC (ha:PE X o ta) (hv:PE X value tv) (hs:qm value (some (.Attribute o fld pos')) pos.line X.env=pure false):PS X (.Assign [.Attribute o fld pos'] value pos) (nU X.K ta tv fld):=by
 intro Df s σ H D I h;refine nj (thn (hv Df s σ H _ I h) λu s1 ⟨y,H1,I1,ry,q⟩=>thn (ha Df s1 σ H1 _ I1 q) λov s2 ⟨x,H2,I2,rx,a,C,d,fs,tb,cx,ex,ea,ed,dn,c,n,hl,q2⟩=>?_) hs;subst ex;obtain rfl:ov=cj a:=rx;obtain⟨vs,ga,z,h1,h2⟩:=CU I2.hok ea;obtain⟨mA,hm,r,wi,_⟩:=Z0 I2.hok ed;have hz:(fs.map (·.1)).length<=sizeLine:=by rw[ai,cf];omega
 refine nS I2.kIn c ga hm dn n wi hz λh' hn sb=>⟨σ,_,?_,q2⟩
 have hd:∃o,h'.get? d=some o:=let ⟨o,_,_,e',_⟩:=hn;⟨o,e'⟩;refine I2.write (x:=d) (e:=d) (h':=h') (t':=s2.toks+2) (by rw[ed];exact jj) (.inl rfl) (λb q hb z=>(sb.2 b hb).trans z) hd (gJ hn (λg=>?_) (λg hg=>?_) ?_)
 ·show RelO ((FY fld y fs).lookup g) (if g=fld then some u else mA g);rw[G6];by_cases q:g=fld
  ·rw[Dm q,Dm q];exact ry
  ·rw[Dn q,Dn q];exact r g
 ·by_cases q:g=fld
  ·rw[q];exact(GC fld y fs).1
  ·refine(GC fld y fs).2 g (wi g λz=>hg ?_);show(if g=fld then some u else mA g)=none;rw[Dn q];exact z
 ·have:=FP fld y fs;omega
def WD (K:aa) (ta:TE) (f:Str):TE:=λσ H Q=>ta σ H λx H1=>Ex7 λa C d fs tb cx v=>x= .ref a/\H1 a=some (XoO a C (some d) tb cx)/\H1 d=some (XdO d fs)/\XCls K C/\NoAttr K C f/\fs.lookup f=some v/\Q v H1
theorem eF (he:PE X e ta) (hb:jy e fld X.env (eval e X.env)=eval e X.env):PE X (.Attribute e fld pos) (WD X.K ta fld):=by
 intro Df s σ H Q I h;refine V6 hb (thn (he Df s σ H _ I h) λu s1 ⟨x,H1,I1,rx,a,C,d,fs,tb,cx,v,ex,ea,ed,c,n,l,q⟩=>?_);subst ex;obtain rfl:u=cj a:=rx;obtain⟨vs,ga,z,h1,h2⟩:=CU I1.hok ea;obtain⟨mA,hm,r,wi,_⟩:=Z0 I1.hok ed;obtain⟨u,hu,ru⟩:=RelO.some_of (v:=v) (o:=mA fld) (by rw[←l];exact r fld);exact tW I1.kIn c ga hm n hu (OV ru) ⟨v,H1,I1.tok _,ru,q⟩
end
end L2
end
section
namespace L2
open PySem PySem.Spec PyProof.Rows
section
variable {X:Cx} {Df:List (ag×Obj)} {σ:St} {H:Hp} {s:ak} {a C:ag} {fs:List (Str×V)} {dict cx:Option ag} {tb:ah} {A:dj} {E':ah->ak->Prop}
theorem NG {M:yW} {h:cr} {vs:Array ah} (ga:h.get? a=some ⟨.ref C,dict,.fields vs,#[]⟩):rh M h (isType (.ref a)) false:=λA' Q' E' s' k' q'=>by
 obtain⟨h2,g2,d2,u2,o2⟩:=s';exact PySem.ks_wpAny_isType_inst (k' _ _ ga) (by intro c z;cases z) q'
theorem LF {complaint:String} {Q:ah->ak->Prop} (I:Inv X Df σ H s) (c:XCls X.K C) (ea:H a=some (XoO a C dict tb cx)) (h:Q (.ref a) s):bi (bo X.prog X.w) A (excFromValue (.ref a) complaint) Q E' s:=by
 obtain⟨vs,ga,z,h1,h2⟩:=CU I.hok ea;have I1:∃od,zy s.heap a ⟨.ref C,dict,.fields vs,#[]⟩ C od\/True:=⟨none,.inr jj⟩
 have t1:rh (bo X.prog X.w) s.heap (zH (.ref a)) (.ref C):=(uu ga).andThen .now;obtain⟨cd,hc,ht⟩:=yD c.tail;have s1:rh (bo X.prog X.w) s.heap (zS (.ref a) (.type "BaseException")) true:=
  t1.andThen (PySem.W.looks_mroIn I.kIn (by unfold PySem.W.mroIn;rw[hc,yJ,Dn (by rw[NE ht];decide),LE (by decide) ht]))
 unfold excFromValue isExcClass;refine ae (ae ((NG ga).here ?_));rw[Dn bw];refine ao ?_;rw[Dn bw];refine ae (s1.here ?_);rw[Dm rfl];exact ao h
theorem SB {Q:ah->ak->Prop} (I:Inv X Df σ H s) (c:XCls X.K C) (ea:H a=some (XoO a C dict tb cx)) (h:Q (.ref a) s):bi (bo X.prog X.w) A (zU (.ref a)) Q E' s:=by
 obtain⟨vs,ga,z,h1,h2⟩:=CU I.hok ea;have t1:rh (bo X.prog X.w) s.heap (zH (.ref a)) (.ref C):=(uu ga).andThen .now;unfold zU;refine ae (t1.here (ae ((PySem.W.looks_typeIn I.kIn c.cls).here ?_)));rw[Dm (by decide)];exact ao h
end
section
variable {X:Cx} {E:XK} {e:Expr} {te:TE} {pos cpos:Pos} {j:Nat}
def Z5 (K:aa) (E:XK) (te:TE):TS:=λ_ σ H=>te σ H λx H1=>Ex3 λa C fs=>x= .ref a/\XAt H1 a C fs none .none/\XCls K C/\E (.ref C) none (xH fs)
theorem HC (o:Out X E) (hc:X.calm=true) (he:PE X e te):PS X (.Raise (some e) none pos) (Z5 X.K E te):=by
 intro Df s σ H D I h;rw[zV];refine ae (jx ?_);unfold raiseStmt;refine ae (ae (thn (he Df s σ H _ I h) λu s1 ⟨x,H1,I1,rx,a,C,fs,ex,xa,c,q⟩=>ae (jx (ao ?_))));subst ex;obtain rfl:u=cj a:=rx;obtain⟨d,dn,ea,ed⟩:=xa.at_;obtain⟨vs,ga,z,h1,h2⟩:=CU I1.hok ea;refine ae (ao (ae (io (LF I1 c ea ?_))));refine ae ((NG ga).here ?_);rw[Dn bw];refine ae (SB I1 c ea ?_);unfold v8;refine ae (ae (iw ga rfl h1 ?_));rw[Dn (by decide)];refine ao (wpAny_raiseNew_none (I1.ok.hd hc) ?_);exact o Df σ H1 s1 a C fs none I1 (.inl (.inl xa)) q
theorem OJ:entryFor table "proto.unchain"=some vJ.«proto.unchain»:=entryFor_of_tree (by kernel_rfl)
def UD (K:aa) (E:XK) (b:ag) (te:TE):TS:=λ_ σ H=>te σ H λx H1=>Ex3 λa C fs=>x= .ref a/\XAt H1 a C fs none .none/\XCls K C/\a≠b/\(Ex3 λCb db tbb=>H1 b=some (XoO b Cb db tbb none))/\E (.ref C) (some b) (xH fs)
theorem JT {b:ag} (o:Out X E) (hh:X.A.handled=some (.ref b)) (he:PE X e te):PS X (.Raise (some e) (some (.Constant .none j cpos)) pos) (UD X.K E b te):=by
 intro Df s σ H D I h;rw[zV];refine ae (jx ?_);unfold raiseStmt;refine ae (ae (thn (he Df s σ H _ I h) λu s1 ⟨x,H1,I1,rx,a,C,fs,ex,xa,c,nab,⟨Cb,db,tbb,eb⟩,q⟩=>ae (jx (ao ?_))));subst ex;obtain rfl:u=cj a:=rx;obtain⟨d,dn,ea,ed⟩:=xa.at_;obtain⟨vs,ga,z,h1,h2⟩:=CU I1.hok ea;refine ae (io (ae (Constant_none (ae (jx (ao (ae (ao ?_))))))));refine ae (io (LF I1 c ea ?_));refine ae (ao ?_);have z3:3<vs.size:=ot (by decide) z;have J1:=JQ (i:=3) (v:=.none) (tb':=.none) (cx':=none) I1 ea ga z (by rw[gj (by decide)];exact h1) (by rw[gj (by decide)];exact h2);refine ae (jp ga rfl z3 ?_);obtain⟨vs2,ga2,z2,h12,h22⟩:=CU J1.hok upd_same;have J2:=JQ (i:=4) (v:=.bool true) (tb':=.none) (cx':=none) J1 upd_same ga2 z2 (by rw[gj (by decide)];exact h12) (by rw[gj (by decide)];exact h22);refine ae (jp ga2 rfl z2 ?_);obtain⟨vs3,ga3,z3',h13,h23⟩:=CU J2.hok upd_same;refine ae ((NG ga3).here ?_);rw[Dn bw];refine ae (SB J2 c upd_same ?_);unfold v8;refine ae (ae (iw ga3 rfl h13 ?_));rw[Dn (by decide)];refine ao ?_;unfold raiseNew;refine ae (xR ?_);rw[hh];dsimp only;rw[Dm (show(cj b != cj a)=true from by simp[bne,cw nab])];have eb2:(upd (upd H1 a (XoO a C (some d) .none none)) a (XoO a C (some d) .none none)) b=some (XoO b Cb db tbb none):=by rw[AE (cw nab),AE (cw nab)];exact eb
 obtain⟨vb,gb,zb,hb1,hb2⟩:=CU J2.hok eb2;refine ae (io (wpAny_runValue (codeAny_builtin OJ ?_)));unfold vJ.«proto.unchain»;refine ae (iw gb rfl hb2 ?_);rw[Dm (by decide)];refine ae (ao (ao ?_));have J3:=JQ (i:=2) (v:=.ref b) (tb':=.none) (cx':=some b) J2 upd_same ga3 z3' (by rw[gj (by decide)];exact h13) (by simp only[cxV];rw[Array.getElem?_setIfInBounds_self_of_lt (ot (by decide) z3')]);refine ae ?_;show bi _ _ (zQ (.ref a) 2 (.ref b)) _ _ _;refine jp ga3 rfl (ot (by decide) z3') ?_;refine yZ ?_;refine o Df σ _ _ a C fs (some b) J3 (.inl (.inl ⟨d,dn,upd_same,?_⟩)) q;rw[AE dn,AE dn,AE dn];exact ed
end
abbrev TH:=ag->ag->List (Str×V)->Option ag->TS
def PH (X:Cx) (hs:List ExceptHandler) (t:TH):Prop:=
 ∀(Df:List (ag×Obj)) (s:ak) (σ:St) (H:Hp) (D:Ends) (a C:ag) (fs:List (Str×V)) (cx:Option ag),Inv X Df σ H s->Noted H a C fs cx .none->t a C fs cx D σ H->
  bi (bo X.prog X.w) X.A (handleBy (.ref a) X.env hs) (SP X Df D) X.xe s
abbrev Cx.hd (X:Cx) (a:ag):Cx:=X.re (X.A.mark (some (.ref a))) false (xx (bo X.prog X.w) (X.A.mark (some (.ref a))) X.env (cameBackBy (bo X.prog X.w) X.A X.env X.xe))
theorem Inv.hd {X:Cx} {Df:List (ag×Obj)} {σ:St} {H:Hp} {s:ak} {a:ag} (I:Inv X Df σ H s):Inv (X.hd a) Df σ H s:=I.re I.ok.frames λz=>(bw z).elim
theorem Out.hd {X:Cx} {E:XK} {b L:ag} (o:Out X E) (ok:X.Ok) (hst:X.stack=X.env::X.outer) (hf:X.env.frame=some L):Out (X.hd b) E:=by
 intro Df σ H s a C fs cx I n q;have fin:∀H1 s1,Inv (X.hd b) Df σ H1 s1->Noted H1 a C fs cx (ge L)->cameBackBy (bo X.prog X.w) X.A X.env X.xe (.ref a) s1:=λH1 s1 I1 n1=>by
  obtain⟨T,d,n1',n2,n3,ea,ed,et⟩:=id n1;obtain⟨vs,ga,z,h1,h2⟩:=CU I1.hok ea;refine ae (iw ga rfl h1 ?_);rw[Dn (show¬((cj T==iq)=true) from by simp)];refine E6 (X:=X) (I1.unre ok) n1 λH2 s2 I2 n2=>?_;exact o Df σ H2 s2 a C fs cx I2 (.inr ⟨L,hf,by rw[hf] at n2;exact n2⟩) q
 rcases n with n|⟨L',e,n⟩
 ·exact QF (X:=X.hd b) (L:=L) hst hf I.ok.frames I n fin
 ·have e':L=L':=cz (hf.symm.trans e);subst e';exact IW (X:=X.hd b) hf I n (fin H s I n)
section
variable {X:Cx} {x n:Str} {Ch:ag} {np pos:Pos} {b0:dm} {suite:List dm} {Dg:List ExceptHandler} {tb:ag->TS} {tr:TH}
def gL (K:aa) (Ch:ag) (tb:ag->TS) (tr:TH):TH:=λa C fs cx D σ H=>∃b,oe K (.ref C) (.ref Ch)=some b/\(b=true->∀H',Noted H' a C fs cx .none->tb a D σ H')/\(b=false->tr a C fs cx D σ H)
theorem UE:PH X [] (λ_ _ _ _=>iP):=λ_ _ _ _ _ _ _ _ _ _ _ h=>h.elim
theorem eG (hg:Gl X x) (hm:X.mg x=some (.ref Ch)) (hs:∀a,PSs (X.hd a) (b0::suite) (tb a)) (hr:PH X Dg tr) (hd:(x==("__debug__":Str))=false:=by decide):
 PH X (.ExceptHandler (some (.Name x np)) none (b0::suite) pos::Dg) (gL X.K Ch tb tr):=by
 intro Df s σ H D a C fs cx I n ⟨b,hx,h1,h2⟩;obtain⟨T,d,n1',n2,n3,ea,ed,et⟩:=id n;obtain⟨vs,ga,z,q1,q2⟩:=CU I.hok ea;have t1:rh (bo X.prog X.w) s.heap (zH (.ref a)) (.ref C):=(uu ga).andThen .now;refine xE (wM (E0 (X:=X.hd a) I.hd hg hm ?_ hd)) (by intro q;cases q);refine(zd I.kIn t1 hx).here ?_;cases b with
 |false=>exact hr Df s σ H D a C fs cx I n (h2 rfl)
 |true=>
  refine codeAny_handlers_suite (E6 (X:=X.hd a) I.hd n λH1 s1 I1 n1=>?_);exact ig (hs a Df s1 σ H1 D I1 (h1 rfl H1 n1)) (λf s2 q=>SP.unre I.ok q) λ_ _ q=>q
def WE (K:aa) (Ch:ag) (i:Nat) (tb:ag->TS) (tr:TH):TH:=λa C fs cx D σ H=>∃b,oe K (.ref C) (.ref Ch)=some b/\
 (b=true->∀H',Noted H' a C fs cx .none->tb a { nx:=λ_ _=>False,rt:=D.rt } (σ.set i (some (.ref a))) H')/\(b=false->tr a C fs cx D σ H)
theorem YI {i:Nat} (hg:Gl X x) (hm:X.mg x=some (.ref Ch)) (hN:X.N.Nodup) (hi:X.N[i]? =some n) (hl:X.env.scope.names.lookup n=some .local) (hs:∀a E,PSs ((X.hd a).wish E) (b0::suite) (tb a)) (hr:PH X Dg tr)
 (hd:(x==("__debug__":Str))=false:=by decide):
 PH X (.ExceptHandler (some (.Name x np)) (some n) (b0::suite) pos::Dg) (WE X.K Ch i tb tr):=by
 intro Df s σ H D a C fs cx I n ⟨b,hx,h1,h2⟩;obtain⟨T,d,n1',n2,n3,ea,ed,et⟩:=id n;obtain⟨vs,ga,z,q1,q2⟩:=CU I.hok ea;have t1:rh (bo X.prog X.w) s.heap (zH (.ref a)) (.ref C):=(uu ga).andThen .now;refine xE (wM (E0 (X:=X.hd a) I.hd hg hm ?_ hd)) (by intro q;cases q);refine(zd I.kIn t1 hx).here ?_;cases b with
 |false=>exact hr Df s σ H D a C fs cx I n (h2 rfl)
 |true=>
  refine codeAny_handlers_suite_as (E6 (X:=X.hd a) I.hd n λH1 s1 I1 n1=>?_);refine JL (X:=X.hd a) I1 hN hi (.inl hl) (v:=.ref a) rfl (λs2 I2=>?_) (.inr hl);refine ig (hs a _ Df s2 _ H1 { nx:=λ_ _=>False,rt:=D.rt } (I2.wish _) (h1 rfl H1 n1)) (λf s3 q=>?_) λ_ _ q=>q;cases f with
  |next=>obtain⟨_,_,_,q⟩:=q;exact q.elim
  |brk=>obtain⟨_,_,_,q⟩:=q;exact q.elim
  |cont=>obtain⟨_,_,_,q⟩:=q;exact q.elim
  |ret u=>
   obtain⟨v,σ',H',I3,rv,q⟩:=q;have I4:Inv X Df σ' H' s3:=(Inv.unwish I3).unre I.ok;obtain⟨m,hn,_⟩:=id I4.loc;refine wpAny_nameGoes hl hn (by rw[I4.ok.kind];rfl) λh' m' hn' sb=>?_;refine⟨v,σ'.map λ_=>none,H',?_,rv,q⟩;have I5:Inv X Df (σ'.map λ_=>none) H' s3:=I4.weak (by simp) λj w e=>by
    rw[au] at e;cases q:σ'[j]? with
    |none=>rw[q] at e;cases e
    |some _=>rw[q] at e;cases e
   have neL:∀b,(∃o,X.s_0.heap.get? b=some o)->b≠X.env.locals:=λb ⟨o,e⟩=>cp (bv (bg e) I5.ok.above);have nH:∀b o,H' b=some o->b≠X.env.locals:=λb o e z=>by rw[z,I5.free] at e;cases e
   refine⟨I5.ok,I5.os,I5.bare,⟨λb o e n hb hx=>?_,λb o e n hb hx=>?_,I5.base.free,λb o e hx=>?_,I5.base.tups,I5.base.frzs,I5.base.tbls⟩,⟨m',hn',λj y w e1 e2 e3=>?_⟩,λy c e=>?_,I5.free,I5.freeC,λp hp=>?_,λb o e=>?_,I5.len⟩
   ·exact(sb.2 b (neL b ⟨o,e⟩)).trans (I5.base.keep b o e n hb hx)
   ·obtain⟨sl,e1⟩:=I5.base.slot b o e n hb hx;exact⟨sl,(sb.2 b (neL b ⟨o,e⟩)).trans e1⟩
   ·obtain⟨o',e1⟩:=I5.base.there b o e hx;exact⟨o',(sb.2 b (neL b ⟨o,e⟩)).trans e1⟩
   ·rw[au] at e2;cases q:σ'[j]? with
    |none=>rw[q] at e2;cases e2
    |some _=>rw[q] at e2;cases e2
   ·obtain⟨w,hw⟩:=I5.cell y c e;exact⟨w,hw.sameBut sb (I5.cne y c e)⟩
   ·obtain⟨e,n,ne,nf,d⟩:=I5.pin p hp;exact⟨(sb.2 p.1 ne).trans e,n,ne,nf,d⟩
   ·refine(I5.hok b o e).stay (λc u hc q=>(sb.2 c ?_).trans q) (λ_ q=>q) λ_ _ q=>q;rcases hc with rfl|hc
    ·exact nH c o e
    ·exact nH c _ hc
def tX (X:Cx) (Eb:XK) (t:TS) (th:TH):TS:=λD σ H=>t D σ H/\∀a C fs cx σ' H',Noted H' a C fs cx .none->Eb (.ref C) cx (xH fs)->σ'.length=X.N.length->th a C fs cx D σ' H'
theorem UF {Eb:XK} {L:ag} {body:List dm} {h0:ExceptHandler} {hs:List ExceptHandler} {t:TS} {th:TH} (hst:X.stack=X.env::X.outer) (hf:X.env.frame=some L)
 (hb:∀(pn:List (ag×Obj)) (E':ah->ak->Prop),Out (X.tr pn E') Eb->PSs (X.tr pn E') body t) (hh:PH X (h0::hs) th):PS X (.Try body (h0::hs) [] [] pos) (tX X Eb t th):=by
 intro Df s σ H D I ⟨h,hth⟩;rw[arm_exec_Try];refine ae (jx (wpAny_tryStmt_except ?_));have o:Out (X.tr (X.pn++Df) (λe s1=>bi (bo X.prog X.w) X.A (v6 e X.env) (λ_ s2=>bi (bo X.prog X.w) X.A (v8 e none) (λ_ s3=>bi (bo X.prog X.w) X.A (handleBy e X.env (h0::hs)) (SP X Df D) X.xe s3) X.xe s2) X.xe s1)) Eb:=by
  intro pins' σ' H' s' a C fs cx I' n q;have I1:Inv X Df σ' H' s':=I'.untr I.ok;have fin:∀H1 s1,Inv X Df σ' H1 s1->Noted H1 a C fs cx (ge L)->bi (bo X.prog X.w) X.A (v8 (.ref a) none) (λ_ s3=>bi (bo X.prog X.w) X.A (handleBy (.ref a) X.env (h0::hs)) (SP X Df D) X.xe s3) X.xe s1:=
   λH1 s1 J1 m1=>E6 J1 m1 λH2 s2 J2 m2=>hh Df s2 σ' H2 D a C fs cx J2 m2 (hth a C fs cx σ' H2 m2 q J2.len)
  rcases n with n|⟨L',e,n⟩
  ·exact QF hst hf I1.ok.frames I1 n fin
  ·have e':L=L':=cz (hf.symm.trans e);subst e';exact IW hf I1 n (fin H' s' I1 n)
 refine ig (hb _ _ o [] s σ H D I.tr h) (λf s1 q=>?_) λ_ _ q=>q;have q':SP X Df D f s1:=SP.untr I.ok q;cases f with
 |next=>exact rm q'
 |ret u=>exact q'
 |brk=>exact q'
 |cont=>exact q'
end
end L2
end
section
namespace L2
open PySem PySem.Spec PyProof.Rows
section
variable {prog:bb} {w:cb} {A:dj} {E:ah->ak->Prop} {s:ak}
theorem LU {it l:ag} {i:Nat} {items:Array ah} {x:ah} {Q:ah->ak->Prop} (hit:s.heap.IsTupleIter it l i) (hl:s.heap.IsTuple l items) (hx:items[i]? =some x)
 (hQ:∀h',h'.IsTupleIter it l (i+1)->ql it s.heap h'->Q x { s with heap:=h' }):bi (bo prog w) A (mf (.ref it)) Q E s:=by
 obtain⟨o,ho,hc,hd⟩:=id hit;obtain⟨ol,hol,_,nl,hdl⟩:=hl;unfold mf;refine ae (kl (name:=mm "__next__") hit.typeIs lu (oa lu hit.typeIs u6 ?_ (uS _)));show bi _ _ (field (.ref it) 0 >>= _) _ _ s;refine ae (iw ho hd (x:=.ref l) rfl ?_);show bi _ _ (if(cj l==iq)=true then _ else _) _ _ s;rw[Dn (show¬((cj l==iq)=true) from bw)];show bi _ _ (field (.ref it) 1 >>= _) _ _ s;refine ae (iw ho hd (x:=.int i 0) rfl ?_);show bi _ _ (seqItems? (.ref l) >>= _) _ _ s;refine ae (xb hol hdl ?_);simp only[jo,hx];refine ae (jp ho hd (by simp) (ao ⟨x,rfl,ao (hQ _ ?_ (qx ..))⟩));exact⟨_,je _ ho (um (ou hd _)),(ym ..).trans hc,by rw[ou hd];simp[ge]⟩
theorem NH {it l:ag} {i:Nat} {items:Array ah} {Q:ah->ak->Prop} (hh:A.handled=none) (hit:s.heap.IsTupleIter it l i) (hl:s.heap.IsTuple l items) (hx:items[i]? =none)
 (hE:∀h' e,Ce it s.heap h'->(∃o,h'.get? e=some o/\o.cls= .type "StopIteration")->E (.ref e) { s with heap:=h' }):bi (bo prog w) A (mf (.ref it)) Q E s:=by
 obtain⟨o,ho,hc,hd⟩:=id hit;obtain⟨ol,hol,_,nl,hdl⟩:=hl;unfold mf;refine ae (kl (name:=mm "__next__") hit.typeIs lu (oa lu hit.typeIs u6 ?_ (uS _)));show bi _ _ (field (.ref it) 0 >>= _) _ _ s;refine ae (iw ho hd (x:=.ref l) rfl ?_);show bi _ _ (if(cj l==iq)=true then _ else _) _ _ s;rw[Dn (show¬((cj l==iq)=true) from bw)];show bi _ _ (field (.ref it) 1 >>= _) _ _ s;refine ae (iw ho hd (x:=.int i 0) rfl ?_);show bi _ _ (seqItems? (.ref l) >>= _) _ _ s;refine ae (xb hol hdl ?_);simp only[jo,hx];refine ae (wpAny_rule (ae (jp ho hd (by simp) ?_)));show bi _ _ (newExc (.type "StopIteration") [] >>= _) _ _ _;refine ae ?_;simp only[newExc,newTuple];refine ae (gg ?_ (by size_fits));refine ae (m:=vv _ _) (wpAny_of_eq (a:=iq) (by first|rfl|(simp only[vv];rfl)) ?_);refine gg ?_ (by size_fits);simp only[raiseNew];refine ae (xR ?_);first|rw[show A.in1.handled=none from hh]|rw[hh]
 refine ae (ao (yZ ?_));exact hE _ _ (((qx ..).extBut.push _).push _) ⟨_,bj _ rfl,rfl⟩
theorem SC (hh:A.handled=none) (it l:ag) (hne:l≠it) (items:Array ah):
 Draws prog w A it [it,l] items.size (λi v=>items[i]? =some v) (λi h=>h.IsTupleIter it l i/\h.IsTuple l items) where
 live:=λ_ _ st=>let ⟨o,ho,_⟩:=st.1;⟨o,ho⟩
 frame:=λ_ _ _ st hk=>⟨st.1.at λo e=>hk it (by simp) o e,let ⟨o,e,r⟩:=st.2;⟨o,hk l (by simp) o e,r⟩⟩
 item:=λi s Q E hi st hQ=>by
  refine LU st.1 st.2 (x:=items[i]) (by simp[hi]) λh' hit' hs'=>?_;exact hQ _ h' s.toks (by simp[hi]) ⟨hit',let ⟨o,e,r⟩:=st.2;⟨o,(hs'.2 l hne).trans e,r⟩⟩ hs'
 done:=λs Q E st hE=>NH hh st.1 st.2 (by simp) hE
theorem YJ (l:ag) (items:Array ah) (n:Nat) (dct:Option ag) (sl:Array (Option ah)):
 Meets (vJ.«enumerate.__new__» ⟨[.type "enumerate",.ref l],[]⟩) (λ_ R s=>s.heap.get? l=some { cls:=.type "tuple",dict:=dct,data:=.seq items n,slots:=sl }/\
  R (.ok (.ret (.ref (s.heap.push { cls:=.type "tuple_iterator",data:=.fields #[.ref l,.int 0 0] }).objs.size)))
   { s with heap:=(s.heap.push { cls:=.type "tuple_iterator",data:=.fields #[.ref l,.int 0 0] }).push { cls:=.type "enumerate",data:=.fields #[.none,.bool false,.ref s.heap.objs.size,ge 0,.none,.none] } }):=
 .of_wp λprog w A R s h=>by
  obtain⟨hp,g,d,tk,os⟩:=s;obtain⟨hl,h⟩:=h;have hsub:=sub_enumerate;have hL:Heap.IsTuple (Shared.heap ⟨hp,g,d,tk,os⟩) l items:=⟨_,hl,rfl,n,rfl⟩
  wp_walk using my hl
  refine wpAny_stack_any λst=>ao ?_;split
  ·rename_i c _ _ _ _ _;cases (c==ji "enumerate")
   ·wp_walk using my hl,sg hL
    exact⟨_,rfl,h⟩
   ·wp_walk using my hl,sg hL
    exact⟨_,rfl,h⟩
  ·wp_walk using my hl,sg hL
   exact⟨_,rfl,h⟩
theorem UG {l:ag} {items:Array ah} {Q:ah->ak->Prop} (hL:s.heap.IsTuple l items)
 (h:∀h',x5 h' (s.heap.objs.size+1) s.heap.objs.size 0 .none->h'.IsTupleIter s.heap.objs.size l 0->h'.objs.size=s.heap.objs.size+2->
  (∀b o,s.heap.get? b=some o->h'.get? b=some o)->Q (.ref (s.heap.objs.size+1)) { s with heap:=h' }):
 bi (bo prog w) A (call (.type "enumerate") [.ref l]) Q E s:=by
 obtain⟨⟨c,dct,dt,sl⟩,hl,hc,n,hd⟩:=hL;replace hc:c= .type "tuple":=hc;replace hd:dt= .seq items n:=hd;subst hc hd;refine callType_new F.called_enumerate (by decide) (F.typeCall_enumerate_1 _) (F.newCall_enumerate_1 _) (λobj=>F.args_object_init_2 obj _) F.entry_enumerate_new (YJ l items n dct sl) ⟨hl,?_⟩;have hz:(s.heap.push { cls:=.type "tuple_iterator",data:=.fields #[.ref l,.int 0 0] }).objs.size=s.heap.objs.size+1:=fu ..;show _/\_;rw[hz];have he:x5 ((s.heap.push { cls:=.type "tuple_iterator",data:=.fields #[.ref l,.int 0 0] }).push
  { cls:=.type "enumerate",data:=.fields #[.none,.bool false,.ref s.heap.objs.size,ge 0,.none,.none] }) (s.heap.objs.size+1) s.heap.objs.size 0 .none:=by
  have:=bj (s.heap.push { cls:=.type "tuple_iterator",data:=.fields #[.ref l,.int 0 0] })
   (o:={ cls:=.type "enumerate",data:=.fields #[.none,.bool false,.ref s.heap.objs.size,ge 0,.none,.none] }) rfl
  rw[hz] at this;exact this
 refine⟨⟨_,he,rfl⟩,h _ he ⟨_,am _ (bj _ rfl),rfl,rfl⟩ (by rw[fu,hz]) λb o x=>am _ (am _ x)⟩
end
theorem O3 {X:Cx} {Df:List (ag×Obj)} {s:ak} {σ:St} {H:Hp} {E:ah->ak->Prop} {e it:ag} {fpD:List ag} {n i:Nat} {Pd:Nat->ah->Prop} {St':Nat->cr->Prop} {x:V} {elts:List Expr} {kk:Nat} {tpos:Pos}
 (I:Inv X Df σ H s) (hf:∀b∈[e,it],KG X Df H b) (D:Draws X.prog X.w X.A.in1 it fpD n Pd St') (he:∃old,x5 s.heap e it ((i:Nat):Int) old) (hst:St' i s.heap) (Dl:i<n) (hne:e≠it) (hef:e∉fpD) (hP:∀u,Pd i u->RelV x u):
 bi (bo X.prog X.w) X.A (xX (.ref e)) (λr s1=>∃u,r=some u/\bi (bo X.prog X.w) X.A (rn (.Tuple elts kk tpos) (.ref e) u) (λ_ s2=>∃T,u= .ref T/\Inv X Df σ (upd H T (.tup [.int (i:Nat),x])) s2/\H T=none/\
  (∃old,x5 s2.heap e it ((i+1:Nat):Int) old)/\St' (i+1) s2.heap/\∀b∈[e,it],(upd H T (.tup [.int (i:Nat),x])) b=none) E s1) E s:=by
 obtain⟨old,he⟩:=he;have hel:e<s.heap.objs.size:=bg he;have hil:it<s.heap.objs.size:=by obtain⟨_,q⟩:=D.live _ _ hst;exact bg q
 refine wpAny_pyNext_enum_itemD D he hst Dl hne hef λu h' tk hPu ho hst' hT hsz hk=>?_;refine⟨_,rfl,vq (s:={ s with heap:=h',toks:=tk+1 }) ho λh'' he' sb=>?_⟩;have hT2:h''.get? s.heap.objs.size=some { cls:=.type "tuple",data:=.seq #[.int i tk,u] }:=(sb.2 _ (om hel)).trans hT;have new:ObjOk X.prog X.w (upd H s.heap.objs.size (.tup [.int (i:Nat),x])) h'' s.heap.objs.size (.tup [.int (i:Nat),x]):=
  ⟨by show 2<=sizeLine;decide,[.int i tk,u],.cons ⟨_,rfl⟩ (.cons (hP u hPu) .nil),⟨_,hT2,rfl,_,rfl⟩⟩
 have I1:Inv X Df σ (upd H s.heap.objs.size (.tup [.int (i:Nat),x])) { s with heap:=h'',toks:=tk+1 }:=
  I.turnedNew (ch:=[e,it]) (λb ob hb q=>(sb.2 b (λz=>hb (by simp[z]))).trans (hk b ob (λz=>hb (by simp[z])) (λz=>hb (by simp[z])) q)) hf (aw _) new
 refine⟨_,rfl,I1,I.hok.fresh (aw _),⟨u,?_⟩,D.frame _ _ _ hst' λb hb o q=>(sb.2 b λz=>hef (z▸hb)).trans q,λb hb=>?_⟩
 ·have e1:((i+1:Nat):Int)=(i:Int)+1:=by omega
  rw[e1];exact he'
 ·have hb':b<s.heap.objs.size:=by
   have e':b=e\/b=it:=by simpa using hb
   rcases e' with z|z
   ·rw[z];exact hel
   ·rw[z];exact hil
  rw[AE (cp hb')];exact(hf b hb).1
def nW (x:Str):It:=⟨λi _=>i<x.cps.size,λi H v H'=>Ex2 λT c=>v= .ref T/\H T=none/\x.cps[i]? =some c/\H'=upd H T (.tup [.int (i:Nat),.str ⟨#[c]⟩]),λi _=>i=x.cps.size⟩
theorem SD {prog:bb} {w:cb} {A:dj} (hh:A.handled=none) (it:ag) (x:Str) (t:Tok):
 Draws prog w A it [it] x.cps.size (λi v=>∃c u,x.cps[i]? =some c/\v= .str ⟨#[c]⟩ u) (λi h=>h.IsStrIter it (uO x) x t i):=by
 cases ha:x.cps.all (·<128)
 ·have e:uO x="str_iterator":=by simp[uO,ha]
  rw[e];exact Draws.strWide hh it x t
 ·have e:uO x="str_ascii_iterator":=by simp[uO,ha]
  rw[e];exact Draws.strAscii hh it x t
theorem UH {P:bb} {w:cb} {K:aa} {elts:List Expr} {kk:Nat} {tpos:Pos} (x:Str) (t:Tok) (e it:ag):
 Turn P w K (.Tuple elts kk tpos) (nW x) [e,it] e (λi h=>(∃old,x5 h e it ((i:Nat):Int) old)/\h.IsStrIter it (uO x) x t i/\e≠it) where
 mem:=by simp
 obj:=λi h st b hb=>by
  obtain⟨⟨old,he⟩,⟨o,ho,hc,hd⟩,_⟩:=st;have e':b=e\/b=it:=by simpa using hb
  rcases e' with z|z
  ·rw[z];exact⟨_,he,λv q=>nomatch q⟩
  ·rw[z];exact⟨o,ho,λv q=>by rw[hd] at q;cases q⟩
 keep:=λi h h' st k=>let ⟨⟨old,he⟩,⟨o,ho,r⟩,hne⟩:=st;⟨⟨old,k e (by simp) _ he⟩,⟨o,k it (by simp) o ho,r⟩,hne⟩
 item:=by
  intro X hP hw hK hc i Df s σ H E I hf st hg;subst hP hw hK;obtain⟨he,hit,hne⟩:=st;have hg':i<x.cps.size:=hg;have hx:x.cps[i]? =some x.cps[i]:=by simp[hg']
  have D:=SD (prog:=X.prog) (w:=X.w) (A:=X.A.in1) (I.ok.hd hc) it x t;refine thn (O3 (x:=.str ⟨#[x.cps[i]]⟩) I hf D he hit hg' hne (by simpa using hne) λu ⟨c,tk,q,z⟩=>?_) λr s1 ⟨u,er,h1⟩=>⟨u,er,thn h1 λ_ s2 ⟨T,eu,J,nT,he',hst',fr⟩=>?_⟩
  ·rw[hx] at q;cases q;exact⟨tk,z⟩
  ·subst eu;exact⟨.ref T,_,J,rfl,⟨T,_,rfl,nT,hx,rfl⟩,⟨he',hst',hne⟩,fr⟩
 done:=by
  intro X hP hw hK hc i Df s σ H E I hf st hg;subst hP hw hK;obtain⟨⟨old,he⟩,hit,hne⟩:=st;obtain⟨f0,f1,f2,f3,f4,f5⟩:=hf it (by simp);have hge:i=x.cps.size:=hg;subst hge;have D:=SD (prog:=X.prog) (w:=X.w) (A:=X.A.in1) (I.ok.hd hc) it x t;exact wr D he hit λh' eb=>⟨rfl,I.turned (t':=s.toks) (λb o hb q=>eb b o hb q) f0 f1 f3 f4 f5⟩
 self:=λA i s Q E st h=>let ⟨⟨_,he⟩,_⟩:=st;mn he h
def jH (ta:TA):TI:=λσ H R=>ta σ H λvs H1=>∃x,vs=[.str x]/\R (nW x) H1
theorem Z6 {X:Cx} {e:Expr} {ta:TA} {p pos tpos:Pos} {elts:List Expr} {kk:Nat} (hg:Gl X "enumerate") (hm:X.mg "enumerate"=none) (ha:PA X [e] ta) (hs:be [e] X.env=[(false,eval e X.env)]:=by rfl):
 PI X (.Tuple elts kk tpos) (.Call (.Name "enumerate" p) [e] [] pos) (jH ta):=by
 intro Df s σ H R I h;refine zw (D9 I hg hm w6 (df (thn (ha pos Df s σ H _ I h) λus s1 ⟨vs,H1,I1,r1,q1⟩=>?_) hs rfl));obtain⟨x,ex,q⟩:=q1;subst ex;cases r1 with
 |cons r rr=>
  cases rr;obtain⟨t,rfl⟩:=r;refine call_enumerate_str λh' he hit hsz hk=>mn he ?_;have I2:Inv X Df σ H1 { s1 with heap:=h' }:=I1.kept (t':=s1.toks) hk;refine⟨s1.heap.objs.size+1,[s1.heap.objs.size+1,s1.heap.objs.size],_,_,H1,rfl,I2,UH x t (s1.heap.objs.size+1) s1.heap.objs.size,⟨⟨.none,he⟩,hit,v7 _⟩,λb hb=>?_,q⟩;have e':b=s1.heap.objs.size+1\/b=s1.heap.objs.size:=by simpa using hb
  have hle:s1.heap.objs.size<=b:=by
   rcases e' with z|z
   ·rw[z];exact lh _ _
   ·rw[z];exact aw _
  exact I1.fpOk hle (I1.hok.fresh hle)
def nX (K:aa) (a:ag):It:=⟨λi H=>Ex2 λ(xs:List V) (x:V)=>SqT K H a xs/\xs[i]? =some x,λi H v H'=>Ex2 λT x=>v= .ref T/\H T=none/\H'=upd H T (.tup [.int (i:Nat),x])/\∀xs,SqT K H a xs->xs[i]? =some x,λi H=>∃xs:List V,SqT K H a xs/\xs.length=i⟩
theorem UI {P:bb} {w:cb} {K:aa} {elts:List Expr} {kk:Nat} {tpos:Pos} (a e it:ag):
 Turn P w K (.Tuple elts kk tpos) (nX K a) [e,it] e (λi h=>(∃old,x5 h e it ((i:Nat):Int) old)/\h.IsTupleIter it a i/\e≠it) where
 mem:=by simp
 obj:=λi h st b hb=>by
  obtain⟨⟨old,he⟩,⟨o,ho,hc,hd⟩,_⟩:=st;have e':b=e\/b=it:=by simpa using hb
  rcases e' with z|z
  ·rw[z];exact⟨_,he,λv q=>nomatch q⟩
  ·rw[z];exact⟨o,ho,λv q=>by rw[hd] at q;cases q⟩
 keep:=λi h h' st k=>let ⟨⟨old,he⟩,hi,hne⟩:=st;⟨⟨old,k e (by simp) _ he⟩,hi.at λo q=>k it (by simp) o q,hne⟩
 item:=by
  intro X hP hw hK hc i Df s σ H E I hf st hg;subst hP hw hK;obtain⟨he,hit,hne⟩:=st;obtain⟨xs,x,hq,hx⟩:=hg;obtain⟨Di,rv,p,hz⟩:=I.tuple hq;obtain⟨u,hu,ru⟩:=rv.get hx;have hai:a≠it:=by
   rintro rfl;obtain⟨o,e1,c1,_⟩:=p;obtain⟨o2,e2,c2,_⟩:=hit;rw[e1] at e2;cases e2;rw[c1] at c2;exact absurd c2 (by decide)
  have hea:e≠a:=by
   rintro rfl;obtain⟨old,he⟩:=he;obtain⟨o,e1,c1,_⟩:=p;have he':=he;unfold x5 at he';rw[e1] at he';cases he';exact absurd (show ji "enumerate"=ji "tuple" from c1) (by decide)
  have D:=SC (prog:=X.prog) (w:=X.w) (A:=X.A.in1) (I.ok.hd hc) it a hai Di.toArray;have hi:i<Di.toArray.size:=by
   have:=(az.mp hu).1;simpa using this
  refine thn (O3 (x:=x) I hf D he ⟨hit,p⟩ hi hne (by simp[hne,hea]) λu' q=>?_) λr s1 ⟨u',er,h1⟩=>⟨u',er,thn h1 λ_ s2 ⟨T,eu,J,nT,he',hst',fr⟩=>?_⟩
  ·have q':Di[i]? =some u':=by simpa using q
   rw[hu] at q';cases q';exact ru
  ·subst eu;exact⟨.ref T,_,J,rfl,⟨T,x,rfl,nT,rfl,λys hy=>by rw[I.tuple_inj hy hq];exact hx⟩,⟨he',hst'.1,hne⟩,fr⟩
 done:=by
  intro X hP hw hK hc i Df s σ H E I hf st hg;subst hP hw hK;obtain⟨⟨old,he⟩,hit,hne⟩:=st;obtain⟨xs,hq,hx⟩:=hg;obtain⟨Di,rv,p,hz⟩:=I.tuple hq;obtain⟨f0,f1,f2,f3,f4,f5⟩:=hf it (by simp);have hai:a≠it:=by
   rintro rfl;obtain⟨o,e1,c1,_⟩:=p;obtain⟨o2,e2,c2,_⟩:=hit;rw[e1] at e2;cases e2;rw[c1] at c2;exact absurd c2 (by decide)
  have D:=SC (prog:=X.prog) (w:=X.w) (A:=X.A.in1) (I.ok.hd hc) it a hai Di.toArray;have hn:Di.toArray.size=i:=by rw[br, ←rv.length];exact hx
  exact wr D he ⟨by rw[hn];exact hit,p⟩ λh' eb=>⟨rfl,I.turned (t':=s.toks) (λb o hb q=>eb b o hb q) f0 f1 f3 f4 f5⟩
 self:=λA i s Q E st h=>let ⟨⟨_,he⟩,_⟩:=st;mn he h
def jI (K:aa) (ta:TA):TI:=λσ H R=>ta σ H λvs H1=>Ex2 λa xs=>vs=[.ref a]/\SqT K H1 a xs/\R (nX K a) H1
theorem SE {X:Cx} {e:Expr} {ta:TA} {p pos tpos:Pos} {elts:List Expr} {kk:Nat} (hg:Gl X "enumerate") (hm:X.mg "enumerate"=none) (ha:PA X [e] ta) (hs:be [e] X.env=[(false,eval e X.env)]:=by rfl):
 PI X (.Tuple elts kk tpos) (.Call (.Name "enumerate" p) [e] [] pos) (jI X.K ta):=by
 intro Df s σ H R I h;refine zw (D9 I hg hm w6 (df (thn (ha pos Df s σ H _ I h) λus s1 ⟨vs,H1,I1,r1,q1⟩=>?_) hs rfl));obtain⟨a,xs,ex,hq,q⟩:=q1;subst ex;cases r1 with
 |cons r rr=>
  cases rr;cases r;obtain⟨Di,rv,p',hz⟩:=I1.tuple hq;refine UG (show s1.heap.IsTuple a Di.toArray from p') λh' he hit hsz hk=>mn he ?_;have I2:Inv X Df σ H1 { s1 with heap:=h' }:=I1.kept (t':=s1.toks) hk;refine⟨s1.heap.objs.size+1,[s1.heap.objs.size+1,s1.heap.objs.size],_,_,H1,rfl,I2,UI a (s1.heap.objs.size+1) s1.heap.objs.size,⟨⟨.none,he⟩,hit,v7 _⟩,λb hb=>?_,q⟩;have e':b=s1.heap.objs.size+1\/b=s1.heap.objs.size:=by simpa using hb
  have hle:s1.heap.objs.size<=b:=by
   rcases e' with z|z
   ·rw[z];exact lh _ _
   ·rw[z];exact aw _
  exact I1.fpOk hle (I1.hok.fresh hle)
theorem E3 {J:It} {n:Nat} {g:TG} {tb:TS} {D:Ends} {σ:St} {H:Hp} (Pv:Nat->St->Hp->Prop) (h0:Pv 0 σ H) (hgo:∀i σ H,i<n->Pv i σ H->J.go i H) (hst:∀σ H,Pv n σ H->J.stop n H)
 (hs:∀i x σ H H',i<n->Pv i σ H->J.yld i H x H'->g x σ H' λσ2 H2=>tb { D with nx:=Pv (i+1),ct:=Pv (i+1),bk:=D.nx } σ2 H2) (hd:∀σ H,Pv n σ H->D.nx σ H):
 ∃W:Nat->Nat->St->Hp->Prop,(∃m,W 0 m σ H)/\∀i m σ H,W i m σ H->
  (J.stop i H/\D.nx σ H)\/(J.go i H/\∃N:St->Hp->Prop,(∀σ' H',N σ' H'->∃m',m'<m/\W (i+1) m' σ' H')/\∀x H',J.yld i H x H'->g x σ H' λσ2 H2=>tb { D with nx:=N,ct:=N,bk:=D.nx } σ2 H2):=by
 refine⟨λi m σ H=>m=n - i/\i<=n/\Pv i σ H,⟨n,by simp,du _,h0⟩,?_⟩;rintro i m σ H ⟨rfl,hi,p⟩;by_cases Dl:i<n
 ·exact .inr ⟨hgo i σ H Dl p,Pv (i+1),λσ' H' p'=>⟨n - (i+1),by omega,rfl,Dl,p'⟩,λx H' y=>hs i x σ H H' Dl p y⟩
 ·have e:i=n:=by omega
  subst e;exact .inl ⟨hst σ H p,hd σ H p⟩
def LcW (J:It) (g:TG) (tt:TT) (te:TE) (vs:List Nat) (σ:St) (H1:Hp) (D:ag) (Q:VK):Prop:=
 ∃W:Nat->Nat->Hp->Prop,(∃m,W 0 m (upd H1 D (.lst [])))/\∀i m H,W i m H->
  (J.stop i H/\Q (.ref D) H)\/(J.go i H/\∃Nx:Hp->Prop,(∀H',Nx H'->∃m',m'<m/\W (i+1) m' H')/\∀x H',J.yld i H x H'->g x (GP σ vs) H' λσ2 H2=>GP σ2 vs=GP σ vs/\tt σ2 H2 λb H3=>
   if b=true then te σ2 H3 λy H4=>∃acc,H4 D=some (.lst acc)/\acc.length<sizeLine/\Nx (upd H4 D (.lst (acc++[y]))) else Nx H3)
def nY (wi:TI) (g:TG) (tt:TT) (te:TE) (vs:List Nat):TE:=λσ H Q=>wi σ H λJ H1=>∀D,H1 D=none->LcW J g tt te vs σ H1 D Q
theorem jJ {X:Cx} {elt tg iter:Expr} {ifs:List Expr} {scope:jr} {own:List (Str×Nat)} {pos:Pos} {wi:TI} {g:TG} {tt:TT} {te:TE} (hc:X.calm=true) (hN:X.N.Nodup) (hi:PI X tg iter wi) (ok:BlkOk X.N X.env.scope scope own)
 (hg:∀(s:ak) (H:Hp) (C:ag) (cl:List (Str×ag)) (fp:List ag),PG (X.blk s H scope (ju scope cl C X.env) fp) tg g) (ht:∀(s:ak) (H:Hp) (C:ag) (cl:List (Str×ag)) (fp:List ag),PTs (X.blk s H scope (ju scope cl C X.env) fp) ifs tt)
 (he:∀(s:ak) (H:Hp) (C:ag) (cl:List (Str×ag)) (fp:List ag),PE (X.blk s H scope (ju scope cl C X.env) fp) elt te) (hs:∀x,ml iter X.env x=pure x:=by intro _;rfl):
 PE X (.ListComp elt [⟨tg,iter,ifs,0⟩] scope pos) (nY wi g tt te (own.map (·.2))):=nI hc hN hi ok hg ht he hs
theorem O4 {X:Cx} {i:Nat} {y:Str} {py:Pos} {elt tg iter:Expr} {ifs:List Expr} {scope:jr} {own:List (Str×Nat)} {pos spos:Pos} {wi:TI} {g:TG} {tt:TT} {te:TE} (hc:X.calm=true) (hN:X.N.Nodup) (hy:X.N[i]? =some y) (hyl:X.env.scope.names.lookup y=some .local)
 (hsw:qm (.ListComp elt [⟨tg,iter,ifs,0⟩] scope pos) (some (.Name y py)) spos.line X.env=pure true) (hi:PI X tg iter wi) (ok:BlkOk X.N X.env.scope scope own)
 (hg:∀(s:ak) (H:Hp) (C:ag) (cl:List (Str×ag)) (fp:List ag),PG (X.blk s H scope (ju scope cl C X.env) fp) tg g) (ht:∀(s:ak) (H:Hp) (C:ag) (cl:List (Str×ag)) (fp:List ag),PTs (X.blk s H scope (ju scope cl C X.env) fp) ifs tt)
 (he:∀(s:ak) (H:Hp) (C:ag) (cl:List (Str×ag)) (fp:List ag),PE (X.blk s H scope (ju scope cl C X.env) fp) elt te) (hs:∀x,ml iter X.env x=pure x:=by intro _;rfl):
 PS X (.Assign [.Name y py] (.ListComp elt [⟨tg,iter,ifs,0⟩] scope pos) spos) (ZH (nY wi g tt te (own.map (·.2))) (MY i)):=ZV hc hN hy hyl hsw hi ok hg ht he hs
theorem UJ {J:It} {n:Nat} {σ:St} {H1:Hp} {Q:VK} {g:TG} {tt:TT} {te:TE} {vs:List Nat} {D:ag} (Pv:Nat->Hp->Prop) (h0:Pv 0 (upd H1 D (.lst []))) (hgo:∀i H,i<n->Pv i H->J.go i H) (hst:∀H,Pv n H->J.stop n H)
 (hs:∀i x H H',i<n->Pv i H->J.yld i H x H'->g x (GP σ vs) H' λσ2 H2=>GP σ2 vs=GP σ vs/\tt σ2 H2 λb H3=>
  if b=true then te σ2 H3 λy H4=>∃acc,H4 D=some (.lst acc)/\acc.length<sizeLine/\Pv (i+1) (upd H4 D (.lst (acc++[y]))) else Pv (i+1) H3) (hd:∀H,Pv n H->Q (.ref D) H):
 LcW J g tt te vs σ H1 D Q:=by
 refine⟨λi m H=>m=n - i/\i<=n/\Pv i H,⟨n,by simp,du _,h0⟩,?_⟩;rintro i m H ⟨rfl,hi,p⟩;by_cases Dl:i<n
 ·exact .inr ⟨hgo i H Dl p,Pv (i+1),λH' p'=>⟨n - (i+1),by omega,rfl,Dl,p'⟩,λx H' y=>hs i x H H' Dl p y⟩
 ·have e:i=n:=by omega
  subst e;exact .inl ⟨hst H p,hd H p⟩
end L2
end
section
section
namespace L2
open PySem PySem.Spec PyProof.Rows
open PySem.W (WData Codec OpenSpec Well WellAll ReadsW ReadsAllW)
mutual
inductive Dw (K:aa) (H:Hp):V->oh->Prop
 |non:Dw K H .non .none
 |bl (b:Bool):Dw K H (.bl b) (.bool b)
 |int (i:Int):Dw K H (.int i) (.int i)
 |str (x:Str):Dw K H (.str x) (.str x)
 |byt (b:Array UInt8):Dw K H (.byt b) (.bytes b.toList)
 |lst {a:ag} {xs:List V} {ds:List oh}:SqL K H a xs->DwAll K H xs ds->Dw K H (.ref a) (.list ds)
 |tup {a:ag} {xs:List V} {ds:List oh}:SqT K H a xs->DwAll K H xs ds->Dw K H (.ref a) (.tuple ds)
inductive DwAll (K:aa) (H:Hp):List V->List oh->Prop
 |nil:DwAll K H [] []
 |cons {v:V} {vs:List V} {d:oh} {ds:List oh}:Dw K H v d->DwAll K H vs ds->DwAll K H (v::vs) (d::ds)
end
theorem WF {K:aa} {H:Hp}:∀ns:List Int,DwAll K H (ns.map V.int) (ns.map Da)
 |[]=>.nil
 |n::r=>.cons (.int n) (WF r)
theorem MM {K:aa} {H:Hp}:∀(ns:List Int) (xs:List V),DwAll K H xs (ns.map Da)->xs=ns.map V.int
 |[],xs,h=>by
  cases h;rfl
 |n::r,xs,h=>by
  cases h with
  |cons h1 h2=>
   cases h1;rw[MM r _ h2]<;>rfl
section
variable {P:bb} {w:cb} {K:aa} {H:Hp} {h:cr} {R:yM} {cl:Str->Option ag}
theorem jK {a:ag} {xs:List V} (hok:HOk P w H h) (KX:K.In h) (q:SqL K H a xs):∃(Di:List ah) (o:Obj) (n:Nat),Vals xs Di/\h.get? a=some o/\o.cls= .type "list"/\o.data= .seq Di.toArray n:=by
 rcases q with q|⟨o,Di,n,e,hc,_,hd,_,hv⟩
 ·obtain⟨_,Di,n,hv,e⟩:=(show ObjOk P w H h a (.lst xs) from q.ok hok)
  exact⟨Di,_,n,hv,e,rfl,rfl⟩
 ·exact⟨Di.toList,o,n,hv,KX _ _ e,hc,by simp[hd]⟩
theorem Z7 {a:ag} {xs:List V} (hok:HOk P w H h) (KX:K.In h) (q:SqT K H a xs):∃(Di:List ah) (o:Obj) (n:Nat),Vals xs Di/\h.get? a=some o/\o.cls= .type "tuple"/\o.data= .seq Di.toArray n:=by
 rcases q with q|⟨o,Di,n,e,hc,hd,_,hv⟩
 ·obtain⟨_,Di,hv,o,e,hc,n,hd⟩:=(show ObjOk P w H h a (.tup xs) from q.ok hok)
  exact⟨Di,o,n,hv,e,hc,hd⟩
 ·exact⟨Di.toList,o,n,hv,KX _ _ e,hc,by simp[hd]⟩
mutual
theorem Dw.reads (hok:HOk P w H h) (KX:K.In h):∀(d:oh) (v:V) (u:ah),Dw K H v d->RelV v u->∃as,ReadsW R cl h u d as
 | .none,_,_,x,r=>by
   cases x;cases r;exact⟨_,ReadsW.none⟩
 | .bool b,_,_,x,r=>by
   cases x;cases r;exact⟨_,ReadsW.bool b⟩
 | .int i,_,_,x,r=>by
   cases x;obtain⟨t,rfl⟩:=r;exact⟨_,ReadsW.int i t⟩
 | .str s,_,_,x,r=>by
   cases x;obtain⟨t,rfl⟩:=r;exact⟨_,ReadsW.str s t⟩
 | .bytes b,_,_,x,r=>by
   cases x;obtain⟨t,rfl⟩:=r;exact⟨_,ReadsW.bytes _ t⟩
 | .list ds,_,_,x,r=>by
   cases x with
   |lst hs ha=>
    cases r;obtain⟨Di,o,n,rv,ho,hc,hd⟩:=jK hok KX hs;obtain⟨as,hr⟩:=Dw.readsAll hok KX ds _ Di ha rv;exact⟨_,ReadsW.list ho hc hd hr⟩
 | .tuple ds,_,_,x,r=>by
   cases x with
   |tup hs ha=>
    cases r;obtain⟨Di,o,n,rv,ho,hc,hd⟩:=Z7 hok KX hs;obtain⟨as,hr⟩:=Dw.readsAll hok KX ds _ Di ha rv;exact⟨_,ReadsW.tuple ho hc hd hr⟩
 | .float _,_,_,x,_=>by cases x
 | .dict _,_,_,x,_=>by cases x
 | .bytearray _,_,_,x,_=>by cases x
 | .set _,_,_,x,_=>by cases x
 | .frozenset _,_,_,x,_=>by cases x
 | .obj _ _,_,_,x,_=>by cases x
theorem Dw.readsAll (hok:HOk P w H h) (KX:K.In h):∀(ds:List oh) (vs:List V) (us:List ah),DwAll K H vs ds->Vals vs us->∃as,ReadsAllW R cl h us ds as
 |[],_,_,x,r=>by
  cases x;cases r;exact⟨_,ReadsAllW.nil⟩
 |d::ds,_,_,x,r=>by
  cases x with
  |cons h1 h2=>
   cases r with
   |cons r1 r2=>
    obtain⟨as,q1⟩:=Dw.reads hok KX d _ _ h1 r1;obtain⟨bs,q2⟩:=Dw.readsAll hok KX ds _ _ h2 r2;exact⟨_,ReadsAllW.cons q1 q2⟩
end
end
mutual
def plW:oh->Bool
 | .none=>true
 | .bool _=>true
 | .int _=>true
 | .str _=>true
 | .bytes _=>true
 | .list xs=>LV xs
 | .tuple xs=>LV xs
 |_=>false
def LV:List oh->Bool
 |[]=>true
 |x::r=>plW x&&LV r
end
theorem SG {α:Type} {f:α->oh} (h:∀a,plW (f a)=true):∀l:List α,LV (l.map f)=true
 |[]=>rfl
 |x::r=>by
  show(plW (f x)&&LV (r.map f))=true;rw[h x,SG h r]<;>rfl
theorem HD:∀(c:Codec) (a:c.denote),plW (c.enc a)=true
 | .unit,_=>rfl
 | .bool,_=>rfl
 | .int _ _,_=>rfl
 | .nat _ _,_=>rfl
 | .u8,_=>rfl
 | .bytes _ _,_=>rfl
 | .text _ _ _ _,_=>rfl
 | .list _ _ c,a=>SG (λx=>HD c x) a
 | .pair c d,a=>by
   show(plW (c.enc a.1)&&(plW (d.enc a.2)&&true))=true;rw[HD c a.1,HD d a.2]<;>rfl
 | .triple c d e,a=>by
   show(plW (c.enc a.1)&&(plW (d.enc a.2.1)&&(plW (e.enc a.2.2)&&true)))=true;rw[HD c a.1,HD d a.2.1,HD e a.2.2]<;>rfl
 | .option c,none=>rfl
 | .option c,some x=>HD c x
theorem O5:∀(cs:List Codec) (a:uT cs),LV (ug cs a)=true
 |[],_=>rfl
 |c::cs,a=>by
  show(plW (c.enc a.1)&&LV (ug cs a.2))=true;rw[HD c a.1,O5 cs a.2]<;>rfl
theorem IX:∀{xs:List oh} {d:oh},d∈xs->d.weight<=uU xs
 |[],d,h=>absurd h (by simp)
 |x::r,d,h=>by
  show d.weight<=x.weight+1+uU r;rcases bq.mp h with e|m
  ·rw[e];omega
  ·have z:=IX m;omega
def toV:ah->V
 | .none=>.non
 | .bool b=>.bl b
 | .int i _=>.int i
 | .str x _=>.str x
 | .bytes b _=>.byt b
 | .ref a=>.ref a
 |_=>.non
def OkU (A:List ag):ah->Prop
 | .none=>True
 | .bool _=>True
 | .int _ _=>True
 | .str _ _=>True
 | .bytes _ _=>True
 | .ref a=>a∈A
 |_=>False
theorem OkU.mono {A B:List ag} (h:∀a∈A,a∈B):∀{u:ah},OkU A u->OkU B u:=λ{u} x=>by
 cases u with
 |ref a=>exact h a x
 |none=>trivial
 |bool b=>trivial
 |int i t=>trivial
 |str s t=>trivial
 |bytes b t=>trivial
 |_=>exact fk x
theorem Z8 {A:List ag} {u:ah} (x:OkU A u):RelV (toV u) u:=by
 cases u with
 |ref a=>rfl
 |none=>rfl
 |bool b=>rfl
 |int i t=>exact⟨t,rfl⟩
 |str s t=>exact⟨t,rfl⟩
 |bytes b t=>exact⟨t,rfl⟩
 |_=>exact fk x
theorem GG {A:List ag}:∀{vs:List ah},(∀u∈vs,OkU A u)->Vals (vs.map toV) vs
 |[],_=>.nil
 |u::r,h=>.cons (Z8 (h u (bc ..))) (GG λx hx=>h x (aq _ hx))
def ArgOb (h:cr) (A:List ag) (a:ag):Prop:=∃vs:List ah,vs.length<=sizeLine/\(∀u∈vs,OkU A u)/\
 (h.get? a=some { cls:=.type "list",data:=.seq vs.toArray }\/h.get? a=some { cls:=.type "tuple",data:=.seq vs.toArray })
theorem ArgOb.mono {h:cr} {A B:List ag} {a:ag} (k:∀a∈A,a∈B) (x:ArgOb h A a):ArgOb h B a:=by
 obtain⟨vs,h1,h2,h3⟩:=x;exact⟨vs,h1,λu hu=>(h2 u hu).mono k,h3⟩
theorem FT {P:xf} {h:cr}:∀{vs:List ah} {ds:List oh},wt P h vs ds->vs.length=ds.length
 |_,_,.nil=>rfl
 |_,_,.cons _ b=>by
  show _+1=_+1;rw[FT b]
theorem O6 {P:xf} {h:cr} {v:ah} {ds:List oh} (x:Well P h v (.list ds)):∃(a:ag) (vs:List ah),v= .ref a/\h.get? a=some { cls:=.type "list",data:=.seq vs.toArray }/\wt P h vs ds:=by
 cases x with
 |list ho hall=>exact⟨_,_,rfl,ho,hall⟩
theorem NI {P:xf} {h:cr} {v:ah} {ds:List oh} (x:Well P h v (.tuple ds)):∃(a:ag) (vs:List ah),v= .ref a/\h.get? a=some { cls:=.type "tuple",data:=.seq vs.toArray }/\wt P h vs ds:=by
 cases x with
 |tuple ho hall=>exact⟨_,_,rfl,ho,hall⟩
theorem O7 {P:xf} {h:cr} {us:List ah} {d:oh} {ds:List oh} (x:wt P h us (d::ds)):∃(v:ah) (vs:List ah),us=v::vs/\Well P h v d/\wt P h vs ds:=by
 cases x with
 |cons a b=>exact⟨_,_,rfl,a,b⟩
theorem WG {n:Nat} (h:n<=1048576):n<=sizeLine:=cu h (by decide)
section
variable {P:xf} {h:cr}
mutual
theorem Z9:∀(d:oh) (v:ah),Well P h v d->plW d=true->d.weight<=1048576->∃A:List ag,OkU A v/\∀a∈A,ArgOb h A a
 | .none,_,x,_,_=>by
   cases x;exact⟨[],trivial,λa m=>absurd m (by simp)⟩
 | .bool b,_,x,_,_=>by
   cases x;exact⟨[],trivial,λa m=>absurd m (by simp)⟩
 | .int i,_,x,_,_=>by
   cases x;exact⟨[],trivial,λa m=>absurd m (by simp)⟩
 | .str s,_,x,_,_=>by
   cases x;exact⟨[],trivial,λa m=>absurd m (by simp)⟩
 | .bytes b,_,x,_,_=>by
   cases x;exact⟨[],trivial,λa m=>absurd m (by simp)⟩
 | .list ds,_,x,p,z=>by
   obtain⟨a,vs,rfl,ho,hall⟩:=O6 x;have z2:uU ds<=1048576:=z;obtain⟨A,h1,h2⟩:=JU ds _ hall p λd hd=>cu (IX hd) z2;have k:∀b∈A,b∈a::A:=λb hb=>aq _ hb;refine⟨a::A,bc ..,λb hb=>?_⟩;rcases bq.mp hb with e|m
   ·rw[e];exact⟨vs,WG (by rw[FT hall];exact cu (uV ds) z2),λu hu=>(h1 u hu).mono k,.inl ho⟩
   ·exact(h2 b m).mono k
 | .tuple ds,_,x,p,z=>by
   obtain⟨a,vs,rfl,ho,hall⟩:=NI x;have z2:uU ds<=1048576:=z;obtain⟨A,h1,h2⟩:=JU ds _ hall p λd hd=>cu (IX hd) z2;have k:∀b∈A,b∈a::A:=λb hb=>aq _ hb;refine⟨a::A,bc ..,λb hb=>?_⟩;rcases bq.mp hb with e|m
   ·rw[e];exact⟨vs,WG (by rw[FT hall];exact cu (uV ds) z2),λu hu=>(h1 u hu).mono k,.inr ho⟩
   ·exact(h2 b m).mono k
 | .float _,_,_,p,_=>fj (show false=true from p)
 | .dict _,_,_,p,_=>fj (show false=true from p)
 | .bytearray _,_,_,p,_=>fj (show false=true from p)
 | .set _,_,_,p,_=>fj (show false=true from p)
 | .frozenset _,_,_,p,_=>fj (show false=true from p)
 | .obj _ _,_,_,p,_=>fj (show false=true from p)
theorem JU:∀(ds:List oh) (vs:List ah),wt P h vs ds->LV ds=true->(∀d∈ds,d.weight<=1048576)->∃A:List ag,(∀u∈vs,OkU A u)/\∀a∈A,ArgOb h A a
 |[],_,x,_,_=>by
  cases x;exact⟨[],λu m=>absurd m (by simp),λa m=>absurd m (by simp)⟩
 |d::ds,_,x,p,z=>by
  obtain⟨v,vs,rfl,x1,x2⟩:=O7 x;have q:plW d=true/\LV ds=true:=xg.mp p;obtain⟨A,a1,a2⟩:=Z9 d v x1 q.1 (z d (bc ..));obtain⟨B,b1,b2⟩:=JU ds vs x2 q.2 λe he=>z e (aq _ he);have kA:∀b∈A,b∈A++B:=λb hb=>bu.mpr (.inl hb);have kB:∀b∈B,b∈A++B:=λb hb=>bu.mpr (.inr hb);refine⟨A++B,λu hu=>?_,λb hb=>?_⟩
  ·rcases bq.mp hu with e|m
   ·rw[e];exact a1.mono kA
   ·exact(b1 u m).mono kB
  ·rcases bu.mp hb with m|m
   ·exact(a2 b m).mono kA
   ·exact(b2 b m).mono kB
end
end
def eH (o:Obj):Option HO:=match o.data with
 | .seq vs _=>if(o.cls==ji "list")=true then some (.frz o (.lst (vs.toList.map toV))) else some (.frz o (.tup (vs.toList.map toV)))
 |_=>none
def GH (K:aa) (h:cr) (A:List ag):Hp:=λb=>if b∈A then(if(K.lookup b).isNone=true then(h.get? b).bind eH else none) else none
def gM (H:Hp):Prop:=∀b,H b=none\/Ex2 λo u=>H b=some (.frz o u)
theorem SH (vs:List ah):eH { cls:=.type "list",data:=.seq vs.toArray }=some (.frz { cls:=.type "list",data:=.seq vs.toArray } (.lst (vs.map toV))):=by
 show(if(ji "list"==ji "list")=true then some (HO.frz { cls:=.type "list",data:=.seq vs.toArray } (.lst (vs.toArray.toList.map toV))) else some (HO.frz { cls:=.type "list",data:=.seq vs.toArray } (.tup (vs.toArray.toList.map toV))))=_;rw[Dm (beq_self_eq_true _)]
theorem SI (vs:List ah):eH { cls:=.type "tuple",data:=.seq vs.toArray }=some (.frz { cls:=.type "tuple",data:=.seq vs.toArray } (.tup (vs.map toV))):=by
 show(if(ji "tuple"==ji "list")=true then some (HO.frz { cls:=.type "tuple",data:=.seq vs.toArray } (.lst (vs.toArray.toList.map toV))) else some (HO.frz { cls:=.type "tuple",data:=.seq vs.toArray } (.tup (vs.toArray.toList.map toV))))=_;rw[Dn (by decide)]
section
variable {P:bb} {w:cb} {K:aa} {h:cr} {A:List ag}
theorem MO {b:ag} {o:Obj} (hb:b∈A) (hk:K.lookup b=none) (e:h.get? b=some o):GH K h A b=eH o:=by
 unfold GH;rw[Dm hb,hk,Dm (show(none:Option Obj).isNone=true from rfl),e]<;>rfl
theorem eI {b:ag} {u:HO} (q:GH K h A b=some u):b∈A/\K.lookup b=none:=by
 unfold GH at q;by_cases hb:b∈A
 ·rw[Dm hb] at q;cases hk:K.lookup b with
  |none=>exact⟨hb,rfl⟩
  |some o=>
   rw[hk,Dn (by simp)] at q;cases q
 ·rw[Dn hb] at q;cases q
theorem MP (ar:∀a∈A,ArgOb h A a) {b:ag} {u:HO} (q:GH K h A b=some u):K.lookup b=none/\∃vs:List ah,vs.length<=sizeLine/\(∀u∈vs,OkU A u)/\
 ((h.get? b=some { cls:=.type "list",data:=.seq vs.toArray }/\u= .frz { cls:=.type "list",data:=.seq vs.toArray } (.lst (vs.map toV)))\/
  (h.get? b=some { cls:=.type "tuple",data:=.seq vs.toArray }/\u= .frz { cls:=.type "tuple",data:=.seq vs.toArray } (.tup (vs.map toV)))):=by
 obtain⟨hb,hk⟩:=eI q;obtain⟨vs,h1,h2,h3⟩:=ar b hb;refine⟨hk,vs,h1,h2,?_⟩;rcases h3 with e|e
 ·rw[MO hb hk e,SH] at q;exact .inl ⟨e,(cz q).symm⟩
 ·rw[MO hb hk e,SI] at q;exact .inr ⟨e,(cz q).symm⟩
theorem YK (ar:∀a∈A,ArgOb h A a):gM (GH K h A):=λb=>by
 cases q:GH K h A b with
 |none=>exact .inl rfl
 |some u=>
  obtain⟨_,vs,_,_,⟨_,e⟩|⟨_,e⟩⟩:=MP ar q
  ·exact .inr ⟨_,_,by rw[e]⟩
  ·exact .inr ⟨_,_,by rw[e]⟩
theorem eJ (ar:∀a∈A,ArgOb h A a):HOk P w (GH K h A) h:=λb u q=>by
 obtain⟨_,vs,h1,h2,⟨e,rfl⟩|⟨e,rfl⟩⟩:=MP ar q
 ·exact⟨e,by rw[ai];exact h1,vs,_,GG h2,e⟩
 ·exact⟨e,by rw[ai];exact h1,vs,GG h2,_,e,rfl,_,rfl⟩
theorem MQ {c c':ah} {vs us:List ah} (e:(some { cls:=c,data:=.seq vs.toArray }:Option Obj)=some { cls:=c',data:=.seq us.toArray }):c=c'/\vs=us:=by
 have e1:=cz e;have e2:c=c':=congrArg Obj.cls e1;have e3:Data.seq vs.toArray=Data.seq us.toArray:=congrArg Obj.data e1;injection e3 with e4;refine⟨e2,?_⟩;have e5:=congrArg yc e4;simpa using e5
theorem tY (KX:K.In h) (ar:∀a∈A,ArgOb h A a) {a:ag} {vs:List ah} (ha:a∈A) (e:h.get? a=some { cls:=.type "list",data:=.seq vs.toArray }):(∀u∈vs,OkU A u)/\SqL K (GH K h A) a (vs.map toV):=by
 obtain⟨us,h1,h2,h3⟩:=ar a ha;have hu:us=vs:=by
  rcases h3 with q|q
  ·rw[e] at q;exact(MQ q).2.symm
  ·rw[e] at q;exact absurd (zW (MQ q).1) (by decide)
 subst hu;refine⟨h2,?_⟩;cases hk:K.lookup a with
 |none=>exact .inl (.inr ⟨_,by rw[MO ha hk e,SH]⟩)
 |some o=>
  have e2:=KX a o hk;rw[e] at e2;obtain rfl:=cz e2;exact .inr ⟨_,us.toArray,_,hk,rfl,rfl,rfl,by rw[br];exact h1,by simpa using GG h2⟩
theorem tZ (KX:K.In h) (ar:∀a∈A,ArgOb h A a) {a:ag} {vs:List ah} (ha:a∈A) (e:h.get? a=some { cls:=.type "tuple",data:=.seq vs.toArray }):(∀u∈vs,OkU A u)/\SqT K (GH K h A) a (vs.map toV):=by
 obtain⟨us,h1,h2,h3⟩:=ar a ha;have hu:us=vs:=by
  rcases h3 with q|q
  ·rw[e] at q;exact absurd (zW (MQ q).1) (by decide)
  ·rw[e] at q;exact(MQ q).2.symm
 subst hu;refine⟨h2,?_⟩;cases hk:K.lookup a with
 |none=>exact .inl (.inr ⟨_,by rw[MO ha hk e,SI]⟩)
 |some o=>
  have e2:=KX a o hk;rw[e] at e2;obtain rfl:=cz e2;exact .inr ⟨_,us.toArray,_,hk,rfl,rfl,by rw[br];exact h1,by simpa using GG h2⟩
mutual
theorem jL {Pm:xf} (KX:K.In h) (ar:∀a∈A,ArgOb h A a):∀(d:oh) (v:ah),Well Pm h v d->plW d=true->OkU A v->Dw K (GH K h A) (toV v) d
 | .none,_,x,_,_=>by
   cases x;exact .non
 | .bool b,_,x,_,_=>by
   cases x;exact .bl b
 | .int i,_,x,_,_=>by
   cases x;exact .int i
 | .str s,_,x,_,_=>by
   cases x;exact .str s
 | .bytes b,_,x,_,_=>by
   cases x;have z:=Dw.byt (K:=K) (H:=GH K h A) b.toArray;exact z
 | .list ds,_,x,p,hu=>by
   obtain⟨a,vs,rfl,ho,hall⟩:=O6 x;obtain⟨h2,hs⟩:=tY KX ar hu ho;exact .lst hs (QG KX ar ds _ hall p h2)
 | .tuple ds,_,x,p,hu=>by
   obtain⟨a,vs,rfl,ho,hall⟩:=NI x;obtain⟨h2,hs⟩:=tZ KX ar hu ho;exact .tup hs (QG KX ar ds _ hall p h2)
 | .float _,_,_,p,_=>fj (show false=true from p)
 | .dict _,_,_,p,_=>fj (show false=true from p)
 | .bytearray _,_,_,p,_=>fj (show false=true from p)
 | .set _,_,_,p,_=>fj (show false=true from p)
 | .frozenset _,_,_,p,_=>fj (show false=true from p)
 | .obj _ _,_,_,p,_=>fj (show false=true from p)
theorem QG {Pm:xf} (KX:K.In h) (ar:∀a∈A,ArgOb h A a):∀(ds:List oh) (vs:List ah),wt Pm h vs ds->LV ds=true->(∀u∈vs,OkU A u)->DwAll K (GH K h A) (vs.map toV) ds
 |[],_,x,_,_=>by
  cases x;exact .nil
 |d::ds,_,x,p,hu=>by
  obtain⟨v,vs,rfl,x1,x2⟩:=O7 x;have q:plW d=true/\LV ds=true:=xg.mp p;exact .cons (jL KX ar d v x1 q.1 (hu _ (bc ..))) (QG KX ar ds vs x2 q.2 λu m=>hu u (aq _ m))
end
end
theorem NJ {ds:List oh} (h:WData.layableAll ds=true):∀d∈ds,d.weight<=1048576:=λd hd=>
 (PySem.W.layableW_iff.mp (jv.mp h d hd)).2.2
theorem NK:∀(cs:List Codec) (a:uT cs),(ug cs a).length=cs.length
 |[],_=>rfl
 |c::cs,a=>by
  show(ug cs a.2).length+1=cs.length+1;rw[NK cs a.2]
end L2
end
end
section
namespace L2
open PySem PySem.Spec PyProof.Rows
section
variable {P:bb} {w:cb} {K:aa} {mg:Str->Option ah} {base:cr}
theorem Fun.okx {x qual:Str} {st:dm} {f:ag} {fd:fv} {N ps:List Str} {k:Nat} {sp:Sp} (F:Fun K x qual st f fd) (S:FnScope N ps (AH st))
 (hbody:∀(Dk:ah) (A:dj) (outer:List Env) (s:ak) (H:Hp) (vs:List V) (Q:VK) (E:XK),Room k (A.deeper (vk qual (AH st) s.heap.objs.size f Dk))->sp vs H Q E->
  ∃t,PSs (OH (CX1 P w) P w K mg base N qual (AH st) f Dk A outer s H E) (BX st) t/\t { nx:=λ_ H'=>Q .non H',rt:=Q } (FQ N vs) H) (len:∀vs H Q E,sp vs H Q E->vs.length=ps.length:=by intro _ _ _ _ h;cases h;rename_i h;exact congrArg qg h.1):FnOk P w K mg base (CX1 P w) (k+1) f fd ps sp:=by
 obtain⟨oc,od,kV,doc,pm,an,Dk,ct,osl,rfl,lk,hcd⟩:=F.ex;exact gG lk hcd S len λA outer s H vs Q E hr hsp=>hbody Dk A outer s H vs Q E hr hsp
theorem Fun.oku {x qual:Str} {st:dm} {f:ag} {fd:fv} {N ps:List Str} {k:Nat} {sp:Sp} (F:Fun K x qual st f fd) (S:FnScope N ps (AH st))
 (hbody:∀(Dk:ah) (A:dj) (outer:List Env) (s:ak) (H:Hp) (vs:List V) (Q:VK) (E:XK),RoomU k (A.deeper (vk qual (AH st) s.heap.objs.size f Dk))->sp vs H Q E->
  ∃t,PSs (R9 (CX1 P w) P w K mg base N qual (AH st) f Dk A outer s H E) (BX st) t/\t { nx:=λ_ H'=>Q .non H',rt:=Q } (FQ N vs) H) (len:∀vs H Q E,sp vs H Q E->vs.length=ps.length:=by intro _ _ _ _ h;cases h;rename_i h;exact congrArg qg h.1):FnOkU P w K mg base (CX1 P w) (k+1) f fd ps sp:=by
 obtain⟨oc,od,kV,doc,pm,an,Dk,ct,osl,rfl,lk,hcd⟩:=F.ex;exact jF lk hcd S len λA outer s H vs Q E hr hsp=>hbody Dk A outer s H vs Q E hr hsp
end
theorem out_cxU {P:bb} {w:cb} {K:aa} {mg:Str->Option ah} {base:cr} {N:List Str} {qual:Str} {scope:jr} {f:ag} {cd:ah} {A:dj} {outer:List Env} {s:ak} {H:Hp} {E:XK}:
 Out (R9 (CX1 P w) P w K mg base N qual scope f cd A outer s H E) E:=by
 intro Df σ H1 s1 a C fs cx I n q;refine R8 (C:=C) (fs:=fs) (cx:=cx) (L:=s.heap.objs.size) rfl rfl I.ok.frames I ?_ λH' s' I' n'=>?_
 ·rcases n with n|⟨L,e,n⟩
  ·exact .inl n
  ·have e':s.heap.objs.size=L:=cz e;subst e';exact .inr n
 ·exact⟨a,C,fs,cx,H',rfl,I'.os,I'.bare,I'.base,I'.hok,n',q⟩
def Def (P:bb) (w:cb) (K:aa) (mg:Str->Option ah) (base:cr) (k:Nat) (x:Str) (ps:List Str) (sp:Sp):Prop:=
 Ex2 λf fd=>mg x=some (.ref f)/\fi K (.ref f)=true/\Binds K fd ps []/\FnOk P w K mg base (CX1 P w) k f fd ps sp
def Mth (P:bb) (w:cb) (K:aa) (mg:Str->Option ah) (base:cr) (k:Nat) (C:ag) (m:Str) (ps:List Str) (sp:Sp):Prop:=
 Cls K C/\Ex2 λf fd=>Meth K C m f/\Binds K fd ps []/\FnOk P w K mg base (CX1 P w) k f fd ps sp
def Mkr (P:bb) (w:cb) (K:aa) (mg:Str->Option ah) (base:cr) (k:Nat) (C:ag) (x:Str) (ps:List Str) (sp:Sp):Prop:=
 mg x=some (.ref C)/\Ex2 λf fd=>Mk K C f/\Binds K fd ps []/\FnOk P w K mg base (CX1 P w) k f fd ps sp
def XMr (P:bb) (w:cb) (K:aa) (mg:Str->Option ah) (base:cr) (k:Nat) (C:ag) (x:Str) (ps:List Str) (sp:Sp):Prop:=
 mg x=some (.ref C)/\XCls K C/\Ex2 λf fd=>XMk K C f/\Binds K fd ps []/\FnOkU P w K mg base (CX1 P w) k f fd ps sp
section
variable {X:Cx} {k k':Nat} {x m:Str} {C:ag} {ps:List Str} {sp:Sp} {E:XK} {p pos apos:Pos} {e o:Expr} {es:List Expr} {ta:TE} {t:TA}
theorem Def.call (D:Def X.prog X.w X.K X.mg X.base k x ps sp) (hr:Room k' X.A) (hx:Out X E) (ha:PA X (e::es) t) (hk:k<=k':=by decide) (hg:Gl X x:=by rfl) (hdb:(x==("__debug__":Str))=false:=by decide)
 (he:be (e::es) X.env=(false,eval e X.env)::be es X.env:=by rfl) (hpl:(ie pos (be es X.env)).any (·.1)=false:=by rfl):PE X (.Call (.Name x p) (e::es) [] pos) (LD sp [] E t):=by
 obtain⟨f,fd,hm,hkp,hb,F⟩:=D;exact dZ F (hr.mono hk) hg hm hkp hb .nil hx.passes ha hdb he hpl
theorem Mth.call {pl:Sem Bool} (D:Mth X.prog X.w X.K X.mg X.base k C m ps sp) (ho:PE X o ta) (hr:Room k' X.A) (hx:Out X E) (ha:PA X (e::es) t) (hk:k<=k':=by decide)
 (hst:be (e::es) X.env=(false,eval e X.env)::be es X.env:=by rfl) (hpl:(ie pos (be es X.env)).any (·.1)=false:=by rfl)
 (ht:eval (.Call (.Attribute o m apos) (e::es) [] pos) X.env=(do
  let ov←eval o X.env
  nq apos.atName
  let (f,first)←mj [ov] (kz ov m pl)
  nz pos f first (ie pos (be (e::es) X.env)) (kf pos (gr [] X.env))):=by rfl):
 PE X (.Call (.Attribute o m apos) (e::es) [] pos) (RS C m sp [] E ta t):=by
 obtain⟨c,f,fd,hm,hb,F⟩:=D;exact d3 ho c hm F (hr.mono hk) hb .nil hx.passes ha hst hpl ht
theorem Mth.call0 {pl:Sem Bool} (D:Mth X.prog X.w X.K X.mg X.base k C m ps sp) (ho:PE X o ta) (hr:Room k' X.A) (hx:Out X E) (hk:k<=k':=by decide)
 (ht:eval (.Call (.Attribute o m apos) [] [] pos) X.env=(do
  let ov←eval o X.env
  nq apos.atName
  let (f,first)←mj [ov] (kz ov m pl)
  nz pos f first (ie pos (be [] X.env)) (kf pos (gr [] X.env))):=by rfl):
 PE X (.Call (.Attribute o m apos) [] [] pos) (RS C m sp [] E ta EQ):=by
 obtain⟨c,f,fd,hm,hb,F⟩:=D;exact ZP ho c hm F (hr.mono hk) hb .nil hx.passes ht
theorem Mkr.call (D:Mkr X.prog X.w X.K X.mg X.base k C x ps sp) (hr:Room k' X.A) (hx:Out X E) (ha:PA X (e::es) t) (hk:k+1<=k':=by decide) (hg:Gl X x:=by rfl) (hdb:(x==("__debug__":Str))=false:=by decide)
 (he:be (e::es) X.env=(false,eval e X.env)::be es X.env:=by rfl) (hpl:(ie pos (be es X.env)).any (·.1)=false:=by rfl):PE X (.Call (.Name x p) (e::es) [] pos) (V7 C sp [] E t):=by
 obtain⟨hm,f,fd,M,hb,F⟩:=D;exact d5 M F (hr.mono hk) hg hm hb .nil hx.passes ha hdb he hpl
theorem Mkr.call0 (D:Mkr X.prog X.w X.K X.mg X.base k C x ps sp) (hr:Room k' X.A) (hx:Out X E) (hk:k+1<=k':=by decide) (hg:Gl X x:=by rfl) (hdb:(x==("__debug__":Str))=false:=by decide):
 PE X (.Call (.Name x p) [] [] pos) (V7 C sp [] E EQ):=by
 obtain⟨hm,f,fd,M,hb,F⟩:=D;exact ZQ M F (hr.mono hk) hg hm hb .nil hx.passes hdb
theorem XMr.call (D:XMr X.prog X.w X.K X.mg X.base k C x ps sp) (hr:RoomU k' X.A) (hx:Out X E) (ha:PA X (e::es) t) (hk:k+1<=k':=by decide) (hg:Gl X x:=by rfl) (hdb:(x==("__debug__":Str))=false:=by decide)
 (he:be (e::es) X.env=(false,eval e X.env)::be es X.env:=by rfl) (hpl:(ie pos (be es X.env)).any (·.1)=false:=by rfl):PE X (.Call (.Name x p) (e::es) [] pos) (NF C sp E t):=by
 obtain⟨hm,_,f,fd,M,hb,F⟩:=D;exact Z4 M F (hr.mono hk) hg hm hb hx.passes ha hdb he hpl
theorem XMr.call0 (D:XMr X.prog X.w X.K X.mg X.base k C x ps sp) (hr:RoomU k' X.A) (hx:Out X E) (hk:k+1<=k':=by decide) (hg:Gl X x:=by rfl) (hdb:(x==("__debug__":Str))=false:=by decide):
 PE X (.Call (.Name x p) [] [] pos) (NF C sp E EQ):=by
 obtain⟨hm,_,f,fd,M,hb,F⟩:=D;exact YH M F (hr.mono hk) hg hm hb hx.passes hdb
end
section
variable {X:Cx}
theorem MR:OpR X (tq .Mult) (rI IntMulOk λi j=>.int (i*j)):=opI λ_ _ _ _ _ _ _ hc q=>mul_int q hc
def nZ (i j:Int):Prop:=0<j/\j<2 ^ 1000
theorem aA:OpR X (tq .FloorDiv) (rI nZ λi j=>.int (i / j)):=opI λi j _ _ _ _ _ hc q=>by
 have h0:j.natAbs<2 ^ 1000:=by have:=hc.1;have:=hc.2;omega
 have hl:j.natAbs.log2<9000:=by
  have hne:j.natAbs≠0:=by have:=hc.1;omega
  have h1:2 ^ j.natAbs.log2<=j.natAbs:=Nat.log2_self_le hne;have h2:2 ^ j.natAbs.log2<2 ^ 1000:=vt h1 h0;have h3:=(Nat.pow_lt_pow_iff_right (by decide:1<2)).mp h2;omega
 have e:i / j=i.fdiv j:=(vg i (Int.le_of_lt hc.1)).symm;rw[e] at q;exact floordiv_int (by have:=hc.1;omega) q (.inl (PyProof.noPylong_of_log2 hl))
end
def Sb (r:ag) (H H':Hp):Prop:=∀b o,H b=some o->b≠r->H' b=some o
theorem Sb.trans {r:ag} {H H1 H2:Hp} (a:Sb r H H1) (b:Sb r H1 H2):Sb r H H2:=λc o e n=>b c o (a c o e n) n
theorem Sb.refl {r:ag} {H:Hp}:Sb r H H:=λ_ _ e _=>e
theorem Same.sb {r:ag} {H H':Hp} (s:Same H H'):Sb r H H':=λb o e _=>s b o e
theorem Same.upd {H:Hp} {a:ag} {o:HO} (n:H a=none):Same H (upd H a o):=λb u e=>by rw[AE (AG e n)];exact e
theorem Same.tup {K:aa} {H H':Hp} {a:ag} {xs:List V} (e:Same H H') (h:SqT K H a xs):SqT K H' a xs:=by
 rcases h with(h|⟨o,h⟩)|h
 ·exact .inl (.inl (e _ _ h))
 ·exact .inl (.inr ⟨o,e _ _ h⟩)
 ·exact .inr h
end L2
end
section
namespace L2
open PySem PySem.Spec PyProof.Rows
section
variable {t0 t1 t2 t3 t4 t5 t6 t7 t8 t9:TS} {D:Ends} {σ:St} {H:Hp}
theorem lb1 (h:let U1:=t1;let D':=D;let σ':=σ;AW t0 U1 D' σ' H):(AW t0 t1) D σ H:=h
theorem lb2 (h:let U2:=t2;let U1:=AW t1 U2;let D':=D;let σ':=σ;AW t0 U1 D' σ' H):(AW t0 (AW t1 t2)) D σ H:=h
theorem lb3 (h:let U3:=t3;let U2:=AW t2 U3;let U1:=AW t1 U2;let D':=D;let σ':=σ;AW t0 U1 D' σ' H):(AW t0 (AW t1 (AW t2 t3))) D σ H:=h
theorem lb4 (h:let U4:=t4;let U3:=AW t3 U4;let U2:=AW t2 U3;let U1:=AW t1 U2;let D':=D;let σ':=σ;AW t0 U1 D' σ' H):(AW t0 (AW t1 (AW t2 (AW t3 t4)))) D σ H:=h
theorem lb5 (h:let U5:=t5;let U4:=AW t4 U5;let U3:=AW t3 U4;let U2:=AW t2 U3;let U1:=AW t1 U2;let D':=D;let σ':=σ;AW t0 U1 D' σ' H):(AW t0 (AW t1 (AW t2 (AW t3 (AW t4 t5))))) D σ H:=h
theorem lb6 (h:let U6:=t6;let U5:=AW t5 U6;let U4:=AW t4 U5;let U3:=AW t3 U4;let U2:=AW t2 U3;let U1:=AW t1 U2;let D':=D;let σ':=σ;AW t0 U1 D' σ' H):(AW t0 (AW t1 (AW t2 (AW t3 (AW t4 (AW t5 t6)))))) D σ H:=h
theorem lb7 (h:let U7:=t7;let U6:=AW t6 U7;let U5:=AW t5 U6;let U4:=AW t4 U5;let U3:=AW t3 U4;let U2:=AW t2 U3;let U1:=AW t1 U2;let D':=D;let σ':=σ;AW t0 U1 D' σ' H):(AW t0 (AW t1 (AW t2 (AW t3 (AW t4 (AW t5 (AW t6 t7))))))) D σ H:=h
theorem lb8 (h:let U8:=t8;let U7:=AW t7 U8;let U6:=AW t6 U7;let U5:=AW t5 U6;let U4:=AW t4 U5;let U3:=AW t3 U4;let U2:=AW t2 U3;let U1:=AW t1 U2;let D':=D;let σ':=σ;AW t0 U1 D' σ' H):(AW t0 (AW t1 (AW t2 (AW t3 (AW t4 (AW t5 (AW t6 (AW t7 t8)))))))) D σ H:=h
theorem lb9 (h:let U9:=t9;let U8:=AW t8 U9;let U7:=AW t7 U8;let U6:=AW t6 U7;let U5:=AW t5 U6;let U4:=AW t4 U5;let U3:=AW t3 U4;let U2:=AW t2 U3;let U1:=AW t1 U2;let D':=D;let σ':=σ;AW t0 U1 D' σ' H):(AW t0 (AW t1 (AW t2 (AW t3 (AW t4 (AW t5 (AW t6 (AW t7 (AW t8 t9))))))))) D σ H:=h
theorem lb0 (h:let D':=D;let σ':=σ;t0 D' σ' H):t0 D σ H:=h
end
theorem AZ {X:Cx} {x:Str} {e:Expr} {te:TE} {pos pos':Pos} {N ps:List Str} {sc:jr} (i:Nat) (S:FnScope N ps sc) (he:PE X e te) (hN:X.N=N:=by rfl) (hi:X.N[i]? =some x:=by rfl) (hx:Loc X.env.scope x:=by first|exact vT rfl|exact Bo rfl) (hs:qm e (some (.Name x pos')) pos.line X.env=pure false:=by rfl) (hf:X.fn x=true\/X.env.scope.names.lookup x=some .local:=by first|exact .inl rfl|exact .inr rfl|assumption):
 PS X (.Assign [.Name x pos'] e pos) (ZH te (MY i)):=iU (hN▸S.nd) hi hx he hs hf
theorem C0 {X:Cx} {x:Str} {pos:Pos} {N ps:List Str} {sc:jr} (i:Nat) (S:FnScope N ps sc) (hN:X.N=N:=by rfl) (hi:X.N[i]? =some x:=by rfl) (hx:Loc X.env.scope x:=by first|exact vT rfl|exact Bo rfl) (hf:X.fn x=true\/X.env.scope.names.lookup x=some .local:=by first|exact .inl rfl|exact .inr rfl|assumption):PG X (.Name x pos) (MY i):=dR (hN▸S.nd) hi hx hf
end L2
end
local macro_rules|`(tactic| and_intros)=>`(tactic| first|(refine L2.lb9 ?_;intros)|(refine L2.lb8 ?_;intros)|(refine L2.lb7 ?_;intros)|(refine L2.lb6 ?_;intros)|(refine L2.lb5 ?_;intros)|(refine L2.lb4 ?_;intros)|(refine L2.lb3 ?_;intros)|(refine L2.lb2 ?_;intros)|(refine L2.lb1 ?_;intros))
local macro_rules|`(tactic| subst_eqs)=>`(tactic| (refine L2.lb0 ?_;intros))
section
namespace Lt
open PySem PySem.Spec PyProof.Rows L2
variable {f a C CR CT r ta CI CL CN:ag} {fd:fv} {X:Cx} {x:List Int} {i n e p q:Nat} {pos:Pos} {z dz fz:Str} {xs:List V} {H H' H1:Hp} {E:XK} {cs t ci ct:List UInt8} {α β:Type} {Q:VK} {ls fr co ba:List (List Int)} {P:bb} {w:cb} {h:cr} {ps:List Str}
def top (i:Nat):dm:=PySem.Challenge.pw_lutesounds_s04_pure.main.body.getD i (.Pass ⟨0,0,0,0⟩)
abbrev ER:dm:=top 5
abbrev CF:dm:=top 6
abbrev EI:dm:=top 7
abbrev IY:dm:=top 8
abbrev NL:dm:=top 9
abbrev IZ:dm:=top 10
abbrev FZ:dm:=top 11
abbrev QH:dm:=top 12
abbrev EB:dm:=BJ (top 14) 0
abbrev FA:dm:=BJ (top 15) 0
abbrev DD:dm:=BJ (top 16) 0
abbrev FB:dm:=BJ (top 17) 0
abbrev F0:dm:=BJ (top 18) 0
abbrev DE:dm:=BJ (top 19) 0
abbrev FC:dm:=BJ (top 20) 0
abbrev F1:dm:=top 24
abbrev F2:dm:=BJ (top 25) 0
abbrev FD:dm:=BJ (top 25) 1
abbrev F3:dm:=BJ (top 25) 2
abbrev F4:dm:=BJ (top 25) 3
abbrev F5:dm:=BJ (top 25) 4
abbrev F6:dm:=BJ (top 25) 5
abbrev CV:dm:=BJ (top 25) 6
abbrev ES:dm:=top 29
abbrev F7:dm:=top 30
abbrev FE:dm:=top 31
abbrev DV:dm:=top 32
abbrev GQ:dm:=top 33
abbrev F8:dm:=top 34
abbrev DW:dm:=BJ (top 42) 0
abbrev B1:dm:=BJ (top 42) 1
abbrev CG:dm:=BJ (top 42) 2
abbrev DN:dm:=BJ (top 42) 3
abbrev DY:dm:=top 43
abbrev B2:dm:=top 44
abbrev CA:dm:=top 46
abbrev HE:dm:=top 48
abbrev F9:dm:=top 49
abbrev HF:dm:=top 50
abbrev HG:dm:=top 51
abbrev HH:dm:=top 52
abbrev HI:dm:=BJ (top 56) 0
abbrev HJ:dm:=top 57
abbrev GR:dm:=top 58
abbrev HK:dm:=top 59
abbrev BM:dm:=top 60
abbrev JA:dm:=top 61
abbrev DF:dm:=top 72
abbrev C7:dm:=top 73
abbrev DG:dm:=top 74
abbrev HL:dm:=top 75
abbrev JB:dm:=top 76
abbrev DO:dm:=top 77
abbrev DP:dm:=top 78
abbrev DQ:dm:=top 79
abbrev ET:dm:=top 80
abbrev HM:dm:=BJ (top 88) 0
abbrev GA:dm:=BJ (top 88) 1
abbrev FF:dm:=BJ (top 88) 2
abbrev GU:dm:=top 89
abbrev HN:dm:=top 90
abbrev DR:dm:=top 91
abbrev C9:dm:=top 93
abbrev GV:dm:=top 95
abbrev GW:dm:=top 97
abbrev BU:dm:=top 98
abbrev JC:dm:=top 99
abbrev EC:dm:=BJ (top 104) 0
abbrev QI:dm:=top 105
abbrev ED:dm:=top 106
abbrev FG:dm:=top 107
abbrev GB:dm:=top 108
abbrev EU:dm:=top 109
abbrev JD:dm:=top 110
abbrev GX:dm:=top 111
abbrev EE:dm:=top 112
abbrev EV:dm:=top 113
structure Blt (mg:Str->Option ah):Prop where
 abs:mg "abs"=none
 len:mg "len"=none
 range:mg "range"=none
 enum:mg "enumerate"=none
 ord:mg "ord"=none
 list:mg "list"=none
 tuple:mg "tuple"=none
 rev:mg "reversed"=none
 sum:mg "sum"=none
theorem JV:jn "abs"=some (.builtin "abs"):=by decide +kernel
theorem aB:jn "ord"=some (.builtin "ord"):=by decide +kernel
theorem SJ:jn "tuple"=some (.type "tuple"):=by decide +kernel
theorem SK:jn "list"=some (.type "list"):=by decide +kernel
section
variable {P:bb} {w:cb} {K:aa} {mg:Str->Option ah} {base:cr}
def jM:Sp:=λvs H Q _=>Ex2 λx y:Int=>vs=[.int x,.int y]/\Q (.int (qr x y)) H
theorem O8:FnScope ["x","y","rest"] ["x","y"] (AH ER):={}
theorem MT (x:Int):(if x<0 then -x else x)=(x.natAbs:Int):=by split<;>omega
theorem n6 (F:Fun K "common_factor" "common_factor" ER f fd) (B:Blt mg):FnOk P w K mg base (CX1 P w) 1 f fd ["x","y"] jM:=by
 refine F.okx O8 λDk A outer s H vs Q E hr h=>?_;obtain⟨x,y,rfl,k⟩:=h;refine⟨_,AB (AZ 0 O8 (AX JN (by rfl) B.abs JV (AA (pv 0) AF)))
  (AB (AZ 1 O8 (AX JN (by rfl) B.abs JV (AA (pv 1) AF)))
  (AB (B8 bh (AN EZ (pv 1) AI (AQ _))
   (AB (AZ 2 O8 (BC T2 (pv 0) (pv 1)))
   (AB (AZ 0 O8 (pv 1)) (AC (AZ 1 O8 (pv 2))))))
  (AC (AJ (pv 0))))),?_⟩
 and_intros
 refine⟨_,rfl,x,rfl,_,rfl,y,rfl,?_⟩;rw[MT,MT];refine RP (λσ H'=>H'=H/\Ex3 λ(m n:Nat) (r:Option V)=>σ=[some (.int m),some (.int n),r]/\ow m n=qr x y) (λσ _=>match σ with|[_,some (.int n),_]=>n.toNat|_=>0)
  ⟨rfl,x.natAbs,y.natAbs,none,rfl,rfl⟩ ?_ ?_
 ·rintro σ H' ⟨rfl,m,n,r,rfl,g⟩;refine⟨_,rfl,_,_,rfl,rfl,_,rfl,?_⟩;refine B4 (λhn=>?_) (λhn=>?_)
  ·have hn0:0<(n:Int):=by simpa using hn
   refine⟨_,rfl,_,rfl,_,_,rfl,rfl,hn0,_,rfl,_,rfl,⟨rfl,n,m%n,some (.int (m%n:Nat)),?_,?_⟩,?_⟩
   ·simp
   ·rw[←g,yn m n,Nat.gcd_rec n m,yn]
   ·show((m:Int)%(n:Int)).toNat<(n:Int).toNat;have:=Int.emod_lt_of_pos (m:Int) hn0;have:=Int.emod_nonneg (m:Int) (by omega:(n:Int)≠0);omega
  ·have hn0:n=0:=by
    have:¬(0:Int)<n:=by simpa using hn
    omega
   subst hn0;refine⟨_,rfl,?_⟩;rw[Nat.gcd_zero_right] at g;rw[g];exact k
 ·rintro σ H' Q1 Q2 hq ⟨v1,e1,z1⟩;exact⟨v1,e1,let ⟨i,j,a,b,c,d,e⟩:=z1;⟨i,j,a,b,c,d,hq _ _ e⟩⟩
end
open PySem PySem.Spec PyProof.Rows L2
def GI (mg:Str->Option ah) (x:Str) (i:Int):Prop:=∃u,mg x=some u/\RelV (.int i) u
def GS (mg:Str->Option ah) (x:Str) (z:Str):Prop:=∃u,mg x=some u/\RelV (.str z) u
def GT (K:aa) (mg:Str->Option ah) (x:Str) (xs:List V):Prop:=∃a,mg x=some (.ref a)/\∀H,SqT K H a xs
theorem BZ {x:Str} {i:Int} (h:GI X.mg x i) (hg:Gl X x:=by rfl) (hd:(x==("__debug__":Str))=false:=by decide):PE X (.Name x pos) (tC (.int i)):=
 let ⟨_,hm,r⟩:=h;P7 hg hm r hd
theorem FH {x:Str} (h:GS X.mg x z) (hg:Gl X x:=by rfl) (hd:(x==("__debug__":Str))=false:=by decide):PE X (.Name x pos) (tC (.str z)):=
 let ⟨_,hm,r⟩:=h;P7 hg hm r hd
def tGT (K:aa) (xs:List V):TE:=λ_ H Q=>∀a,(∀H',SqT K H' a xs)->Q (.ref a) H
theorem O9 {x:Str} (h:GT X.K X.mg x xs) (hg:Gl X x:=by rfl) (hd:(x==("__debug__":Str))=false:=by decide):PE X (.Name x pos) (tGT X.K xs):=by
 obtain⟨a,hm,r⟩:=h;intro Df s σ H Q I q;exact P7 (v:=.ref a) hg hm rfl hd Df s σ H Q I (q a r)
section
variable {P:bb} {w:cb} {K:aa} {mg:Str->Option ah} {base:cr}
def GY (g:Nat) (l:List Int):Nat:=l.foldl (λ(g:Nat) (x:Int)=>qr g x) g
def BY (l:List Int):Nat:=GY 0 l
def WH (K:aa):Sp:=λvs H Q _=>Ex2 λ(a:ag) (l:List Int)=>vs=[.ref a]/\(SqL K H a (l.map V.int)\/SqT K H a (l.map V.int))/\Q (.int (BY l)) H
theorem JE:FnScope ["numbers","common","number"] ["numbers"] (AH CF):={}
theorem SL {l:List Int} {z:Int} (h:l[i]? =some z):BY (l.take (i+1))=qr (BY (l.take i)) z:=by
 rw[dq,h];unfold BY GY;rw[yo];rfl
theorem JW {l:List Int} {y:V} (h:(l.map V.int)[i]? =some y):∃z,l[i]? =some z/\y= .int z:=by
 rw[au] at h;cases e:l[i]? with
 |none=>rw[e] at h;cases h
 |some z=>rw[e] at h;exact⟨z,rfl,(cz h).symm⟩
theorem jN (F:Fun K "common_factor_of_all" "common_factor_of_all" CF f fd) (D1:Def P w K mg base 1 "common_factor" ["x","y"] jM):
 FnOk P w K mg base (CX1 P w) 2 f fd ["numbers"] (WH K):=by
 refine F.okx JE λDk A outer s H vs Q E hr h=>?_;obtain⟨a,l,rfl,hl|hl,k⟩:=h
 ·refine⟨_,AB (AZ 1 JE AI) (AB (BR bh rfl (CW (pv 0)) (C0 2 JE)
   (AC (AZ 1 JE (D1.call hr AD (AA (pv 1) (AA (pv 2) AF)))))) (AC (AJ (pv 1)))),?_⟩
  and_intros
  refine⟨_,rfl,a,rfl,⟨_,hl⟩,CO (K:=K) (a:=a) (xs:=l.map V.int) (λi σ H'=>H'=H/\∃r,σ=[some (.ref a),some (.int (BY (l.take i))),r]) ⟨rfl,none,rfl⟩ (λi σ H' _ ⟨e,_⟩=>e▸hl) ?_ ?_⟩
  ·rintro i y σ H' hi ⟨rfl,r,rfl⟩
   subst_eqs
   obtain⟨z,hz,rfl⟩:=JW hi;refine⟨_,rfl,_,rfl,_,_,rfl,rfl,some (.int z),?_⟩;rw[SL hz];rfl
  ·rintro σ H' ⟨rfl,r,rfl⟩;rw[ai,ez];exact⟨_,rfl,k⟩
 ·refine⟨_,AB (AZ 1 JE AI) (AB (BR bh rfl (ZJ (pv 0)) (C0 2 JE)
   (AC (AZ 1 JE (D1.call hr AD (AA (pv 1) (AA (pv 2) AF)))))) (AC (AJ (pv 1)))),?_⟩
  and_intros
  refine⟨_,rfl,a,rfl,⟨_,hl⟩,V2 (K:=K) (a:=a) (xs:=l.map V.int) (λi σ H'=>H'=H/\∃r,σ=[some (.ref a),some (.int (BY (l.take i))),r]) ⟨rfl,none,rfl⟩ (λi σ H' _ ⟨e,_⟩=>e▸hl) ?_ ?_⟩
  ·rintro i y σ H' hi ⟨rfl,r,rfl⟩
   subst_eqs
   obtain⟨z,hz,rfl⟩:=JW hi;refine⟨_,rfl,_,rfl,_,_,rfl,rfl,some (.int z),?_⟩;rw[SL hz];rfl
  ·rintro σ H' ⟨rfl,r,rfl⟩;rw[ai,ez];exact⟨_,rfl,k⟩
def EW (l:List Int):Bool:=(l.take 4).all (λp=>decide (p.natAbs<=99))&&(decide (1<=l.getD 4 0)&&decide (l.getD 4 0<=24)&&decide (BY l=1))
def jO (K:aa):Sp:=λvs H Q _=>Ex2 λ(a:ag) (l:List Int)=>vs=[.ref a]/\SqT K H a (l.map V.int)/\l.length=5/\∀H',Same H H'->Q (.bl (EW l)) H'
theorem WI:FnScope ["numbers","power"] ["numbers"] (AH EI):={}
theorem PB {l:List Int} {z:Int} (h:(l.take 4)[i]? =some z) (hz:99<z.natAbs):EW l=false:=by
 have hm:z∈l.take 4:=bn h;unfold EW;have:(l.take 4).all (λp=>decide (p.natAbs<=99))=false:=by
  rw[yp];exact⟨z,hm,by simp;omega⟩
 rw[this];rfl
theorem n8 (F:Fun K "is_interval" "is_interval" EI f fd) (B:Blt mg) (gw:GI mg "WIDEST_POWER" 99) (gf:GI mg "FINEST_PART" 24) (D1:Def P w K mg base 2 "common_factor_of_all" ["numbers"] (WH K)):
 FnOk P w K mg base (CX1 P w) 3 f fd ["numbers"] (jO K):=by
 refine F.okx WI λDk A outer s H vs Q E hr h=>?_;obtain⟨a,l,rfl,hl,h5,k⟩:=h;refine⟨_,AB (AU (AN ZL (AX AO (by rfl) B.len cy (AA (pv 0) AF)) AI (AQ _)) (AC (AJ G2)) AK)
  (AB (BR bh rfl (ZJ (JO i7 (pv 0) ME (MF AI))) (C0 1 WI)
   (AC (AU (AN EZ (AX JN (by rfl) B.abs JV (AA (pv 1) AF)) (BZ gw) (AQ _)) (AC (AJ G2)) AK)))
  (AC (AJ (TY (RR JM JM AI (BI DM (pv 0) AI (λ_ _=>rfl)) (BZ gf))
   (TX (DI CY (D1.call hr AD (AA (pv 0) AF)) AI (AQ _))))))),?_⟩
 and_intros
 refine⟨_,rfl,a,l.map V.int,rfl,.inr hl,rfl,_,rfl,?_⟩;refine gI (by rw[ai,h5];rfl) ?_;have hc:II (l.map V.int) none (some 4)=(l.take 4).map V.int:=by
  unfold II;rw[ai,h5,pp];rfl
 refine⟨_,rfl,4,rfl,a,l.map V.int,rfl,hl,?_,λp hp=>⟨p,rfl,⟨_,SqT.of upd_same⟩,?_⟩⟩
 ·rw[ai,h5];decide
 rw[hc];have s1:Same H (upd H p (.tup ((l.take 4).map V.int))):=Same.upd hp;refine V2 (K:=K) (a:=p) (xs:=(l.take 4).map V.int) (λi σ H'=>H'=upd H p (.tup ((l.take 4).map V.int))/\(∃r,σ=[some (.ref a),r])/\((l.take 4).take i).all (λp=>decide (p.natAbs<=99))=true) ⟨rfl,⟨none,rfl⟩,rfl⟩
  (λi σ H' _ ⟨e,_⟩=>by rw[e];exact SqT.of upd_same) ?_ ?_
 ·rintro i y σ H' hi ⟨rfl,⟨r,rfl⟩,ha⟩
  subst_eqs
  obtain⟨z,hz,rfl⟩:=JW hi;refine⟨_,rfl,z,rfl,_,_,rfl,rfl,_,rfl,?_⟩;rw[MT];refine B4 (λh=>?_) (λh=>?_)
  ·have h9:(99:Int)<z.natAbs:=by simpa using h
   have e:=PB hz (by omega);have q:=k _ s1;rw[e] at q;exact q
  ·have h9:¬(99:Int)<z.natAbs:=by simpa using h
   refine⟨rfl,⟨some (.int z),rfl⟩,?_⟩;rw[dq,hz,wD,ha];simp;omega
 ·rintro σ H' ⟨rfl,⟨r,rfl⟩,ha⟩;rw[ai,ez] at ha;obtain⟨d,hd⟩:∃d,l[4]? =some d:=⟨_,aj (by omega:4<l.length)⟩
  have eg:l.getD 4 0=d:=by simp[vd,hd]
  refine⟨_,rfl,a,l.map V.int,4,.int d,rfl,rfl,s1.tup hl,DU (by rw[au,hd];rfl),_,_,rfl,rfl,_,rfl,?_⟩;have q:=k _ s1;unfold EW at q;rw[ha,eg,jz] at q;refine B4 (λh=>?_) (λh=>?_)
  ·have h1:(1:Int)<=d:=by simpa using h
   rw[decide_eq_true h1,jz] at q;refine⟨_,_,rfl,rfl,_,rfl,?_⟩;refine B4 (λh'=>?_) (λh'=>?_)
   ·have h2:d<=24:=by simpa using h'
    rw[decide_eq_true h2,jz] at q;refine⟨_,rfl,a,l,rfl,.inr (s1.tup hl),rfl,?_⟩;have e:decide (V.int ((BY l:Nat):Int)=V.int 1)=decide (BY l=1):=by
     rw[decide_eq_decide];constructor
     ·intro z;injection z with z;omega
     ·intro z;rw[z];rfl
    rw[e];exact q
   ·have h2:¬d<=24:=by simpa using h'
    rw[decide_eq_false h2,li] at q;exact q
  ·have h1:¬(1:Int)<=d:=by simpa using h
   rw[decide_eq_false h1,li,li] at q;exact⟨_,rfl,BH q⟩
end
open PySem PySem.Spec PyProof.Rows L2
section
variable {P:bb} {w:cb} {K:aa} {mg:Str->Option ah} {base:cr}
theorem FU (K:aa) (h:X.K=K:=by rfl):IxR X (nF K):=h▸DM
def SqE (K:aa) (H:Hp) (p:ag) (xs:List V):Prop:=SqL K H p xs\/SqT K H p xs
theorem _root_.L2.Same.sqe {K:aa} (e:Same H H') (h:SqE K H a xs):SqE K H' a xs:=h.imp e.seq e.tup
def n9 (K:aa):R2:=λx y H Q=>IxAt (SqE K H) x y λv=>Q v H
theorem oA:IxR X (n9 X.K):=by
 intro value slice Df s σ H x y v u Q I rx ry q hs;obtain⟨p,xs,i,w,e,e',h1|h1,h2,h⟩:=q
 ·exact CD value slice Df s σ H x y v u Q I rx ry ⟨p,xs,i,w,e,e',h1,h2,h⟩ hs
 ·exact DM value slice Df s σ H x y v u Q I rx ry ⟨p,xs,i,w,e,e',h1,h2,h⟩ hs
theorem gN (K:aa) (h:X.K=K:=by rfl):IxR X (n9 K):=h▸oA
def LW (x y:List Int) (k:Nat):Int:=x.getD k 0*y.getD 4 0+y.getD k 0*x.getD 4 0
def EF (x y:List Int):List Int:=(jm 4).map (LW x y)++[x.getD 4 0*y.getD 4 0]
def BQ (x y:List Int):List Int:=(EF x y).map λz=>z / (BY (EF x y):Int)
def aC (K:aa):Sp:=λvs H Q _=>Ex4 λ(ax ay:ag) (x y:List Int)=>vs=[.ref ax,.ref ay]/\SqE K H ax (x.map V.int)/\SqT K H ay (y.map V.int)/\x.length=5/\y.length=5/\(∀z∈x,z.natAbs<2 ^ 60)/\
 0<x.getD 4 0/\0<y.getD 4 0/\y.getD 4 0<2 ^ 60/\∀H' r,Same H H'->H' r=some (.tup ((BQ x y).map V.int))->Q (.ref r) H'
theorem sc_up:FnScope ["x","y","numbers","common","k","number"] ["x","y"] (AH IY):={}
def MU:Expr->jr
 | .ListComp _ _ sc _=>sc
 | .Call _ (e::_) _ _=>MU e
 |_=>{ kind:=.function,names:=[],isGenerator:=false,isCoroutine:=false }
def rhs:dm->Expr
 | .Assign _ e _=>e
 | .Return (some e) _=>e
 |_=>.Constant .none 0 ⟨0,0,0,0⟩
theorem eK:BlkOk ["x","y","numbers","common","k","number"] (AH IY) (MU (rhs ((BX IY).getD 0 (.Pass ⟨0,0,0,0⟩)))) [("k",4)]:={}
theorem eL:BlkOk ["x","y","numbers","common","k","number"] (AH IY) (MU (rhs ((BX IY).getD 3 (.Pass ⟨0,0,0,0⟩)))) [("number",5)]:={}
theorem EX {l:List Int} {z:Int} (hz:(i:Int)=z) (hi:i<l.length):atI (l.map V.int) z=some (.int (l.getD i 0)):=by
 rw[←hz];exact DU (by rw[au,aj hi];simp[vd,aj hi])
theorem aD {l:List Int} (hi:i<l.length):l.getD i 0∈l:=by
 simp[vd,aj hi]
theorem JX:∀(l:List Int) (g:Nat),GY g l∣g/\∀z∈l,((GY g l:Nat):Int)∣z
 |[],g=>⟨yq _,λz h=>by simp at h⟩
 |x::l,g=>by
  obtain⟨h1,h2⟩:=JX l (qr g x);have e:GY g (x::l)=GY (qr g x) l:=rfl;rw[e];refine⟨pq h1 ?_,λz hz=>?_⟩
  ·have:=Int.gcd_dvd_left (a:=(g:Int)) (b:=x);exact wa.mp this
  ·rcases bq.mp hz with rfl|hz
   ·exact Int.dvd_trans (wa.mpr h1) (Int.gcd_dvd_right ..)
   ·exact h2 z hz
theorem JF {l:List Int} {z:Int} (h:z∈l):((BY l:Nat):Int)∣z:=(JX l 0).2 z h
theorem KR (x y:List Int):x.getD 4 0*y.getD 4 0∈EF x y:=by unfold EF;simp
theorem WJ {y:List Int} (hx:0<x.getD 4 0) (hy:0<y.getD 4 0):0<(BY (EF x y):Int):=by
 have h:0<x.getD 4 0*y.getD 4 0:=y3 hx hy;have hd:=JF (KR x y);obtain⟨q,hq⟩:=hd;by_cases h0:BY (EF x y)=0
 ·rw[h0] at hq;have hq':x.getD 4 0*y.getD 4 0=0:=by rw[hq];exact Int.zero_mul q
  omega
 ·omega
theorem oB (F:Fun K "upon" "upon" IY f fd) (B:Blt mg) (D1:Def P w K mg base 2 "common_factor_of_all" ["numbers"] (WH K)):
 FnOk P w K mg base (CX1 P w) 3 f fd ["x","y"] (aC K):=by
 refine F.okx sc_up λDk A outer s H vs Q E hr h=>?_;obtain⟨ax,ay,x,y,rfl,hx,hy,h5,g5,bx,px,py,by4,k⟩:=h;refine⟨_,AB (O4 (i:=2) (own:=[("k",4)]) rfl sc_up.nd rfl rfl (by rfl) (X9 (by rfl) B.range (AA AI AF)) eK (λ_ _ _ _ _=>C0 4 sc_up) (λ_ _ _ _ _=>QD)
  (λ_ _ _ _ _=>BC C4 (BC IU (BI (gN K) (pv 0) (pv 4) (λ_ _=>rfl)) (BI (FU K) (pv 1) AI (λ_ _=>rfl))) (BC IU (BI (FU K) (pv 1) (pv 4) (λ_ _=>rfl)) (BI (gN K) (pv 0) AI (λ_ _=>rfl)))))
  (AB (AY (G7 dw fb ff CQ (pv 2) (AA (BC IU (BI oA (pv 0) AI (λ_ _=>rfl)) (BI DM (pv 1) AI (λ_ _=>rfl))) AF)))
  (AB (AZ 3 sc_up (D1.call hr AD (AA (pv 2) AF)))
  (AC (AJ (KJ IL (by rfl) B.tuple SJ (AA (jJ (own:=[("number",5)]) rfl sc_up.nd (CW (pv 2)) eL (λ_ _ _ _ _=>C0 5 sc_up) (λ_ _ _ _ _=>QD)
   (λ_ _ _ _ _=>BC aA (pv 5) (pv 3))) AF)))))),?_⟩
 and_intros
 have x4:(x.getD 4 0).natAbs<2 ^ 60:=bx _ (aD (by omega));refine⟨4,rfl,by decide,by decide,λD1' hD1=>UJ (n:=4) (λi H'=>H'=upd H D1' (.lst (((jm i).map (LW x y)).map V.int))) rfl (λi H' hi _=>hi) (λH' _=>aw _) ?_ ?_⟩
 ·rintro i v H1 H2 hi rfl ⟨rfl,rfl⟩;have s1:Same H (upd H D1' (.lst (((jm i).map (LW x y)).map V.int))):=Same.upd hD1;refine⟨rfl,?_⟩;have xi:(x.getD i 0).natAbs<2 ^ 60:=bx _ (aD (by omega));refine⟨_,rfl,_,rfl,ax,_,_,_,rfl,rfl,s1.sqe hx,EX (i:=i) (by omega) (by omega),_,rfl,ay,_,_,_,rfl,rfl,s1.tup hy,EX (i:=4) rfl (by omega),_,_,rfl,rfl,.inl ⟨by omega,by omega⟩,
   _,rfl,_,rfl,ay,_,_,_,rfl,rfl,s1.tup hy,EX (i:=i) (by omega) (by omega),_,rfl,ax,_,_,_,rfl,rfl,s1.sqe hx,EX (i:=4) rfl (by omega),_,_,rfl,rfl,.inr ⟨by omega,by omega⟩,_,_,rfl,rfl,_,upd_same,?_,?_⟩
  ·rw[ai,ai,mo,cf];omega
  ·funext b;by_cases hb:b=D1'
   ·subst hb;rw[upd_same,upd_same,uW,dh,dh];rfl
   ·rw[AE hb,AE hb,AE hb]
 ·rintro H1 rfl;have s1:Same H (upd H D1' (.lst (((jm 4).map (LW x y)).map V.int))):=Same.upd hD1;refine⟨_,rfl,.inl ⟨rfl,_,SqL.of upd_same⟩,_,rfl,ax,_,_,_,rfl,rfl,s1.sqe hx,EX (i:=4) rfl (by omega),_,rfl,ay,_,_,_,rfl,rfl,s1.tup hy,EX (i:=4) rfl (by omega),_,_,rfl,rfl,.inl ⟨by omega,by omega⟩,
   D1',_,_,rfl,rfl,upd_same,?_,?_⟩
  ·rw[ai,ai,mo,cf];omega
  have e1:((jm 4).map (LW x y)).map V.int++[V.int (x.getD 4 0*y.getD 4 0)]=(EF x y).map V.int:=by unfold EF;rw[dh];rfl
  rw[e1];have s2:Same H (upd (upd H D1' (.lst (((jm 4).map (LW x y)).map V.int))) D1' (.lst ((EF x y).map V.int))):=λb o e=>by
   have n:=AG e hD1;rw[AE n,AE n];exact e
  generalize hH2:upd (upd H D1' (.lst (((jm 4).map (LW x y)).map V.int))) D1' (.lst ((EF x y).map V.int))=H2;rw[hH2] at s2;have l2:H2 D1'=some (.lst ((EF x y).map V.int)):=by rw[←hH2];exact upd_same
  refine⟨_,rfl,D1',EF x y,rfl,.inl (SqL.of l2),?_⟩;have gp:=WJ (x:=x) (y:=y) px py;have gb:(BY (EF x y):Int)<2 ^ 1000:=by
   have h1:(BY (EF x y):Int)<=x.getD 4 0*y.getD 4 0:=Int.le_of_dvd (y3 px py) (JF (KR x y));have h2:x.getD 4 0*y.getD 4 0<=2 ^ 60*2 ^ 60:=zY (by omega) (by omega) (by omega) (by decide);have h3:(2:Int) ^ 60*2 ^ 60<2 ^ 1000:=by decide
   omega
  refine⟨_,rfl,D1',rfl,⟨_,SqL.of l2⟩,λD2 hD2=>UJ (n:=(EF x y).length) (λi H'=>H'=upd H2 D2 (.lst (((BQ x y).take i).map V.int))) (by simp) (λi H' hi e=>?_) (λH' e=>?_) ?_ ?_⟩
  ·subst e;have n:D1'≠D2:=AG l2 hD2;exact⟨_,.int ((EF x y)[i]),SqL.of (by rw[AE n];exact l2),by rw[au,aj hi];rfl⟩
  ·subst e;have n:D1'≠D2:=AG l2 hD2;exact⟨_,SqL.of (by rw[AE n];exact l2),by rw[ai];exact aw _⟩
  ·rintro i v H3 H4 hi rfl ⟨rfl,hy'⟩;have n:D1'≠D2:=AG l2 hD2;obtain⟨z,hz,rfl⟩:=JW (hy' _ (SqL.of (by rw[AE n];exact l2)));refine⟨rfl,?_⟩;refine⟨_,rfl,_,rfl,_,_,rfl,rfl,⟨gp,gb⟩,_,upd_same,?_,?_⟩
   ·rw[ai,eq,cf];have:(BQ x y).length=5:=by simp[BQ,EF]
    omega
   ·funext b;by_cases hb:b=D2
    ·subst hb;rw[upd_same,upd_same,dq];have e2:(BQ x y)[i]? =some (z / (BY (EF x y):Int)):=by unfold BQ;rw[au,hz];rfl
     rw[e2,dh];rfl
    ·rw[AE hb,AE hb,AE hb]
  ·rintro H3 rfl;have e3:(BQ x y).take (EF x y).length=BQ x y:=by
    rw[oy];unfold BQ;rw[ai];exact aw _
   rw[e3];refine⟨D2,_,rfl,.inl ⟨SqL.of upd_same,λr hr'=>?_⟩⟩;refine k _ r (λb o e=>?_) upd_same;have n1:b≠D2:=AG (s2 b o e) hD2;have n2:b≠r:=by
    refine AG (o:=o) ?_ hr';rw[AE n1];exact s2 b o e
   rw[AE n2,AE n1];exact s2 b o e
end
open PySem PySem.Spec PyProof.Rows L2
open PySem.Builtin.Int (intBits)
section
variable {P:bb} {w:cb} {K:aa} {mg:Str->Option ah} {base:cr}
def oC:Sp:=λvs H Q _=>Ex2 λ(b:Int) (p:Nat)=>vs=[.int b,.int p]/\(0<=b/\b<=7)/\p<=10000/\Q (.int (b ^ p)) H
theorem SM:FnScope ["base","power","result"] ["base","power"] (AH NL):={}
theorem aE {b:Int} (h:0<=b/\b<=7):intBits b<=3:=intBits_le_iff.mpr (by have:=h.1;have:=h.2;omega)
theorem KS {b:Int} (h:0<=b/\b<=7) {m:Nat} (hm:m<=100000) (hn:n<=100000):IntMulOk (b ^ m) (b ^ n):=
 .of_le (xh (aE h) m) (xh (aE h) n) (by omega)
theorem oE (F:Fun K "raised" "raised" NL f fd):FnOk P w K mg base (CX1 P w) 1 f fd ["base","power"] oC:=by
 refine F.okx SM λDk A outer s H vs Q E hr h=>?_;obtain⟨b,p,rfl,hb,hp,k⟩:=h;refine⟨_,AB (AZ 2 SM AI)
  (AB (B8 bh (AN EZ (pv 1) AI (AQ _))
   (AB (AU (AN CY (BC T2 (pv 1) AI) AI (AQ _)) (AC (AZ 2 SM (BC MR (pv 2) (pv 0)))) AK)
   (AB (AZ 0 SM (BC MR (pv 0) (pv 0)))
   (AC (AZ 1 SM (BC MD (pv 1) AI))))))
  (AC (AJ (pv 2)))),?_⟩
 and_intros
 refine RP (λσ H'=>H'=H/\Ex3 λe q n:Nat=>σ=[some (.int (b ^ e)),some (.int n),some (.int (b ^ q))]/\q+e*n=p) (λσ _=>match σ with|[_,some (.int n),_]=>n.toNat|_=>0)
  ⟨rfl,1,0,p,(by show[some (V.int b),some (V.int p),some (V.int 1)]=_;rw[Int.pow_succ,Int.pow_zero,y4]),by omega⟩ ?_ ?_
 ·rintro σ H' ⟨rfl,e,q,n,rfl,g⟩;refine⟨_,rfl,_,_,rfl,rfl,_,rfl,?_⟩;refine B4 (λhn=>?_) (λhn=>?_)
  ·have hn0:0<(n:Int):=by simpa using hn
   have he:e<=p:=by
    have h1:e*1<=e*n:=Nat.mul_le_mul_left e (by omega);omega
   have hq:q<=p:=by omega
   have sq:b ^ e*b ^ e=b ^ (e+e):=(Cf b e e).symm;have hd:((n:Int) / 2)=((n / 2:Nat):Int):=by omega
   refine⟨_,rfl,_,_,rfl,rfl,(by show(0:Int)<2;decide),rfl,_,rfl,?_⟩;refine B4 (λh1=>?_) (λh1=>?_)
   ·have hm:(n:Int)%2=1:=by simpa using h1
    refine⟨_,rfl,_,rfl,_,_,rfl,rfl,KS hb (by omega) (by omega),_,rfl,_,rfl,_,_,rfl,rfl,KS hb (by omega) (by omega),_,rfl,_,_,rfl,rfl,⟨by decide,by decide⟩,⟨rfl,e+e,q+e,n / 2,?_,?_⟩,?_⟩
    ·show[some (V.int (b ^ e*b ^ e)),some (V.int ((n:Int) / 2)),some (V.int (b ^ q*b ^ e))]=_;rw[sq,hd, ←Cf]
    ·have h2:n=2*(n / 2)+1:=by omega
     have h3:e*n=(e+e)*(n / 2)+e:=by
      conv=>lhs;rw[h2]
      rw[Nat.mul_add,vM, ←ky,dk e 2,Cg]
     omega
    ·show((n:Int) / 2).toNat<(n:Int).toNat;omega
   ·have hm:¬(n:Int)%2=1:=by simpa using h1
    refine⟨_,rfl,_,rfl,_,_,rfl,rfl,KS hb (by omega) (by omega),_,rfl,_,_,rfl,rfl,⟨by decide,by decide⟩,⟨rfl,e+e,q,n / 2,?_,?_⟩,?_⟩
    ·show[some (V.int (b ^ e*b ^ e)),some (V.int ((n:Int) / 2)),some (V.int (b ^ q))]=_;rw[sq,hd]
    ·have h2:n=2*(n / 2):=by omega
     have h3:e*n=(e+e)*(n / 2):=by
      conv=>lhs;rw[h2]
      rw[←ky,dk e 2,Cg]
     omega
    ·show((n:Int) / 2).toNat<(n:Int).toNat;omega
  ·have hn0:n=0:=by
    have:¬(0:Int)<n:=by simpa using hn
    omega
   subst hn0;have e1:q=p:=by omega
   subst e1;exact⟨_,rfl,k⟩
 ·rintro σ H' Q1 Q2 hq ⟨v1,e1,z1⟩;exact⟨v1,e1,let ⟨i,j,a,b,c,d,e⟩:=z1;⟨i,j,a,b,c,d,hq _ _ e⟩⟩
def prm:List Int:=[2,3,5,7]
def pw (x y:List Int) (k:Nat):Int:=y.getD k 0*x.getD 4 0 - x.getD k 0*y.getD 4 0
def IM (x y:List Int):Nat->Int
 |0=>1
 |i+1=>if 0<pw x y i then IM x y i*prm.getD i 0 ^ (pw x y i).toNat else IM x y i
def IN (x y:List Int):Nat->Int
 |0=>1
 |i+1=>if 0<pw x y i then IN x y i else IN x y i*prm.getD i 0 ^ (-pw x y i).toNat
def BG (x y:List Int):Bool:=decide (IN x y 4<IM x y 4)
def Sm (l:List Int):Prop:=l.length=5/\(∀k,k<4->(l.getD k 0).natAbs<=99)/\1<=l.getD 4 0/\l.getD 4 0<=24
theorem NM {a b:Int} {m:Nat} (h1:a.natAbs<=m) (h2:b.natAbs<=n):(a*b).natAbs<=m*n:=by rw[vx];exact Nat.mul_le_mul h1 h2
theorem aF {y:List Int} (hx:Sm x) (hy:Sm y) {k:Nat} (hk:k<4):(pw x y k).natAbs<=4752:=by
 have h1:(y.getD k 0*x.getD 4 0).natAbs<=99*24:=NM (hy.2.1 k hk) (by have:=hx.2.2;omega);have h2:(x.getD k 0*y.getD 4 0).natAbs<=99*24:=NM (hx.2.1 k hk) (by have:=hy.2.2;omega);unfold pw;omega
theorem UK (h:i<4):0<=prm.getD i 0/\prm.getD i 0<=7:=by
 match i,h with
 |0,_=>decide
 |1,_=>decide
 |2,_=>decide
 |3,_=>decide
theorem JY {y:List Int} (hx:Sm x) (hy:Sm y) (h:i<4) (e:Nat) (he:e<=4752):intBits (prm.getD i 0 ^ e)<=20000:=
 cu (xh (aE (UK h)) e) (by omega)
theorem gO {y:List Int} (hx:Sm x) (hy:Sm y):∀i,i<=4->intBits (IM x y i)<=1+20000*i
 |0,_=>(by decide:intBits (1:Int)<=1)
 |i+1,h=>by
  have ih:=gO hx hy i (by omega);have hp:=aF hx hy (k:=i) (by omega);rw[IM];split
  ·exact cu (zZ ih (JY hx hy (by omega) _ (by omega))) (by omega)
  ·exact cu ih (by omega)
theorem gP {y:List Int} (hx:Sm x) (hy:Sm y):∀i,i<=4->intBits (IN x y i)<=1+20000*i
 |0,_=>(by decide:intBits (1:Int)<=1)
 |i+1,h=>by
  have ih:=gP hx hy i (by omega);have hp:=aF hx hy (k:=i) (by omega);rw[IN];split
  ·exact cu ih (by omega)
  ·exact cu (zZ ih (JY hx hy (by omega) _ (by omega))) (by omega)
theorem aG (h:i<4):(prm.map V.int)[i]? =some (.int (prm.getD i 0)):=by
 match i,h with
 |0,_=>rfl
 |1,_=>rfl
 |2,_=>rfl
 |3,_=>rfl
def eN (K:aa):Sp:=λvs H Q _=>Ex4 λ(ax ay:ag) (x y:List Int)=>vs=[.ref ax,.ref ay]/\SqT K H ax (x.map V.int)/\SqT K H ay (y.map V.int)/\Sm x/\Sm y/\∀H',Same H H'->Q (.bl (BG x y)) H'
theorem LG:FnScope ["x","y","above","below","k","prime","power"] ["x","y"] (AH IZ):={}
theorem oF (F:Fun K "narrower" "narrower" IZ f fd) (B:Blt mg) (gp:GT K mg "PRIMES" (prm.map V.int)) (D1:Def P w K mg base 1 "raised" ["base","power"] oC):
 FnOk P w K mg base (CX1 P w) 2 f fd ["x","y"] (eN K):=by
 refine F.okx LG λDk A outer s H vs Q E hr h=>?_;obtain⟨ax,ay,x,y,rfl,hx,hy,sx,sy,k⟩:=h;refine⟨_,AB (AZ 2 LG AI) (AB (AZ 3 LG AI)
  (AB (BR bh rfl (SE (by rfl) B.enum (AA (O9 gp) AF)) (G3 rfl (BT (C0 4 LG) (BT (C0 5 LG) FO)))
   (AB (AZ 6 LG (BC G5 (BC IU (BI DM (pv 1) (pv 4) (λ_ _=>rfl)) (BI DM (pv 0) AI (λ_ _=>rfl))) (BC IU (BI DM (pv 0) (pv 4) (λ_ _=>rfl)) (BI DM (pv 1) AI (λ_ _=>rfl)))))
   (AC (AU (AN EZ (pv 6) AI (AQ _))
    (AC (AZ 2 LG (BC MR (pv 2) (D1.call hr AD (AA (pv 5) (AA (pv 6) AF))))))
    (AC (AZ 3 LG (BC MR (pv 3) (D1.call hr AD (AA (pv 5) (AA (G4 E7 (pv 6)) AF))))))))))
  (AC (AJ (DI EZ (pv 2) (pv 3) (AQ _)))))),?_⟩
 and_intros
 intro pa hpa;refine⟨pa,prm.map V.int,rfl,hpa _,E3 (n:=4) (λi σ H'=>Same H H'/\Ex3 λr4 r5 r6=>σ=[some (.ref ax),some (.ref ay),some (.int (IM x y i)),some (.int (IN x y i)),r4,r5,r6]) ⟨Same.refl _,none,none,none,rfl⟩ ?_ ?_ ?_ ?_⟩
 ·rintro i σ H' hi _;exact⟨prm.map V.int,.int (prm.getD i 0),hpa H',aG hi⟩
 ·rintro σ H' _;exact⟨prm.map V.int,hpa H',rfl⟩
 ·rintro i v σ H1 H2 hi ⟨s1,r4,r5,r6,rfl⟩ ⟨T,xv,rfl,nT,rfl,hxv⟩;have hxv':=hxv _ (hpa H1);have exv:xv= .int (prm.getD i 0):=cz (hxv'.symm.trans (aG hi));subst exv;have s2:Same H (upd H1 T (.tup [.int (i:Nat),.int (prm.getD i 0)])):=s1.trans (Same.upd nT);have b1:=sx.2.1 i hi;have b2:=sy.2.1 i hi;have b3:=sx.2.2;have b4:=sy.2.2;refine⟨T,_,rfl,SqT.of upd_same,rfl,_,_,rfl,_,_,rfl,rfl,?_⟩;refine⟨_,rfl,_,rfl,ay,_,_,_,rfl,rfl,s2.tup hy,EX (i:=i) rfl (by rw[sy.1];omega),_,rfl,ax,_,_,_,rfl,rfl,s2.tup hx,EX (i:=4) rfl (by rw[sx.1];decide),_,_,rfl,rfl,.inl ⟨by omega,by omega⟩,
   _,rfl,_,rfl,ax,_,_,_,rfl,rfl,s2.tup hx,EX (i:=i) rfl (by rw[sx.1];omega),_,rfl,ay,_,_,_,rfl,rfl,s2.tup hy,EX (i:=4) rfl (by rw[sy.1];decide),_,_,rfl,rfl,.inl ⟨by omega,by omega⟩,_,_,rfl,rfl,?_⟩
  have hp:=aF sx sy hi;have ep:y.getD i 0*x.getD 4 0 - x.getD i 0*y.getD 4 0=pw x y i:=rfl;refine⟨V.int (pw x y i),rfl,pw x y i,0,rfl,rfl,_,rfl,B4 (λh=>?_) (λh=>?_)⟩
  ·have h0:0<pw x y i:=by simpa using h
   refine⟨_,rfl,_,rfl,V.int (pw x y i),rfl,prm.getD i 0,(pw x y i).toNat,?_,UK hi,by omega,_,_,rfl,rfl,?_,s2,some (.int i),some (.int (prm.getD i 0)),some (.int (pw x y i)),?_⟩
   ·rw[kq (by omega)];rfl
   ·exact .of_le (gO sx sy i (by omega)) (JY sx sy hi _ (by omega)) (by omega)
   ·rw[IM,IN,Dm h0,Dm h0];rfl
  ·have h0:¬0<pw x y i:=by simpa using h
   refine⟨_,rfl,_,rfl,V.int (pw x y i),rfl,pw x y i,rfl,prm.getD i 0,(-pw x y i).toNat,?_,UK hi,by omega,_,_,rfl,rfl,?_,s2,some (.int i),some (.int (prm.getD i 0)),some (.int (pw x y i)),?_⟩
   ·rw[kq (by omega)];rfl
   ·exact .of_le (gP sx sy i (by omega)) (JY sx sy hi _ (by omega)) (by omega)
   ·rw[IM,IN,Dn h0,Dn h0];rfl
 ·rintro σ H' ⟨s1,r4,r5,r6,rfl⟩;exact⟨_,rfl,_,rfl,_,_,rfl,rfl,k _ s1⟩
end
open PySem PySem.Spec PyProof.Rows L2
def eO (H:Hp) (a C:ag) (fs:List (Str×V)) (H':Hp):Prop:=(∃d,d≠a/\H d=none/\H' a=some (XoO a C (some d) .none none)/\H' d=some (XdO d fs))/\∀b o,H b=some o->b≠a->H' b=some o
def oG (C:ag):Sp:=λvs H Q _=>Ex2 λ(a:ag) (p:Int)=>vs=[.ref a,.int p]/\H a=some (XoO a C none .none none)/\∀H',eO H a C [("place",.int p)] H'->Q .non H'
def oH (K:aa):Sp:=λvs H Q _=>Ex3 λ(a C:ag) (n:Int)=>vs=[.ref a,.int n]/\H a=some (XoO a C none .none none)/\XCls K C/\NoAttr K C "answer"/\∀H',eO H a C [("answer",.int n)] H'->Q .non H'
def JZ (C:ag) (n:Int):Sp:=λvs H Q _=>∃(a:ag),vs=[.ref a]/\H a=some (XoO a C none .none none)/\∀H',eO H a C [("answer",.int n)] H'->Q .non H'
def jP (C:ag):Sp:=λvs H Q _=>Ex3 λ(a:ag) (l c:Int)=>vs=[.ref a,.int l,.int c]/\H a=some (XoO a C none .none none)/\∀H',eO H a C [("answer",.int (-3)),("line",.int l),("course",.int c)] H'->Q .non H'
section
variable {P:bb} {w:cb} {K:aa} {mg:Str->Option ah} {base:cr}
theorem oI:FnScope ["self","place"] ["self","place"] (AH EB):={}
theorem oJ (F:Fun K "__init__" "TextFault.__init__" EB f fd) (xc:XCls K C) (na:NoAttr K C "place"):FnOkU P w K mg base (CX1 P w) 1 f fd ["self","place"] (oG C):=by
 refine F.oku oI λDk A outer s H vs Q E hr h=>?_;obtain⟨a,p,rfl,ea,k⟩:=h;refine⟨_,AC (SA (pv 0) (pv 1) rfl),?_⟩
 subst_eqs
 refine⟨_,rfl,_,rfl,a,C,_,_,rfl,ea,xc,na,λd hd hn=>k _ ⟨⟨d,hn,hd,upd_same,by rw[AE hn,upd_same]⟩,λb o e hb=>?_⟩⟩;rw[AE hb,AE (AG e hd)];exact e
theorem oK:FnScope ["self","answer"] ["self","answer"] (AH FA):={}
theorem oM (F:Fun K "__init__" "Refusal.__init__" FA f fd):FnOkU P w K mg base (CX1 P w) 1 f fd ["self","answer"] (oH K):=by
 refine F.oku oK λDk A outer s H vs Q E hr h=>?_;obtain⟨a,C,n,rfl,ea,xc,na,k⟩:=h;refine⟨_,AC (SA (pv 0) (pv 1) rfl),?_⟩
 subst_eqs
 refine⟨_,rfl,_,rfl,a,C,_,_,rfl,ea,xc,na,λd hd hn=>k _ ⟨⟨d,hn,hd,upd_same,by rw[AE hn,upd_same]⟩,λb o e hb=>?_⟩⟩;rw[AE hb,AE (AG e hd)];exact e
structure RfI (P:bb) (w:cb) (K:aa) (mg:Str->Option ah) (base:cr) (CR f:ag) (fd:fv):Prop where
 mgR:mg "Refusal"=some (.ref CR)
 sp:vK K (.ref CR) "__getattribute__"=some (some (.builtin "type.__getattribute__"))
 rd:wC K CR (.type "type")=true
 fc:rq K (.ref CR) (.type "type") "__init__"=some (.val (.ref f))
 kp:fi K (.ref f)=true
 bd:Binds K fd ["self","answer"] []
 ok:FnOkU P w K mg base (CX1 P w) 1 f fd ["self","answer"] (oH K)
theorem UL:FnScope ["self"] ["self"] (AH FB):={}
theorem UM {fR:ag} {fdR:fv} (F:Fun K "__init__" "TooLong.__init__" FB f fd) (R:RfI P w K mg base CR fR fdR) (xc:XCls K C) (na:NoAttr K C "answer"):FnOkU P w K mg base (CX1 P w) 2 f fd ["self"] (JZ C (-2)):=by
 refine F.oku UL λDk A outer s H vs Q E hr h=>?_;obtain⟨a,rfl,ea,k⟩:=h;refine⟨_,AC (AY (JS (mc:=.type "type") (by rfl) R.mgR R.sp R.rd R.fc R.kp R.ok hr R.bd out_cxU.passes (AA (pv 0) (AA (G4 E7 AI) AF)))),?_⟩
 subst_eqs
 exact⟨_,rfl,_,rfl,a,C, -2,rfl,ea,xc,na,λH' hb'=>k H' hb'⟩
theorem LX:FnScope ["self"] ["self"] (AH DE):={}
theorem LY {fR:ag} {fdR:fv} (F:Fun K "__init__" "NoInstrument.__init__" DE f fd) (R:RfI P w K mg base CR fR fdR) (xc:XCls K C) (na:NoAttr K C "answer"):FnOkU P w K mg base (CX1 P w) 2 f fd ["self"] (JZ C (-6)):=by
 refine F.oku LX λDk A outer s H vs Q E hr h=>?_;obtain⟨a,rfl,ea,k⟩:=h;refine⟨_,AC (AY (JS (mc:=.type "type") (by rfl) R.mgR R.sp R.rd R.fc R.kp R.ok hr R.bd out_cxU.passes (AA (pv 0) (AA (G4 E7 AI) AF)))),?_⟩
 subst_eqs
 exact⟨_,rfl,_,rfl,a,C, -6,rfl,ea,xc,na,λH' hb'=>k H' hb'⟩
theorem UN:FnScope ["self"] ["self"] (AH FC):={}
theorem UO {fR:ag} {fdR:fv} (F:Fun K "__init__" "NoPiece.__init__" FC f fd) (R:RfI P w K mg base CR fR fdR) (xc:XCls K C) (na:NoAttr K C "answer"):FnOkU P w K mg base (CX1 P w) 2 f fd ["self"] (JZ C (-8)):=by
 refine F.oku UN λDk A outer s H vs Q E hr h=>?_;obtain⟨a,rfl,ea,k⟩:=h;refine⟨_,AC (AY (JS (mc:=.type "type") (by rfl) R.mgR R.sp R.rd R.fc R.kp R.ok hr R.bd out_cxU.passes (AA (pv 0) (AA (G4 E7 AI) AF)))),?_⟩
 subst_eqs
 exact⟨_,rfl,_,rfl,a,C, -8,rfl,ea,xc,na,λH' hb'=>k H' hb'⟩
theorem oN:FnScope ["self","line","course"] ["self","line","course"] (AH F0):={}
theorem oO {fR:ag} {fdR:fv} (F:Fun K "__init__" "Misfit.__init__" F0 f fd) (R:RfI P w K mg base CR fR fdR) (xc:XCls K C) (na:NoAttr K C "answer") (nl:NoAttr K C "line") (nc:NoAttr K C "course"):
 FnOkU P w K mg base (CX1 P w) 2 f fd ["self","line","course"] (jP C):=by
 refine F.oku oN λDk A outer s H vs Q E hr h=>?_;obtain⟨a,l,c,rfl,ea,k⟩:=h;refine⟨_,AB (AY (JS (mc:=.type "type") (by rfl) R.mgR R.sp R.rd R.fc R.kp R.ok hr R.bd out_cxU.passes (AA (pv 0) (AA (G4 E7 AI) AF))))
  (AB (WC (pv 0) (pv 1) rfl) (AC (WC (pv 0) (pv 2) rfl))),?_⟩
 and_intros
 refine⟨_,rfl,_,rfl,a,C, -3,rfl,ea,xc,na,λH' ⟨⟨d,dn,d0,e1,e2⟩,kp⟩=>?_⟩;refine⟨_,rfl,_,rfl,a,C,d,_,_,_,rfl,e1,e2,dn,xc,nl,by decide,?_⟩;refine⟨_,rfl,_,rfl,a,C,d,_,_,_,rfl,(by rw[AE (cw dn)];exact e1),upd_same,dn,xc,nc,(vt (FP _ _ _) (by show 1+1<1000;decide)),?_⟩;refine k _ ⟨⟨d,dn,d0,(by rw[AE (cw dn),AE (cw dn)];exact e1),upd_same⟩,λb o e hb=>?_⟩;have nd:b≠d:=AG e d0;rw[AE nd,AE nd];exact kp b o e hb
end
def tWk (te:TE) (K0:VK):TE:=λσ H Q=>te σ H K0/\∀x H1,K0 x H1->Q x H1
theorem IO {e:Expr} {te:TE} {K0:VK} (he:PE X e te):PE X e (tWk te K0):=λDf s σ H Q I ⟨h,k⟩=>thn (he Df s σ H K0 I h) λu s1 ⟨v,H1,I1,r,q⟩=>⟨v,H1,I1,r,k v H1 q⟩
def KU (CT:ag) (E:XK) (te:TE):TS:=λ_ σ H=>te σ H λx H1=>∃z:Int,x= .int z/\E (.ref CT) none (xH [("place",.int z)])
abbrev TFm (P:bb) (w:cb) (K:aa) (mg:Str->Option ah) (base:cr) (CT:ag):Prop:=XMr P w K mg base 1 CT "TextFault" ["self","place"] (oG CT)
theorem BF {e:Expr} {te:TE} {p pos':Pos} {k':Nat} (T:TFm X.prog X.w X.K X.mg X.base CT) (hr:Room k' X.A) (o:Out X E) (hc:X.calm=true) (he:PE X e te) (hk:2<=k':=by decide) (hg:Gl X "TextFault":=by rfl)
 (hs:be [e] X.env=(false,eval e X.env)::be [] X.env:=by rfl):PS X (.Raise (some (.Call (.Name "TextFault" p) [e] [] pos')) none pos) (KU CT E te):=by
 have q:=HC (pos:=pos) o hc (T.call (pos:=pos') (p:=p) hr.u o (AA (IO (K0:=λx _=>∃z:Int,x= .int z/\E (.ref CT) none (xH [("place",.int z)])) he) AF hs) hk hg (he:=hs));intro Df s σ H D I h;refine q Df s σ H D I ⟨h,λv H' ⟨z,ev,hE⟩=>⟨(by show 1<=100;decide),λa ha=>⟨a,z,by subst ev;rfl,upd_same,λH2 ⟨⟨d,dn,d0,e1,e2⟩,_⟩=>⟨rfl,a,CT,_,rfl,⟨d,dn,e1,e2⟩,T.2.1,hE⟩⟩⟩⟩
open PySem PySem.Spec PyProof.Rows L2
def BV (l:List Nat) (b:Int):Option Nat:=l.findIdx? λ(c:Nat)=>decide ((c:Int)=b)
def HP (l:List Nat) (b:Int):V:=match BV l b with
 |some n=>.int (n:Nat)
 |none=>.non
theorem J0 {l:List Nat} {b:Int} (h:∀(i c:Nat),l[i]? =some c->¬(c:Int)=b):BV l b=none:=by
 unfold BV;rw[List.findIdx?_eq_none_iff];intro c hc;obtain⟨i,hi⟩:=kg hc;exact decide_eq_false (h i c hi)
theorem QJ {l:List Nat} {b:Int} {c:Nat} (hi:l[i]? =some c) (hc:(c:Int)=b) (h:∀(j d:Nat),j<i->l[j]? =some d->¬(d:Int)=b):BV l b=some i:=by
 unfold BV;rw[md];obtain⟨Dl,e⟩:=az.mp hi;refine⟨Dl,by rw[e];exact decide_eq_true hc,λj hj=>?_⟩;have:=h j l[j] hj (aj (ot hj Dl));simpa using this
def jQ:Sp:=λvs H Q _=>Ex2 λ(z:Str) (b:Int)=>vs=[.str z,.int b]/\∀H',Same H H'->Q (HP z.cps.toList b) H'
section
variable {P:bb} {w:cb} {K:aa} {mg:Str->Option ah} {base:cr}
theorem aH:FnScope ["signs","byte","number","sign"] ["signs","byte"] (AH F1):={}
theorem oP (F:Fun K "sign_number" "sign_number" F1 f fd) (B:Blt mg):FnOk P w K mg base (CX1 P w) 1 f fd ["signs","byte"] jQ:=by
 refine F.okx aH λDk A outer s H vs Q E hr h=>?_;obtain⟨z,b,rfl,k⟩:=h;refine⟨_,AB (BR bh rfl (Z6 (by rfl) B.enum (AA (pv 0) AF)) (G3 rfl (BT (C0 2 aH) (BT (C0 3 aH) FO)))
  (AC (AU (AN CY (AX ZM (by rfl) B.ord aB (AA (pv 3) AF)) (pv 1) (AQ _)) (AC (AJ (pv 2))) AK)))
  (AC (AJ TW)),?_⟩
 and_intros
 refine⟨_,rfl,z,rfl,E3 (n:=z.cps.size) (λi σ H'=>Same H H'/\(Ex2 λr2 r3=>σ=[some (.str z),some (.int b),r2,r3])/\∀(j d:Nat),j<i->z.cps.toList[j]? =some d->¬(d:Int)=b) ⟨Same.refl _,⟨none,none,rfl⟩,λj d hj=>by omega⟩ ?_ ?_ ?_ ?_⟩
 ·rintro i σ H' hi _;exact hi
 ·rintro σ H' _;exact rfl
 ·rintro i v σ H1 H2 hi ⟨s1,⟨r2,r3,rfl⟩,hb⟩ ⟨T,c,rfl,nT,hc,rfl⟩;have s2:Same H (upd H1 T (.tup [.int (i:Nat),.str ⟨#[c]⟩])):=s1.trans (Same.upd nT);have hcl:z.cps.toList[i]? =some c:=by rw[ma];exact hc
  refine⟨T,_,rfl,SqT.of upd_same,rfl,_,_,rfl,_,_,rfl,rfl,?_⟩;refine⟨_,rfl,_,rfl,rfl,_,rfl,rfl,_,rfl,B4 (λh=>?_) (λh=>?_)⟩
  ·have h0:(c:Int)=b:=by
    have q:=of_decide_eq_true h;injection q
   refine⟨_,rfl,?_⟩;have q:=k _ s2;unfold HP at q;rw[QJ hcl h0 hb] at q;exact q
  ·have h0:¬(c:Int)=b:=λq=>h (decide_eq_true (by rw[←q];rfl));refine⟨s2,⟨_,_,rfl⟩,λj d hj hd=>?_⟩;by_cases hji:j=i
   ·subst hji;rw[hcl] at hd;cases hd;exact h0
   ·exact hb j d (by omega) hd
 ·rintro σ H' ⟨s1,⟨r2,r3,rfl⟩,hb⟩;have q:=k _ s1;unfold HP at q;rw[J0 λi c hi=>hb i c (by have:=(az.mp hi).1;rw[fy] at this;exact this) hi] at q;exact q
end
def cV (c:UInt8):V:=.int (c.toNat:Nat)
def rf (ta:ag) (p e:Int):List (Str×V):=[("text",.ref ta),("place",.int p),("end",.int e)]
structure Rd (K:aa) (CR:ag) (H:Hp) (r ta:ag) (cs:List UInt8) (e:Nat) (Dg:List UInt8):Prop where
 at_:Ex2 λ(dx:ag) (p:Nat)=>H r=some (.ins CR dx (rf ta p e))/\Dg=(cs.take e).drop p/\p<=e
 tx:SqL K H ta (cs.map cV)
 le:e<=cs.length
theorem Sb.lst {K:aa} {dx:ag} {fs:List (Str×V)} (s:Sb r H H') (hr:H r=some (.ins C dx fs)) (h:SqL K H a xs):SqL K H' a xs:=by
 rcases h with(h|⟨o,h⟩)|h
 ·exact .inl (.inl (s _ _ h (B6 h hr (by intro z;cases z))))
 ·exact .inl (.inr ⟨o,s _ _ h (B6 h hr (by intro z;cases z))⟩)
 ·exact .inr h
theorem aI (h:[]=(cs.take e).drop p) (hp:p<=e) (he:e<=cs.length):p=e:=by
 have:=congrArg qg h;rw[fw,eq] at this;simp at this;omega
theorem KW {c:UInt8} (h:c::t=(cs.take e).drop p) (hp:p<=e) (he:e<=cs.length):p<e/\cs[p]? =some c/\t=(cs.take e).drop (p+1):=by
 have hl:=congrArg qg h;rw[fw,eq,de] at hl;have Dl:p<e:=by omega
 have h0:(c::t)[0]? =((cs.take e).drop p)[0]?:=by rw[h]
 rw[vy,sh] at h0;simp[Dl] at h0;refine⟨Dl,h0.symm,?_⟩;have h1:(c::t).drop 1=((cs.take e).drop p).drop 1:=by rw[h]
 rw[xj] at h1;exact h1
def bt:List UInt8->Int
 |[]=>256
 |c::_=>(c.toNat:Nat)
def Got {α:Type} (K:aa) (CR CT r ta:ag) (cs:List UInt8) (e:Nat) (H:Hp) (Q:VK) (E:XK) (enc:α->V):Option (α×List UInt8)->Prop
 |some (v,Dh)=>∀H',Rd K CR H' r ta cs e Dh->Sb r H H'->Q (enc v) H'
 |none=>∀z:Int,E (.ref CT) none (xH [("place",.int z)])
def pk (z:Str):List UInt8->Option (Nat×List UInt8)
 |[]=>none
 |c::t=>(BV z.cps.toList (c.toNat:Nat)).map (·,t)
theorem BW (z:Str) (c:UInt8) (t:List UInt8):pk z (c::t)=(BV z.cps.toList (c.toNat:Nat)).map (·,t):=rfl
def OkS (z:Str):Prop:=∀c∈z.cps.toList,c<256
theorem aJ (h:OkS z):BV z.cps.toList 256=none:=J0 λi c hi q=>by
 have:=h c (bn hi);omega
def see (z:Str):List UInt8->Bool
 |[]=>false
 |c::_=>(BV z.cps.toList (c.toNat:Nat)).isSome
def DS (n:Nat):V:=.int (n:Nat)
def jR (C:ag):Sp:=λvs H Q _=>Ex5 λ(r dx ta:ag) (p e:Int)=>vs=[.ref r,.ref ta,.int p,.int e]/\H r=some (.ins C dx [])/\∀H',H' r=some (.ins C dx (rf ta p e))->Sb r H H'->Q .non H'
def aK (K:aa) (C:ag):Sp:=λvs H Q _=>Ex5 λ(r ta:ag) (cs:List UInt8) (e:Nat) (Dg:List UInt8)=>vs=[.ref r]/\Rd K C H r ta cs e Dg/\Q (.bl Dg.isEmpty) H
def QK (K:aa) (C:ag):Sp:=λvs H Q _=>Ex5 λ(r ta:ag) (cs:List UInt8) (e:Nat) (Dg:List UInt8)=>vs=[.ref r]/\Rd K C H r ta cs e Dg/\Q (.int (bt Dg)) H
def UP (K:aa) (C:ag):Sp:=λvs H Q _=>Ex6 λ(r ta:ag) (cs:List UInt8) (e:Nat) (Dg:List UInt8) (z:Str)=>vs=[.ref r,.str z]/\Rd K C H r ta cs e Dg/\OkS z/\∀H',Same H H'->Q (.bl (see z Dg)) H'
def QL (K:aa) (C CT:ag):Sp:=λvs H Q E=>Ex6 λ(r ta:ag) (cs:List UInt8) (e:Nat) (Dg:List UInt8) (z:Str)=>vs=[.ref r,.str z]/\Rd K C H r ta cs e Dg/\OkS z/\Got K C CT r ta cs e H Q E DS (pk z Dg)
theorem Rd.same {K:aa} {Dg:List UInt8} (R:Rd K C H r ta cs e Dg) (s:Same H H'):Rd K C H' r ta cs e Dg:=
 let ⟨⟨dx,p,h,q⟩,t,l⟩:=R;⟨⟨dx,p,s _ _ h,q⟩,s.seq t,l⟩
section
variable {P:bb} {w:cb} {K:aa} {mg:Str->Option ah} {base:cr}
structure RdC (K:aa) (C:ag):Prop where
 cl:Cls K C
 nt:NoAttr K C "text"
 np:NoAttr K C "place"
 ne:NoAttr K C "end"
theorem eP (ta:ag) (p e:Int):(rf ta p e).lookup ("text":Str)=some (.ref ta):=rfl
theorem NN (ta:ag) (p e:Int):(rf ta p e).lookup ("place":Str)=some (.int p):=rfl
theorem oQ (ta:ag) (p e:Int):(rf ta p e).lookup ("end":Str)=some (.int e):=rfl
theorem GJ (ta:ag) (p e:Int) {m:Str} (h1:(m=="text")=false) (h2:(m=="place")=false) (h3:(m=="end")=false):(rf ta p e).lookup m=none:=by
 unfold rf;simp only[jk,h1,h2,h3]
theorem oR:FnScope ["self","text","place","end"] ["self","text","place","end"] (AH F2):={}
theorem oS (F:Fun K "__init__" "Reader.__init__" F2 f fd) (T:RdC K C):FnOk P w K mg base (CX1 P w) 1 f fd ["self","text","place","end"] (jR C):=by
 refine F.okx oR λDk A outer s H vs Q E hr h=>?_;obtain⟨r,dx,ta,p,e,rfl,hr',k⟩:=h;refine⟨_,AB (C5 (pv 0) (pv 1) rfl) (AB (C5 (pv 0) (pv 2) rfl) (AC (C5 (pv 0) (pv 3) rfl))),?_⟩
 and_intros
 refine⟨_,rfl,_,rfl,r,C,dx,[],rfl,hr',T.cl,T.nt,(by decide),?_⟩;refine⟨_,rfl,_,rfl,r,C,dx,_,rfl,upd_same,T.cl,T.np,(by show 1<1000;decide),?_⟩;refine⟨_,rfl,_,rfl,r,C,dx,_,rfl,upd_same,T.cl,T.ne,(by show 2<1000;decide),?_⟩;exact k _ upd_same λb o e hb=>by rw[AE hb,AE hb,AE hb];exact e
theorem oT:FnScope ["self"] ["self"] (AH FD):={}
theorem oU (F:Fun K "ended" "Reader.ended" FD f fd) (T:RdC K C):FnOk P w K mg base (CX1 P w) 1 f fd ["self"] (aK K C):=by
 refine F.okx oT λDk A outer s H vs Q E hr h=>?_;obtain⟨r,ta,cs,e,Dg,rfl,⟨⟨dx,p,h1,h2,h3⟩,tx,le⟩,k⟩:=h;refine⟨_,AC (AJ (DI m9 (AT (pv 0) rfl) (AT (pv 0) rfl) (AQ _))),?_⟩
 subst_eqs
 refine⟨_,rfl,r,C,dx,_,_,rfl,h1,T.cl,T.np,NN _ _ _,_,rfl,r,C,dx,_,_,rfl,h1,T.cl,T.ne,oQ _ _ _,_,_,rfl,rfl,?_⟩;have e1:decide ((e:Int)<=(p:Int))=Dg.isEmpty:=by
  cases Dg with
  |nil=>rw[aI h2 h3 le];simp
  |cons c t=>have:=(KW h2 h3 le).1;simp;omega
 show Q (V.bl (decide ((e:Int)<=(p:Int)))) H;rw[e1];exact k
theorem oV:FnScope ["self"] ["self"] (AH F3):={}
theorem oW (F:Fun K "byte" "Reader.byte" F3 f fd) (T:RdC K C) (gn:GI mg "NO_BYTE" 256) (M1:Mth P w K mg base 1 C "ended" ["self"] (aK K C)):FnOk P w K mg base (CX1 P w) 2 f fd ["self"] (QK K C):=by
 refine F.okx oV λDk A outer s H vs Q E hr h=>?_;obtain⟨r,ta,cs,e,Dg,rfl,R,k⟩:=h;obtain⟨dx,p,h1,h2,h3⟩:=R.at_;refine⟨_,AC (AJ (RM (CS (M1.call0 (pv 0) hr AD)) (BZ gn) (BI CD (AT (pv 0) rfl) (AT (pv 0) rfl) (λ_ _=>rfl)))),?_⟩
 subst_eqs
 refine⟨_,rfl,r,dx,_,rfl,h1,GJ _ _ _ (by decide +kernel) (by decide +kernel) (by decide +kernel),r,ta,cs,e,Dg,rfl,R,_,rfl,?_⟩;cases Dg with
 |nil=>exact BS k
 |cons c t=>
  obtain⟨h4,h5,h6⟩:=KW h2 h3 R.le;refine BH ⟨_,rfl,r,C,dx,_,_,rfl,h1,T.cl,T.nt,eP _ _ _,_,rfl,r,C,dx,_,_,rfl,h1,T.cl,T.np,NN _ _ _,ta,_,_,_,rfl,rfl,R.tx,DU (v:=cV c) (by rw[au,h5];rfl),k⟩
theorem oX:FnScope ["self","signs"] ["self","signs"] (AH F4):={}
theorem oY (F:Fun K "sees" "Reader.sees" F4 f fd) (D1:Def P w K mg base 1 "sign_number" ["signs","byte"] jQ) (M1:Mth P w K mg base 2 C "byte" ["self"] (QK K C)):
 FnOk P w K mg base (CX1 P w) 3 f fd ["self","signs"] (UP K C):=by
 refine F.okx oX λDk A outer s H vs Q E hr h=>?_;obtain⟨r,ta,cs,e,Dg,z,rfl,R,oz,k⟩:=h;obtain⟨dx,p,h1,h2,h3⟩:=R.at_;refine⟨_,AC (AJ (DI dU (D1.call hr AD (AA (pv 1) (AA (M1.call0 (pv 0) hr AD) AF))) TW (AQ _))),?_⟩
 subst_eqs
 refine⟨_,rfl,_,rfl,r,dx,_,rfl,h1,GJ _ _ _ (by decide +kernel) (by decide +kernel) (by decide +kernel),r,ta,cs,e,Dg,rfl,R,z,_,rfl,λH' s1=>⟨rfl,?_⟩⟩;have q:=k H' s1;have e1:(!decide (HP z.cps.toList (bt Dg)=V.non))=see z Dg:=by
  cases Dg with
  |nil=>
   show(!decide (HP z.cps.toList 256=V.non))=false;unfold HP;rw[aJ oz];rfl
  |cons c t=>
   show(!decide (HP z.cps.toList (c.toNat:Nat)=V.non))=(BV z.cps.toList (c.toNat:Nat)).isSome;unfold HP;cases BV z.cps.toList (c.toNat:Nat)<;>rfl
 rw[e1];exact q
theorem gQ:FnScope ["self","signs","number"] ["self","signs"] (AH F5):={}
theorem oZ (F:Fun K "pick" "Reader.pick" F5 f fd) (T:RdC K C) (X1:TFm P w K mg base CT) (D1:Def P w K mg base 1 "sign_number" ["signs","byte"] jQ) (M1:Mth P w K mg base 2 C "byte" ["self"] (QK K C)):
 FnOk P w K mg base (CX1 P w) 3 f fd ["self","signs"] (QL K C CT):=by
 refine F.okx gQ λDk A outer s H vs Q E hr h=>?_;obtain⟨r,ta,cs,e,Dg,z,rfl,R,oz,k⟩:=h;obtain⟨dx,p,h1,h2,h3⟩:=R.at_;refine⟨_,AB (AZ 2 gQ (D1.call hr AD (AA (pv 1) (AA (M1.call0 (pv 0) hr AD) AF))))
  (AB (AU (AN iW (pv 2) TW (AQ _)) (AC (BF X1 hr AD rfl (AT (pv 0) rfl))) AK)
  (AB (YB (pv 0) AI iY) (AC (AJ (pv 2))))),?_⟩
 and_intros
 refine⟨_,rfl,_,rfl,r,dx,_,rfl,h1,GJ _ _ _ (by decide +kernel) (by decide +kernel) (by decide +kernel),r,ta,cs,e,Dg,rfl,R,z,_,rfl,λH' s1=>?_⟩;have h1':=s1 _ _ h1;refine⟨_,rfl,rfl,_,rfl,?_⟩;cases hrest:Dg with
 |nil=>
  subst hrest;have e1:HP z.cps.toList (bt [])=V.non:=by
   show HP z.cps.toList 256=V.non;unfold HP;rw[aJ oz]
  rw[e1];exact BS ⟨_,rfl,r,C,dx,_,_,rfl,h1',T.cl,T.np,NN _ _ _,_,rfl,k _⟩
 |cons c t=>
  subst hrest;obtain⟨h4,h5,h6⟩:=KW h2 h3 R.le;cases hi:BV z.cps.toList (c.toNat:Nat) with
  |none=>
   have e1:HP z.cps.toList (bt (c::t))=V.non:=by
    show HP z.cps.toList (c.toNat:Nat)=V.non;unfold HP;rw[hi]
   rw[e1];have k':∀z:Int,E (.ref CT) none (xH [("place",.int z)]):=by
    have e2:pk z (c::t)=none:=by rw[BW,hi];rfl
    rw[e2] at k;exact k
   exact BS ⟨_,rfl,r,C,dx,_,_,rfl,h1',T.cl,T.np,NN _ _ _,_,rfl,k' _⟩
  |some n=>
   have e1:HP z.cps.toList (bt (c::t))=V.int (n:Nat):=by
    show HP z.cps.toList (c.toNat:Nat)=V.int (n:Nat);unfold HP;rw[hi]
   rw[e1];have k':∀H',Rd K C H' r ta cs e t->Sb r H H'->Q (DS n) H':=by
    have e2:pk z (c::t)=some (n,t):=by rw[BW,hi];rfl
    rw[e2] at k;exact k
   refine BH ?_;refine⟨_,rfl,r,C,dx,_,_,rfl,h1',T.cl,T.np,NN _ _ _,?_⟩;refine⟨_,_,rfl,rfl,dx,_,h1',(by show 3<1000;decide),_,rfl,?_⟩;refine k' _ ⟨⟨dx,p+1,uP upd_same ?_,h6,h4⟩,Sb.lst (r:=r) (λb o e hb=>by rw[AE hb];exact e) h1' (s1.seq R.tx),R.le⟩ λb o e hb=>by rw[AE hb];exact s1 b o e
   rfl
end
open PySem PySem.Spec PyProof.Rows L2
theorem DZ {W:Nat->L2.St->Hp->Prop} {m:Nat} {tb:TS} {D:Ends} {σ:L2.St} {Z:Prop} (h:tb { D with nx:=λσ' H'=>∃m',m'<m/\W m' σ' H',ct:=λσ' H'=>∃m',m'<m/\W m' σ' H',bk:=D.nx } σ H1):
 if true=true then∃N:L2.St->Hp->Prop,(∀σ' H',N σ' H'->∃m',m'<m/\W m' σ' H')/\tb { D with nx:=N,ct:=N,bk:=D.nx } σ H1 else Z:=BS ⟨_,λ_ _ q=>q,h⟩
def sk:List Nat->List UInt8->Option (Unit×List UInt8)
 |[],t=>some ((),t)
 |_::_,[]=>none
 |x::w,c::t=>if c.toNat=x then sk w t else none
def G1 (z:Str) (most:Nat):Nat->Nat->List UInt8->Option (Nat×List UInt8)
 |_,value,[]=>some (value,[])
 |count,value,c::t=>match BV z.cps.toList (c.toNat:Nat) with
  |none=>some (value,c::t)
  |some d=>if count=most\/value=0 then none else G1 z most (count+1) (10*value+d) t
def wn (z:Str) (most:Nat) (l:List UInt8):Option (Nat×List UInt8):=match pk z l with
 |none=>none
 |some (d,t)=>G1 z most 1 d t
def YL (_:Unit):V:=.non
def aL (K:aa) (C CT:ag):Sp:=λvs H Q E=>Ex6 λ(r ta:ag) (cs:List UInt8) (e:Nat) (Dg:List UInt8) (z:Str)=>vs=[.ref r,.str z]/\Rd K C H r ta cs e Dg/\OkS z/\Got K C CT r ta cs e H Q E YL (sk z.cps.toList Dg)
def o0 (K:aa) (C CT:ag) (dz:Str):Sp:=λvs H Q E=>Ex6 λ(r ta:ag) (cs:List UInt8) (e:Nat) (Dg:List UInt8) (most:Nat)=>vs=[.ref r,.int (most:Nat)]/\Rd K C H r ta cs e Dg/\Got K C CT r ta cs e H Q E DS (wn dz most Dg)
theorem WK (c:Nat) (b:Nat):BV [c] (b:Nat)=if b=c then some 0 else none:=by
 unfold BV;by_cases h:b=c
 ·subst h;simp
 ·have:¬(c:Int)=(b:Int):=by omega
  rw[Dn h];simp;omega
theorem jS (c:Nat) (l:List UInt8) (w:List Nat):sk (c::w) l=(match pk ⟨#[c]⟩ l with|none=>none|some (_,t)=>sk w t):=by
 cases l with
 |nil=>rfl
 |cons b t=>
  rw[BW];show(if b.toNat=c then sk w t else none)=_;rw[show(⟨#[c]⟩:Str).cps.toList=[c] from rfl,WK];by_cases h:b.toNat=c
  ·rw[Dm h,Dm h];rfl
  ·rw[Dn h,Dn h];rfl
theorem aM {l:List UInt8} (h:see z l=true):Ex2 λn t=>pk z l=some (n,t)/\t.length+1=l.length:=by
 cases l with
 |nil=>cases h
 |cons c t=>
  rw[BW];have h':(BV z.cps.toList (c.toNat:Nat)).isSome=true:=h;obtain⟨n,hn⟩:=rb.mp h';exact⟨n,t,by rw[hn];rfl,rfl⟩
theorem aN {most v d:Nat} {l:List UInt8} (h:pk z l=some (d,t)):G1 z most n v l=if n=most\/v=0 then none else G1 z most (n+1) (10*v+d) t:=by
 cases l with
 |nil=>cases h
 |cons c t'=>
  rw[BW] at h;cases hi:BV z.cps.toList (c.toNat:Nat) with
  |none=>rw[hi] at h;cases h
  |some d'=>
   rw[hi] at h;cases h;rw[G1,hi]
theorem aO {most v:Nat} {l:List UInt8} (h:see z l=false):G1 z most n v l=some (v,l):=by
 cases l with
 |nil=>rfl
 |cons c t=>
  have h':(BV z.cps.toList (c.toNat:Nat)).isSome=false:=h;rw[Option.isSome_eq_false_iff,Option.isNone_iff_eq_none] at h';rw[G1,h']
section
variable {P:bb} {w:cb} {K:aa} {mg:Str->Option ah} {base:cr}
theorem Rd.ins {Dg:List UInt8} (R:Rd K C H r ta cs e Dg):Ex2 λdx p=>H r=some (.ins C dx (rf ta p e)):=let ⟨dx,p,h,_⟩:=R.at_;⟨dx,p,h⟩
theorem gR:FnScope ["self","word","sign"] ["self","word"] (AH F6):={}
theorem o5 (F:Fun K "skip" "Reader.skip" F6 f fd) (M1:Mth P w K mg base 3 C "pick" ["self","signs"] (QL K C CT)):
 FnOk P w K mg base (CX1 P w) 4 f fd ["self","word"] (aL K C CT):=by
 refine F.okx gR λDk A outer s H vs Q E hr h=>?_;obtain⟨r,ta,cs,e,Dg,z,rfl,R,oz,k⟩:=h;refine⟨_,AC (BR bh rfl (jC (pv 1)) (C0 2 gR) (AC (AY (M1.call (pv 0) hr AD (AA (pv 2) AF))))),?_⟩
 subst_eqs
 refine⟨_,rfl,z,rfl,E3 (n:=z.cps.size) (λi σ H'=>(∃r2,σ=[some (.ref r),some (.str z),r2])/\Sb r H H'/\∃Dh,Rd K C H' r ta cs e Dh/\sk z.cps.toList Dg=sk (z.cps.toList.drop i) Dh) ⟨⟨none,rfl⟩,Sb.refl,Dg,R,rfl⟩ ?_ ?_ ?_ ?_⟩
 ·rintro i σ H' hi _;exact hi
 ·rintro σ H' _;exact aw _
 ·rintro i v σ H1 H2 hi ⟨⟨r2,rfl⟩,sb,Dh,R',es⟩ ⟨rfl,c,hc,rfl⟩
  subst_eqs
  have hcl:z.cps.toList[i]? =some c:=by rw[ma];exact hc
  have hd:z.cps.toList.drop i=c::z.cps.toList.drop (i+1):=by
   obtain⟨Dl,e1⟩:=az.mp hcl;rw[gy Dl,e1]
  obtain⟨dx,p,h1⟩:=R'.ins;rw[hd,jS] at es;refine⟨_,rfl,r,dx,_,rfl,h1,GJ _ _ _ (by decide +kernel) (by decide +kernel) (by decide +kernel),_,rfl,r,ta,cs,e,Dh,⟨#[c]⟩,rfl,R',?_,?_⟩
  ·intro c' hc';have e1:c'=c:=by simpa using hc'
   subst e1;exact oz c' (bn hcl)
  ·cases hp:pk ⟨#[c]⟩ Dh with
   |none=>
    rw[hp] at es;rw[es] at k;exact k
   |some x=>
    obtain⟨n,t⟩:=x;rw[hp] at es;exact λH3 R3 s3=>⟨⟨_,rfl⟩,sb.trans s3,t,R3,es⟩
 ·rintro σ H' ⟨⟨r2,rfl⟩,sb,Dh,R',es⟩;have e0:z.cps.toList.drop z.cps.size=[]:=by rw[←fy];exact wb
  rw[e0] at es;rw[es] at k;exact k H' R' sb
theorem sc_wn:FnScope ["self","most","value","count"] ["self","most"] (AH CV):={}
theorem o6 (F:Fun K "whole_number" "Reader.whole_number" CV f fd) (T:RdC K C) (X1:TFm P w K mg base CT) (gd:GS mg "DIGITS" dz) (od:OkS dz)
 (M1:Mth P w K mg base 3 C "pick" ["self","signs"] (QL K C CT)) (M2:Mth P w K mg base 3 C "sees" ["self","signs"] (UP K C)):
 FnOk P w K mg base (CX1 P w) 4 f fd ["self","most"] (o0 K C CT dz):=by
 refine F.okx sc_wn λDk A outer s H vs Q E hr h=>?_;obtain⟨r,ta,cs,e,Dg,most,rfl,R,k⟩:=h;refine⟨_,AB (AZ 2 sc_wn (M1.call (pv 0) hr AD (AA (FH gd) AF)))
  (AB (AZ 3 sc_wn AI)
  (AB (B8 bh (CS (M2.call (pv 0) hr AD (AA (FH gd) AF)))
   (AB (AU (OR (AN CY (pv 3) (pv 1) (AQ _)) (KF (AN CY (pv 2) AI (AQ _)))).pt (AC (BF X1 hr AD rfl (AT (pv 0) rfl))) AK)
   (AB (AZ 2 sc_wn (BC C4 (BC IU AI (pv 2)) (M1.call (pv 0) hr AD (AA (FH gd) AF))))
   (AC (IR (i:=3) sc_wn.nd rfl (vT rfl) AI IS)))))
  (AC (AJ (pv 2))))),?_⟩
 and_intros
 obtain⟨dx,p,h1⟩:=R.ins;refine⟨_,rfl,r,dx,_,rfl,h1,GJ _ _ _ (by decide +kernel) (by decide +kernel) (by decide +kernel),r,ta,cs,e,Dg,dz,rfl,R,od,?_⟩;have k':=k;unfold wn at k';cases hp:pk dz Dg with
 |none=>rw[hp] at k';exact k'
 |some x=>
  obtain⟨d,t⟩:=x;rw[hp] at k';replace k':Got K C CT r ta cs e H Q E DS (G1 dz most 1 d t):=k';intro H1 R1 s1;refine⟨λm σ H'=>Ex3 λ(Dh:List UInt8) (v n:Nat)=>σ=[some (.ref r),some (.int (most:Nat)),some (.int (v:Nat)),some (.int (n:Nat))]/\Sb r H H'/\Rd K C H' r ta cs e Dh/\G1 dz most 1 d t=G1 dz most n v Dh/\m=Dh.length,
   ⟨t.length,t,d,1,rfl,s1,R1,rfl,rfl⟩,?_⟩
  rintro m σ H' ⟨Dh,v,n,rfl,sb,R',ew,rfl⟩;obtain⟨dx',p',h1'⟩:=R'.ins;refine⟨_,rfl,r,dx',_,rfl,h1',GJ _ _ _ (by decide +kernel) (by decide +kernel) (by decide +kernel),r,ta,cs,e,Dh,dz,rfl,R',od,λH2 s2=>⟨_,rfl,?_⟩⟩;have R2:=R'.same s2;have sb2:Sb r H H2:=sb.trans s2.sb;obtain⟨dx2,p2,h12⟩:=R2.ins;cases hs:see dz Dh with
  |false=>
   rw[aO hs] at ew;rw[ew] at k';exact BH ⟨_,rfl,k' H2 R2 sb2⟩
  |true=>
   obtain⟨d2,t2,hp2,hl⟩:=aM hs;rw[aN hp2] at ew;refine DZ ?_
   and_intros
   refine⟨_,rfl,_,rfl,rfl,_,rfl,B4 (λhc=>?_) (λhc=>?_)⟩
   ·have h0:n=most:=by
     have q:=of_decide_eq_true hc;injection q with q;omega
    rw[Dm (.inl h0)] at ew;rw[ew] at k';exact BS ⟨_,rfl,r,C,dx2,_,_,rfl,h12,T.cl,T.np,NN _ _ _,_,rfl,k' _⟩
   ·have h0:¬n=most:=λq=>hc (decide_eq_true (by rw[q]));refine⟨_,rfl,rfl,_,rfl,B4 (λhc2=>?_) (λhc2=>?_)⟩
    ·have h3:v=0:=by
      have q:=of_decide_eq_true hc2;injection q with q;omega
     rw[Dm (.inr h3)] at ew;rw[ew] at k';exact⟨_,rfl,r,C,dx2,_,_,rfl,h12,T.cl,T.np,NN _ _ _,_,rfl,k' _⟩
    ·have h3:¬v=0:=λq=>hc2 (decide_eq_true (by rw[q];rfl));rw[Dn (by rintro (q|q);exact h0 q;exact h3 q)] at ew;refine⟨_,rfl,_,_,rfl,rfl,.inl ⟨by decide,by decide⟩,_,rfl,r,dx2,_,rfl,h12,GJ _ _ _ (by decide +kernel) (by decide +kernel) (by decide +kernel),r,ta,cs,e,Dh,dz,rfl,R2,od,?_⟩;rw[hp2];intro H3 R3 s3;refine⟨_,_,rfl,rfl,?_⟩;refine⟨_,rfl,_,_,rfl,rfl,t2.length,by omega,t2,10*v+d2,n+1,?_,sb2.trans s3,R3,ew,rfl⟩;rfl
end
open PySem PySem.Spec PyProof.Rows L2
structure RdE (P:bb) (w:cb) (K:aa) (mg:Str->Option ah) (base:cr) (C CT:ag) (dz:Str):Prop where
 T:RdC K C
 X1:TFm P w K mg base CT
 mkr:Mkr P w K mg base 1 C "Reader" ["self","text","place","end"] (jR C)
 en:Mth P w K mg base 1 C "ended" ["self"] (aK K C)
 byt:Mth P w K mg base 2 C "byte" ["self"] (QK K C)
 se:Mth P w K mg base 3 C "sees" ["self","signs"] (UP K C)
 pi:Mth P w K mg base 3 C "pick" ["self","signs"] (QL K C CT)
 sk:Mth P w K mg base 4 C "skip" ["self","word"] (aL K C CT)
 wn:Mth P w K mg base 4 C "whole_number" ["self","most"] (o0 K C CT dz)
theorem oks (h:(z.cps.toList.all λc=>decide (c<256))=true):OkS z:=λc hc=>of_decide_eq_true (jv.mp h c hc)
inductive RdX (K:aa) (C:ag) (x:V) (H:Hp) (k:ag->ag->List UInt8->Nat->List UInt8->Prop):Prop
 |intro(r ta:ag) (cs:List UInt8) (e:Nat) (Dg:List UInt8) (ex:x= .ref r) (h:Rd K C H r ta cs e Dg) (q:k r ta cs e Dg):RdX K C x H k
def WL (K:aa) (C:ag) (to:TE) (z:Str):TT:=λσ H Q=>to σ H λx H1=>RdX K C x H1 λ_ _ _ _ Dg=>∀H',Same H1 H'->Q (see z Dg) H'
def jT (K:aa) (C:ag) (to:TE):TT:=λσ H Q=>to σ H λx H1=>RdX K C x H1 λ_ _ _ _ Dg=>Q Dg.isEmpty H1
def o7 (K:aa) (C:ag) (to:TE):TE:=λσ H Q=>to σ H λx H1=>RdX K C x H1 λ_ _ _ _ Dg=>Q (.int (bt Dg)) H1
def o8 (K:aa) (C CT:ag) (E:XK) (to:TE) (z:Str):TE:=λσ H Q=>to σ H λx H1=>RdX K C x H1 λr ta cs e Dg=>Got K C CT r ta cs e H1 Q E DS (pk z Dg)
def tWN (K:aa) (C CT:ag) (E:XK) (to:TE) (dz:Str) (most:Nat):TE:=λσ H Q=>to σ H λx H1=>RdX K C x H1 λr ta cs e Dg=>Got K C CT r ta cs e H1 Q E DS (wn dz most Dg)
def NO (K:aa) (C CT:ag) (E:XK) (to:TE) (z:Str):TS:=λD σ H=>to σ H λx H1=>RdX K C x H1 λr ta cs e Dg=>Got K C CT r ta cs e H1 (λ_ H'=>D.nx σ H') E YL (sk z.cps.toList Dg)
section
variable {X:Cx} {C CT:ag} {dz z:Str} {E:XK} {k':Nat} {o e:Expr} {to:TE} {apos pos spos:Pos} {most:Nat}
theorem WM (ta:ag) (p e:Int):(rf ta p e).lookup ("sees":Str)=none:=GJ _ _ _ (by decide +kernel) (by decide +kernel) (by decide +kernel)
theorem WN (ta:ag) (p e:Int):(rf ta p e).lookup ("pick":Str)=none:=GJ _ _ _ (by decide +kernel) (by decide +kernel) (by decide +kernel)
theorem QM (ta:ag) (p e:Int):(rf ta p e).lookup ("skip":Str)=none:=GJ _ _ _ (by decide +kernel) (by decide +kernel) (by decide +kernel)
theorem o9 (ta:ag) (p e:Int):(rf ta p e).lookup ("whole_number":Str)=none:=GJ _ _ _ (by decide +kernel) (by decide +kernel) (by decide +kernel)
theorem aP (ta:ag) (p e:Int):(rf ta p e).lookup ("ended":Str)=none:=GJ _ _ _ (by decide +kernel) (by decide +kernel) (by decide +kernel)
theorem eQ (ta:ag) (p e:Int):(rf ta p e).lookup ("byte":Str)=none:=GJ _ _ _ (by decide +kernel) (by decide +kernel) (by decide +kernel)
theorem BK {pl:Sem Bool} (R:RdE X.prog X.w X.K X.mg X.base C CT dz) (hr:Room k' X.A) (hx:Out X E) (ho:PE X o to) (hz:PE X e (tC (.str z))) (oz:OkS z) (hk:3<=k':=by decide)
 (hst:be [e] X.env=(false,eval e X.env)::be [] X.env:=by rfl)
 (hti:∀whole,yz (.Call (.Attribute o "sees" apos) [e] [] pos) X.env whole=(do let v←whole;nq (Db (.Attribute o "sees" apos) [e] [] pos).pos;mj [v] (truthy v)):=by intro _;rfl)
 (ht:eval (.Call (.Attribute o "sees" apos) [e] [] pos) X.env=(do
  let ov←eval o X.env
  nq apos.atName
  let (f,first)←mj [ov] (kz ov "sees" pl)
  nz pos f first (ie pos (be [e] X.env)) (kf pos (gr [] X.env))):=by rfl):
 PT X (.Call (.Attribute o "sees" apos) [e] [] pos) (WL X.K C to z):=by
 intro Df s σ H Q I h;refine CS (R.se.call (E:=E) (IO (K0:=λx H1=>RdX X.K C x H1 λ_ _ _ _ Dg=>∀H',Same H1 H'->Q (see z Dg) H') ho) hr hx (AA hz AF hst) hk hst rfl ht) hti Df s σ H Q I ⟨h,λx H1 ⟨r,ta,cs,e,Dg,ex,Rr,q⟩=>?_⟩;obtain⟨dx,p,h1⟩:=Rr.ins;exact⟨r,dx,_,ex,h1,WM _ _ _,r,ta,cs,e,Dg,z,by rw[ex];rfl,Rr,oz,λH' s'=>⟨_,rfl,q H' s'⟩⟩
theorem J4 {pl:Sem Bool} (R:RdE X.prog X.w X.K X.mg X.base C CT dz) (hr:Room k' X.A) (hx:Out X E) (ho:PE X o to) (hk:1<=k':=by decide)
 (hti:∀whole,yz (.Call (.Attribute o "ended" apos) [] [] pos) X.env whole=(do let v←whole;nq (Db (.Attribute o "ended" apos) [] [] pos).pos;mj [v] (truthy v)):=by intro _;rfl)
 (ht:eval (.Call (.Attribute o "ended" apos) [] [] pos) X.env=(do
  let ov←eval o X.env
  nq apos.atName
  let (f,first)←mj [ov] (kz ov "ended" pl)
  nz pos f first (ie pos (be [] X.env)) (kf pos (gr [] X.env))):=by rfl):
 PT X (.Call (.Attribute o "ended" apos) [] [] pos) (jT X.K C to):=by
 intro Df s σ H Q I h;refine CS (R.en.call0 (E:=E) (IO (K0:=λx H1=>RdX X.K C x H1 λ_ _ _ _ Dg=>Q Dg.isEmpty H1) ho) hr hx hk ht) hti Df s σ H Q I ⟨h,λx H1 ⟨r,ta,cs,e,Dg,ex,Rr,q⟩=>?_⟩;obtain⟨dx,p,h1⟩:=Rr.ins;exact⟨r,dx,_,ex,h1,aP _ _ _,r,ta,cs,e,Dg,by rw[ex];rfl,Rr,_,rfl,q⟩
theorem WO {pl:Sem Bool} (R:RdE X.prog X.w X.K X.mg X.base C CT dz) (hr:Room k' X.A) (hx:Out X E) (ho:PE X o to) (hk:2<=k':=by decide)
 (ht:eval (.Call (.Attribute o "byte" apos) [] [] pos) X.env=(do
  let ov←eval o X.env
  nq apos.atName
  let (f,first)←mj [ov] (kz ov "byte" pl)
  nz pos f first (ie pos (be [] X.env)) (kf pos (gr [] X.env))):=by rfl):
 PE X (.Call (.Attribute o "byte" apos) [] [] pos) (o7 X.K C to):=by
 intro Df s σ H Q I h;refine R.byt.call0 (E:=E) (IO (K0:=λx H1=>RdX X.K C x H1 λ_ _ _ _ Dg=>Q (.int (bt Dg)) H1) ho) hr hx hk ht Df s σ H Q I ⟨h,λx H1 ⟨r,ta,cs,e,Dg,ex,Rr,q⟩=>?_⟩;obtain⟨dx,p,h1⟩:=Rr.ins;exact⟨r,dx,_,ex,h1,eQ _ _ _,r,ta,cs,e,Dg,by rw[ex];rfl,Rr,q⟩
theorem E4 {pl:Sem Bool} (R:RdE X.prog X.w X.K X.mg X.base C CT dz) (hr:Room k' X.A) (hx:Out X E) (ho:PE X o to) (hz:PE X e (tC (.str z))) (oz:OkS z) (hk:3<=k':=by decide)
 (hst:be [e] X.env=(false,eval e X.env)::be [] X.env:=by rfl)
 (ht:eval (.Call (.Attribute o "pick" apos) [e] [] pos) X.env=(do
  let ov←eval o X.env
  nq apos.atName
  let (f,first)←mj [ov] (kz ov "pick" pl)
  nz pos f first (ie pos (be [e] X.env)) (kf pos (gr [] X.env))):=by rfl):
 PE X (.Call (.Attribute o "pick" apos) [e] [] pos) (o8 X.K C CT E to z):=by
 intro Df s σ H Q I h;refine R.pi.call (E:=E) (IO (K0:=λx H1=>RdX X.K C x H1 λr ta cs e Dg=>Got X.K C CT r ta cs e H1 Q E DS (pk z Dg)) ho) hr hx (AA hz AF hst) hk hst rfl ht Df s σ H Q I ⟨h,λx H1 ⟨r,ta,cs,e,Dg,ex,Rr,q⟩=>?_⟩;obtain⟨dx,p,h1⟩:=Rr.ins;exact⟨r,dx,_,ex,h1,WN _ _ _,r,ta,cs,e,Dg,z,by rw[ex];rfl,Rr,oz,q⟩
theorem WP {pl:Sem Bool} (R:RdE X.prog X.w X.K X.mg X.base C CT dz) (hr:Room k' X.A) (hx:Out X E) (ho:PE X o to) (hz:PE X e (tC (.int (most:Nat)))) (hk:4<=k':=by decide)
 (hst:be [e] X.env=(false,eval e X.env)::be [] X.env:=by rfl)
 (ht:eval (.Call (.Attribute o "whole_number" apos) [e] [] pos) X.env=(do
  let ov←eval o X.env
  nq apos.atName
  let (f,first)←mj [ov] (kz ov "whole_number" pl)
  nz pos f first (ie pos (be [e] X.env)) (kf pos (gr [] X.env))):=by rfl):
 PE X (.Call (.Attribute o "whole_number" apos) [e] [] pos) (tWN X.K C CT E to dz most):=by
 intro Df s σ H Q I h;refine R.wn.call (E:=E) (IO (K0:=λx H1=>RdX X.K C x H1 λr ta cs e Dg=>Got X.K C CT r ta cs e H1 Q E DS (wn dz most Dg)) ho) hr hx (AA hz AF hst) hk hst rfl ht Df s σ H Q I ⟨h,λx H1 ⟨r,ta,cs,e,Dg,ex,Rr,q⟩=>?_⟩;obtain⟨dx,p,h1⟩:=Rr.ins;exact⟨r,dx,_,ex,h1,o9 _ _ _,r,ta,cs,e,Dg,most,by rw[ex];rfl,Rr,q⟩
theorem BL {pl:Sem Bool} (R:RdE X.prog X.w X.K X.mg X.base C CT dz) (hr:Room k' X.A) (hx:Out X E) (ho:PE X o to) (hz:PE X e (tC (.str z))) (oz:OkS z) (hk:4<=k':=by decide)
 (hst:be [e] X.env=(false,eval e X.env)::be [] X.env:=by rfl) (hsw:qm (.Call (.Attribute o "skip" apos) [e] [] pos) none spos.line X.env=pure false:=by rfl)
 (ht:eval (.Call (.Attribute o "skip" apos) [e] [] pos) X.env=(do
  let ov←eval o X.env
  nq apos.atName
  let (f,first)←mj [ov] (kz ov "skip" pl)
  nz pos f first (ie pos (be [e] X.env)) (kf pos (gr [] X.env))):=by rfl):
 PS X (.Expr (.Call (.Attribute o "skip" apos) [e] [] pos) spos) (NO X.K C CT E to z):=by
 intro Df s σ H D I h;refine AY (R.sk.call (E:=E) (IO (K0:=λx H1=>RdX X.K C x H1 λr ta cs e Dg=>Got X.K C CT r ta cs e H1 (λ_ H'=>D.nx σ H') E YL (sk z.cps.toList Dg)) ho) hr hx (AA hz AF hst) hk hst rfl ht) hsw Df s σ H D I ⟨h,λx H1 ⟨r,ta,cs,e,Dg,ex,Rr,q⟩=>?_⟩;obtain⟨dx,p,h1⟩:=Rr.ins;exact⟨r,dx,_,ex,h1,QM _ _ _,r,ta,cs,e,Dg,z,by rw[ex];rfl,Rr,oz,q⟩
def QN (K:aa) (C:ag) (to:TE):TE:=λσ H Q=>to σ H λx H1=>RdX K C x H1 λ_ _ _ _ _=>∀z:Int,Q (.int z) H1
theorem B5 (R:RdE X.prog X.w X.K X.mg X.base C CT dz) (ho:PE X o to) (hb:jy o "place" X.env (eval o X.env)=eval o X.env:=by rfl):PE X (.Attribute o "place" pos) (QN X.K C to):=by
 intro Df s σ H Q I h;refine AT (IO (K0:=λx H1=>RdX X.K C x H1 λ_ _ _ _ _=>∀z:Int,Q (.int z) H1) ho) hb Df s σ H Q I ⟨h,λx H1 ⟨r,ta,cs,e,Dg,ex,Rr,q⟩=>?_⟩;obtain⟨dx,p,h1⟩:=Rr.ins;exact⟨r,C,dx,_,_,ex,h1,R.T.cl,R.T.np,NN _ _ _,q _⟩
end
open PySem PySem.Spec PyProof.Rows L2
theorem AL {K:aa} {enc:α->V} {res:Option (α×List UInt8)} (h:res=none) (k:∀z:Int,E (.ref CT) none (xH [("place",.int z)])):Got K CR CT r ta cs e H Q E enc res:=by
 rw[h];exact k
theorem AM {K:aa} {enc:α->V} {res:Option (α×List UInt8)} {v:α} (h:res=some (v,t)) (k:∀H',Rd K CR H' r ta cs e t->Sb r H H'->Q (enc v) H'):Got K CR CT r ta cs e H Q E enc res:=by
 rw[h];exact k
def UQ (K:aa) (CR CT r ta:ag) (cs:List UInt8) (e:Nat) (H:Hp) (Q:VK) (E:XK):Option (List Int×List UInt8)->Prop
 |some (l,Dh)=>∀H' a,Rd K CR H' r ta cs e Dh->Sb r H H'->SqT K H' a (l.map V.int)->Q (.ref a) H'
 |none=>∀z:Int,E (.ref CT) none (xH [("place",.int z)])
def G0 {α:Type} (K:aa) (C CT:ag) (m:List UInt8->Option (α×List UInt8)) (enc:α->V):Sp:=λvs H Q E=>Ex5 λ(r ta:ag) (cs:List UInt8) (e:Nat) (Dg:List UInt8)=>vs=[.ref r]/\Rd K C H r ta cs e Dg/\Got K C CT r ta cs e H Q E enc (m Dg)
def FI (K:aa) (C CT:ag) (m:List UInt8->Option (List Int×List UInt8)):Sp:=λvs H Q E=>Ex5 λ(r ta:ag) (cs:List UInt8) (e:Nat) (Dg:List UInt8)=>vs=[.ref r]/\Rd K C H r ta cs e Dg/\UQ K C CT r ta cs e H Q E (m Dg)
def aQ (K:aa) (C CT:ag) (m:List UInt8->Option (List Int×List UInt8)):Sp:=λvs H Q E=>Ex6 λ(r ta:ag) (cs:List UInt8) (e:Nat) (Dg:List UInt8) (st:Int)=>vs=[.ref r,.int st]/\Rd K C H r ta cs e Dg/\UQ K C CT r ta cs e H Q E (m Dg)
def mU {α:Type} (K:aa) (C CT:ag) (E:XK) (to:TE) (m:List UInt8->Option (α×List UInt8)) (enc:α->V):TE:=λσ H Q=>to σ H λx H1=>RdX K C x H1 λr ta cs e Dg=>Got K C CT r ta cs e H1 Q E enc (m Dg)
def pB (K:aa) (C CT:ag) (E:XK) (to:TE) (m:List UInt8->Option (List Int×List UInt8)):TE:=λσ H Q=>to σ H λx H1=>RdX K C x H1 λr ta cs e Dg=>UQ K C CT r ta cs e H1 Q E (m Dg)
section
variable {X:Cx} {C CT:ag} {E:XK} {k k':Nat} {f pn:Str} {o:Expr} {to:TE} {p pos:Pos}
theorem KY {m:List UInt8->Option (α×List UInt8)} {enc:α->V} (D:Def X.prog X.w X.K X.mg X.base k f [pn] (G0 X.K C CT m enc)) (hr:Room k' X.A) (hx:Out X E) (ho:PE X o to) (hk:k<=k':=by decide) (hg:Gl X f:=by rfl)
 (hdb:(f==("__debug__":Str))=false:=by decide) (hst:be [o] X.env=(false,eval o X.env)::be [] X.env:=by rfl):PE X (.Call (.Name f p) [o] [] pos) (mU X.K C CT E to m enc):=by
 intro Df s σ H Q I h;refine D.call (E:=E) hr hx (AA (IO (K0:=λx H1=>RdX X.K C x H1 λr ta cs e Dg=>Got X.K C CT r ta cs e H1 Q E enc (m Dg)) ho) AF hst) hk hg hdb hst rfl Df s σ H Q I ⟨h,λx H1 ⟨r,ta,cs,e,Dg,ex,Rr,q⟩=>?_⟩;exact⟨r,ta,cs,e,Dg,by rw[ex];rfl,Rr,q⟩
theorem GZ {m:List UInt8->Option (List Int×List UInt8)} (D:Def X.prog X.w X.K X.mg X.base k f [pn] (FI X.K C CT m)) (hr:Room k' X.A) (hx:Out X E) (ho:PE X o to) (hk:k<=k':=by decide) (hg:Gl X f:=by rfl)
 (hdb:(f==("__debug__":Str))=false:=by decide) (hst:be [o] X.env=(false,eval o X.env)::be [] X.env:=by rfl):PE X (.Call (.Name f p) [o] [] pos) (pB X.K C CT E to m):=by
 intro Df s σ H Q I h;refine D.call (E:=E) hr hx (AA (IO (K0:=λx H1=>RdX X.K C x H1 λr ta cs e Dg=>UQ X.K C CT r ta cs e H1 Q E (m Dg)) ho) AF hst) hk hg hdb hst rfl Df s σ H Q I ⟨h,λx H1 ⟨r,ta,cs,e,Dg,ex,Rr,q⟩=>?_⟩;exact⟨r,ta,cs,e,Dg,by rw[ex];rfl,Rr,q⟩
end
def mUn (l:List UInt8):Option (List Int×List UInt8):=match sk ("1":Str).cps.toList l with
 |none=>none
 |some (_,t)=>if t.isEmpty=true then some ([0,0,0,0,1],t) else none
def mSg (dz:Str) (l:List UInt8):Option (Int×List UInt8):=if see "-" l=true then(match sk ("-":Str).cps.toList l with
 |none=>none
 |some (_,t)=>if see "0" t=true then none else match wn dz 4 t with
  |none=>none
  |some (n,u)=>some (-(n:Int),u))
 else match wn dz 4 l with
  |none=>none
  |some (n,u)=>some ((n:Int),u)
def mPw (dz:Str) (l:List UInt8):Option (List Int×List UInt8):=if see "^" l=true then(match sk ("^":Str).cps.toList l with
 |none=>none
 |some (_,t)=>match mSg dz t with
  |none=>none
  |some (n,u)=>if see "/" u=true then(match sk ("/":Str).cps.toList u with
   |none=>none
   |some (_,v)=>match wn dz 4 v with
    |none=>none
    |some (d,y)=>if d<2\/1<qr n d then none else some ([n,(d:Int)],y))
   else if n=0\/n=1 then none else some ([n,1],u))
 else some ([1,1],l)
def pC (n:Int):V:=.int n
section
variable {P:bb} {w:cb} {K:aa} {mg:Str->Option ah} {base:cr} {C CT:ag} {dz:Str}
theorem pD:FnScope ["reader"] ["reader"] (AH F7):={}
theorem pE (F:Fun K "read_unison" "read_unison" F7 f fd) (R:RdE P w K mg base C CT dz) (gu:GT K mg "UNISON" (([0,0,0,0,1]:List Int).map V.int)):FnOk P w K mg base (CX1 P w) 5 f fd ["reader"] (FI K C CT mUn):=by
 refine F.okx pD λDk A outer s H vs Q E hr h=>?_;obtain⟨r,ta,cs,e,Dg,rfl,Rr,k⟩:=h;refine⟨_,AB (BL R hr AD (pv 0) AV (oks (by decide +kernel))) (AB (AU (DT (J4 R hr AD (pv 0))) (AC (BF R.X1 hr AD rfl (B5 R (pv 0)))) AK) (AC (AJ (O9 gu)))),?_⟩
 and_intros
 unfold mUn at k;refine⟨_,rfl,r,ta,cs,e,Dg,rfl,Rr,?_⟩;cases hs:sk ("1":Str).cps.toList Dg with
 |none=>rw[hs] at k;exact AL rfl k
 |some x=>
  obtain⟨_,t⟩:=x;rw[hs] at k;refine AM rfl λH1 R1 s1=>?_;refine⟨_,rfl,r,ta,cs,e,t,rfl,R1,?_⟩;cases t with
  |nil=>exact BH λa ha=>k H1 a R1 s1 (ha H1)
  |cons c t=>exact BS ⟨_,rfl,r,ta,cs,e,_,rfl,R1,λz=>⟨z,rfl,k z⟩⟩
theorem pF:FnScope ["reader"] ["reader"] (AH F8):={}
theorem pG (F:Fun K "read_signed" "read_signed" F8 f fd) (R:RdE P w K mg base C CT dz) (gm:GI mg "MOST_DIGITS" ((4:Nat):Int)):FnOk P w K mg base (CX1 P w) 5 f fd ["reader"] (G0 K C CT (mSg dz) pC):=by
 refine F.okx pF λDk A outer s H vs Q E hr h=>?_;obtain⟨r,ta,cs,e,Dg,rfl,Rr,k⟩:=h;refine⟨_,AB (AU (DT (BK R hr AD (pv 0) AV (oks (by decide +kernel)))) (AC (AJ (WP (most:=4) R hr AD (pv 0) (BZ gm)))) AK)
  (AB (BL R hr AD (pv 0) AV (oks (by decide +kernel)))
  (AB (AU (BK R hr AD (pv 0) AV (oks (by decide +kernel))) (AC (BF R.X1 hr AD rfl (B5 R (pv 0)))) AK)
  (AC (AJ (G4 E7 (WP (most:=4) R hr AD (pv 0) (BZ gm))))))),?_⟩
 and_intros
 unfold mSg at k;refine⟨_,rfl,r,ta,cs,e,Dg,rfl,Rr,λH1 s1=>?_⟩;have R1:=Rr.same s1;cases hm:see "-" Dg with
 |false=>
  rw[Dn (by rw[hm];decide)] at k;refine BS ⟨_,rfl,r,ta,cs,e,Dg,rfl,R1,?_⟩;cases hw:wn dz 4 Dg with
  |none=>rw[hw] at k;exact AL rfl k
  |some x=>
   obtain⟨n,u⟩:=x;rw[hw] at k;exact AM rfl λH2 R2 s2=>k H2 R2 (s1.sb.trans s2)
 |true=>
  rw[Dm hm] at k;refine BH ⟨_,rfl,r,ta,cs,e,Dg,rfl,R1,?_⟩;cases hs:sk ("-":Str).cps.toList Dg with
  |none=>rw[hs] at k;exact AL rfl k
  |some x=>
   obtain⟨_,t⟩:=x;rw[hs] at k;refine AM rfl λH2 R2 s2=>?_;refine⟨_,rfl,r,ta,cs,e,t,rfl,R2,λH3 s3=>?_⟩;have R3:=R2.same s3;cases h0:see "0" t with
   |true=>
    replace k:∀z:Int,E (.ref CT) none (xH [("place",.int z)]):=by
     have k':=k;simp only[h0,if_true] at k';exact k'
    exact BS ⟨_,rfl,r,ta,cs,e,_,rfl,R3,λz=>⟨z,rfl,k z⟩⟩
   |false=>
    simp only[h0,fx,if_false] at k;refine BH ⟨_,rfl,r,ta,cs,e,t,rfl,R3,?_⟩;cases hw:wn dz 4 t with
    |none=>rw[hw] at k;exact AL rfl k
    |some x=>
     obtain⟨n,u⟩:=x;rw[hw] at k;exact AM rfl λH4 R4 s4=>⟨_,rfl,k H4 R4 (((s1.sb.trans s2).trans s3.sb).trans s4)⟩
theorem aR:FnScope ["reader","start","top","below"] ["reader","start"] (AH GQ):={}
theorem pH (F:Fun K "read_power" "read_power" GQ f fd) (R:RdE P w K mg base C CT dz) (gm:GI mg "MOST_DIGITS" ((4:Nat):Int)) (D1:Def P w K mg base 5 "read_signed" ["reader"] (G0 K C CT (mSg dz) pC))
 (D2:Def P w K mg base 1 "common_factor" ["x","y"] jM):FnOk P w K mg base (CX1 P w) 6 f fd ["reader","start"] (aQ K C CT (mPw dz)):=by
 refine F.okx aR λDk A outer s H vs Q E hr h=>?_;obtain⟨r,ta,cs,e,Dg,st,rfl,Rr,k⟩:=h;refine⟨_,AB (AU (DT (BK R hr AD (pv 0) AV (oks (by decide +kernel)))) (AC (AJ (E8 (AA AI (AA AI AF))))) AK)
  (AB (BL R hr AD (pv 0) AV (oks (by decide +kernel)))
  (AB (AZ 2 aR (KY D1 hr AD (pv 0)))
  (AB (AU (DT (BK R hr AD (pv 0) AV (oks (by decide +kernel))))
   (AB (AU (OR (AN CY (pv 2) AI (AQ _)) (KF (AN CY (pv 2) AI (AQ _)))).pt (AC (BF R.X1 hr AD rfl (pv 1))) AK) (AC (AJ (E8 (AA (pv 2) (AA AI AF)))))) AK)
  (AB (BL R hr AD (pv 0) AV (oks (by decide +kernel)))
  (AB (AZ 3 aR (WP (most:=4) R hr AD (pv 0) (BZ gm)))
  (AB (AU (OR (AN IK (pv 3) AI (AQ _)) (KF (AN EZ (D2.call hr AD (AA (pv 2) (AA (pv 3) AF))) AI (AQ _)))).pt (AC (BF R.X1 hr AD rfl (pv 1))) AK)
  (AC (AJ (E8 (AA (pv 2) (AA (pv 3) AF))))))))))),?_⟩
 and_intros
 unfold mPw at k;refine⟨_,rfl,r,ta,cs,e,Dg,rfl,Rr,λH1 s1=>?_⟩;have R1:=Rr.same s1;cases hm:see "^" Dg with
 |false=>
  rw[Dn (by rw[hm];decide)] at k;refine BS ⟨(by show 2<=sizeLine;decide),λt ht=>?_⟩;exact k _ t (R1.same (Same.upd ht)) (s1.trans (Same.upd ht)).sb (SqT.of upd_same)
 |true=>
  rw[Dm hm] at k;refine BH ⟨_,rfl,r,ta,cs,e,Dg,rfl,R1,?_⟩;cases hs:sk ("^":Str).cps.toList Dg with
  |none=>rw[hs] at k;exact AL rfl k
  |some x=>
   obtain⟨_,t⟩:=x;rw[hs] at k;refine AM rfl λH2 R2 s2=>?_;refine⟨_,rfl,r,ta,cs,e,t,rfl,R2,?_⟩;cases hg:mSg dz t with
   |none=>simp only[hg] at k;exact AL rfl k
   |some x=>
    obtain⟨n,u⟩:=x;simp only[hg] at k;refine AM rfl λH3 R3 s3=>?_;refine⟨_,rfl,r,ta,cs,e,u,rfl,R3,λH4 s4=>?_⟩;have R4:=R3.same s4;have sb4:Sb r H H4:=((s1.sb.trans s2).trans s3).trans s4.sb;cases hl:see "/" u with
    |false=>
     simp only[hl,fx,if_false] at k;refine BS ⟨V.int n,rfl,rfl,_,rfl,B4 (λh0=>?_) (λh0=>?_)⟩
     ·have e0:n=0:=by
       have q:=of_decide_eq_true h0;injection q
      rw[Dm (.inl e0)] at k;exact BS ⟨_,rfl,_,rfl,k _⟩
     ·have e0:¬n=0:=λq=>h0 (decide_eq_true (by rw[q]));refine⟨V.int n,rfl,rfl,_,rfl,B4 (λh1=>?_) (λh1=>?_)⟩
      ·have e1:n=1:=by
        have q:=of_decide_eq_true h1;injection q
       rw[Dm (.inr e1)] at k;exact⟨_,rfl,_,rfl,k _⟩
      ·have e1:¬n=1:=λq=>h1 (decide_eq_true (by rw[q]));rw[Dn (by rintro (q|q);exact e0 q;exact e1 q)] at k;refine⟨V.int n,rfl,(by show 2<=sizeLine;decide),λt ht=>?_⟩;exact k _ t (R4.same (Same.upd ht)) (sb4.trans (Same.upd ht).sb) (SqT.of upd_same)
    |true=>
     simp only[hl,if_true] at k;refine BH ⟨_,rfl,r,ta,cs,e,u,rfl,R4,?_⟩;cases hs2:sk ("/":Str).cps.toList u with
     |none=>rw[hs2] at k;exact AL rfl k
     |some x=>
      obtain⟨_,v⟩:=x;rw[hs2] at k;refine AM rfl λH5 R5 s5=>?_;refine⟨_,rfl,r,ta,cs,e,v,rfl,R5,?_⟩;cases hw:wn dz 4 v with
      |none=>simp only[hw] at k;exact AL rfl k
      |some x=>
       obtain⟨d,y⟩:=x;simp only[hw] at k;refine AM rfl λH6 R6 s6=>?_;have sb6:Sb r H H6:=(sb4.trans s5).trans s6;refine⟨V.int (d:Nat),rfl,_,_,rfl,rfl,_,rfl,B4 (λh0=>?_) (λh0=>?_)⟩
       ·have e0:d<2:=by
         have:(d:Int)<2:=by simpa using h0
         omega
        rw[Dm (.inl e0)] at k;exact BS ⟨_,rfl,_,rfl,k _⟩
       ·have e0:¬d<2:=by
         have:¬(d:Int)<2:=by simpa using h0
         omega
        refine⟨V.int n,rfl,V.int (d:Nat),rfl,n,(d:Nat),rfl,_,_,rfl,rfl,_,rfl,B4 (λh1=>?_) (λh1=>?_)⟩
        ·have e1:1<qr n d:=by
          have:(1:Int)<(qr n d:Nat):=by simpa using h1
          omega
         rw[Dm (.inr e1)] at k;exact⟨_,rfl,_,rfl,k _⟩
        ·have e1:¬1<qr n d:=by
          have:¬(1:Int)<(qr n d:Nat):=by simpa using h1
          omega
         rw[Dn (by rintro (q|q);exact e0 q;exact e1 q)] at k;refine⟨V.int n,rfl,V.int (d:Nat),rfl,(by show 2<=sizeLine;decide),λt ht=>?_⟩;exact k _ t (R6.same (Same.upd ht)) (sb6.trans (Same.upd ht).sb) (SqT.of upd_same)
end
open PySem PySem.Spec PyProof.Rows L2
theorem EY {l:List UInt8} (h:pk z l=some (n,t)):t.length+1=l.length/\n<z.cps.toList.length:=by
 cases l with
 |nil=>cases h
 |cons c u=>
  rw[BW] at h;cases hi:BV z.cps.toList (c.toNat:Nat) with
  |none=>rw[hi] at h;cases h
  |some m=>
   rw[hi] at h;cases h;refine⟨rfl,?_⟩;unfold BV at hi;rw[md] at hi;exact hi.1
theorem BN:∀{x:List Nat} {l t:List UInt8} {u:Unit},sk x l=some (u,t)->t.length+x.length=l.length
 |[],l,t,u,h=>by cases h;simp
 |x::w,[],t,u,h=>by cases h
 |x::w,c::l,t,u,h=>by
  rw[sk] at h;split at h
  ·have:=BN h;simp;omega
  ·cases h
theorem WQ {most:Nat} (hz:z.cps.toList.length<=10):∀{l t:List UInt8} {n v r:Nat},G1 z most n v l=some (r,t)->t.length<=l.length/\(n<=most->v<10 ^ n->r<10 ^ most)
 |[],t,n,v,r,h=>by
  rw[G1] at h;cases h;exact⟨aw _,λh1 h2=>bv h2 (mq (by decide) h1)⟩
 |c::l,t,n,v,r,h=>by
  rw[G1] at h;cases hi:BV z.cps.toList (c.toNat:Nat) with
  |none=>
   simp only[hi] at h;cases h;exact⟨aw _,λh1 h2=>bv h2 (mq (by decide) h1)⟩
  |some d=>
   simp only[hi] at h;split at h
   ·cases h
   ·rename_i hc;have hd:d<10:=by
     unfold BV at hi;rw[md] at hi;have:=hi.1;omega
    obtain⟨h3,h4⟩:=WQ hz h;refine⟨by simp;omega,λh1 h2=>h4 ?_ ?_⟩
    ·have:¬n=most:=λq=>hc (.inl q);omega
    ·rw[Bp];omega
theorem aS {most:Nat} {l:List UInt8} (hz:z.cps.toList.length<=10) (hm:1<=most) (h:wn z most l=some (n,t)):t.length<l.length/\n<10 ^ most:=by
 unfold wn at h;cases hp:pk z l with
 |none=>rw[hp] at h;cases h
 |some x=>
  obtain⟨d,u⟩:=x;rw[hp] at h;have h1:=EY hp;obtain⟨h2,h3⟩:=WQ hz h;exact⟨by omega,h3 hm (by omega)⟩
theorem jU {n:Int} {l:List UInt8} (hz:z.cps.toList.length<=10) (h:mSg z l=some (n,t)):t.length<=l.length/\n.natAbs<10000:=by
 unfold mSg at h;split at h
 ·cases hs:sk ("-":Str).cps.toList l with
  |none=>rw[hs] at h;cases h
  |some x=>
   obtain⟨_,u⟩:=x;simp only[hs] at h;split at h
   ·cases h
   ·cases hw:wn z 4 u with
    |none=>simp only[hw] at h;cases h
    |some x=>
     obtain⟨m,v⟩:=x;simp only[hw] at h;cases h;have h1:=BN hs;have h2:=aS hz (by decide) hw;refine⟨by omega,?_⟩;have:m<10000:=h2.2;omega
 ·cases hw:wn z 4 l with
  |none=>simp only[hw] at h;cases h
  |some x=>
   obtain⟨m,v⟩:=x;simp only[hw] at h;cases h;have h2:=aS hz (by decide) hw;refine⟨by omega,?_⟩;have:m<10000:=h2.2;omega
theorem jV {l:List UInt8} (hz:z.cps.toList.length<=10) (h:mPw z l=some (x,t)):t.length<=l.length/\Ex2 λ(n:Int) (d:Nat)=>x=[n,(d:Int)]/\n.natAbs<10000/\1<=d/\d<10000:=by
 unfold mPw at h;split at h
 ·cases hs:sk ("^":Str).cps.toList l with
  |none=>rw[hs] at h;cases h
  |some y=>
   obtain⟨_,u⟩:=y;simp only[hs] at h;have h1:=BN hs;cases hg:mSg z u with
   |none=>simp only[hg] at h;cases h
   |some y=>
    obtain⟨n,v⟩:=y;simp only[hg] at h;have h2:=jU hz hg;split at h
    ·cases hs2:sk ("/":Str).cps.toList v with
     |none=>rw[hs2] at h;cases h
     |some y=>
      obtain⟨_,q⟩:=y;simp only[hs2] at h;have h3:=BN hs2;cases hw:wn z 4 q with
      |none=>simp only[hw] at h;cases h
      |some y=>
       obtain⟨d,q2⟩:=y;simp only[hw] at h;have h4:=aS hz (by decide) hw;split at h
       ·cases h
       ·rename_i hc;cases h;have:¬d<2:=λq=>hc (.inl q);have:d<10000:=h4.2;exact⟨by omega,n,d,rfl,h2.2,by omega,by omega⟩
    ·split at h
     ·cases h
     ·cases h;exact⟨by omega,n,1,rfl,h2.2,by decide,by decide⟩
 ·cases h;exact⟨aw _,1,1,rfl,by decide,by decide,by decide⟩
def LZ (k:Nat) (n d:Int):List Int:=[0,0,0,0,d].set k n
def un5:List Int:=[0,0,0,0,1]
def mFc (dz fz:Str):Nat->Nat->List Int->List UInt8->Option (List Int×List UInt8)
 |0,_,_,_=>none
 |f+1,least,pr,l=>match pk fz l with
  |none=>none
  |some (k,t)=>match mPw dz t with
   |none=>none
   |some (x,u)=>if k<least then none else
    let pr':=BQ (LZ k (x.getD 0 0) (x.getD 1 0)) pr
    if u.isEmpty=true then some (pr',u) else match sk (" ":Str).cps.toList u with
     |none=>none
     |some (_,v)=>mFc dz fz f (k+1) pr' v
theorem NQ (x y:List Int):(BQ x y).length=5:=by simp[BQ,EF]
theorem jW (x y:List Int):(BQ x y).getD 4 0=(x.getD 4 0*y.getD 4 0) / (BY (EF x y):Int):=by
 unfold BQ;have:(EF x y)[4]? =some (x.getD 4 0*y.getD 4 0):=by unfold EF;rfl
 simp[vd,au,this]
theorem aU {y:List Int} (hx:0<x.getD 4 0) (hy:0<y.getD 4 0):0<(BQ x y).getD 4 0/\(BQ x y).getD 4 0<=x.getD 4 0*y.getD 4 0:=by
 rw[jW];have hg:=WJ hx hy;have hp:0<x.getD 4 0*y.getD 4 0:=y3 hx hy;obtain⟨q,hq⟩:=JF (KR x y);have e:x.getD 4 0*y.getD 4 0 / (BY (EF x y):Int)=q:=by rw[hq];exact rj q (by omega)
 rw[e];have hq0:0<q:=by
  rw[hq] at hp;exact Int.pos_of_mul_pos_right hp (by omega)|>λh=>h
 refine⟨hq0,?_⟩;rw[hq];have:1*q<=(BY (EF x y):Int)*q:=Int.mul_le_mul_of_nonneg_right (by omega) (by omega);omega
theorem pI {k:Nat} (hk:k<4) (n d:Int):(LZ k n d).getD 4 0=d/\(LZ k n d).length=5:=by
 match k,hk with
 |0,_=>exact⟨rfl,rfl⟩
 |1,_=>exact⟨rfl,rfl⟩
 |2,_=>exact⟨rfl,rfl⟩
 |3,_=>exact⟨rfl,rfl⟩
theorem eR {k:Nat} (hk:k<4) {n d z:Int} (h:z∈LZ k n d):z=0\/z=n\/z=d:=by
 rcases List.mem_or_eq_of_mem_set h with h|h
 ·have h':z=0\/z=d:=by simpa using h
  rcases h' with h|h
  ·exact .inl h
  ·exact .inr (.inr h)
 ·exact .inr (.inl h)
theorem Sb.tup {K:aa} {dx:ag} {fs:List (Str×V)} (s:Sb r H H') (hr:H r=some (.ins C dx fs)) (h:SqT K H a xs):SqT K H' a xs:=by
 rcases h with(h|⟨o,h⟩)|h
 ·exact .inl (.inl (s _ _ h (B6 h hr (by intro z;cases z))))
 ·exact .inl (.inr ⟨o,s _ _ h (B6 h hr (by intro z;cases z))⟩)
 ·exact .inr h
def pJ (K:aa):Sp:=λvs H Q _=>Ex4 λ(k:Nat) (pa:ag) (n d:Int)=>vs=[.int (k:Nat),.ref pa]/\k<4/\SqT K H pa (([n,d]:List Int).map V.int)/\∀H' a,Same H H'->H' a=some (.tup ((LZ k n d).map V.int))->Q (.ref a) H'
section
variable {P:bb} {w:cb} {K:aa} {mg:Str->Option ah} {base:cr} {C CT:ag} {dz fz:Str}
theorem gS:FnScope ["factor","power","numbers"] ["factor","power"] (AH DV):={}
theorem pK (F:Fun K "power_of_factor" "power_of_factor" DV f fd) (B:Blt mg):FnOk P w K mg base (CX1 P w) 1 f fd ["factor","power"] (pJ K):=by
 refine F.okx gS λDk A outer s H vs Q E hr h=>?_;obtain⟨k,pa,n,d,rfl,hk,hp,q⟩:=h;refine⟨_,AB (AZ 2 gS (DL (AA AI (AA AI (AA AI (AA AI (AA (BI DM (pv 1) AI (λ_ _=>rfl)) AF)))))))
  (AB (iS (BI DM (pv 1) AI (λ_ _=>rfl)) (iR (pv 2) (pv 0) ZS))
  (AC (AJ (KJ IL (by rfl) B.tuple SJ (AA (pv 2) AF))))),?_⟩
 and_intros
 refine⟨_,rfl,pa,_,_,_,rfl,rfl,hp,EX (l:=[n,d]) (i:=1) rfl (by show 1<2;decide),(by show 5<=sizeLine;decide),λl hl=>?_⟩;have s1:Same H (upd H l (.lst [.int 0,.int 0,.int 0,.int 0,.int d])):=Same.upd hl;refine⟨_,rfl,pa,_,_,_,rfl,rfl,s1.tup hp,EX (l:=[n,d]) (i:=0) rfl (by show 0<2;decide),_,rfl,_,rfl,l,_,(k:Int),k,rfl,rfl,upd_same,?_,?_⟩
 ·show ixN 5 (k:Int)=some k;unfold ixN;rw[Dm (by omega),Dm (by omega)];simp
 ·refine⟨_,rfl,l,_,rfl,.inl ⟨SqL.of upd_same,λa ha=>?_⟩⟩;have e:(([V.int 0,.int 0,.int 0,.int 0,.int d]:List V).set k (.int n))=(LZ k n d).map V.int:=by
   unfold LZ;rw[List.map_set];rfl
  refine q _ a (λb o e=>?_) (by rw[upd_same];exact congrArg (λz=>some (HO.tup z)) e);have n1:b≠l:=AG e hl;have n2:b≠a:=by
   refine AG (o:=o) ?_ ha;rw[AE n1,AE n1];exact e
  rw[AE n2,AE n1,AE n1];exact e
theorem LH:FnScope ["reader","before","product","start","factor","power"] ["reader"] (AH FE):={}
def SN (dz fz:Str) (l:List UInt8):Option (List Int×List UInt8):=mFc dz fz (l.length+1) 0 un5 l
theorem pL (F:Fun K "read_factors" "read_factors" FE f fd) (R:RdE P w K mg base C CT dz) (gu:GT K mg "UNISON" (un5.map V.int)) (gf:GS mg "FACTORS" fz) (of:OkS fz) (hz:dz.cps.toList.length<=10) (hf:fz.cps.toList.length=4)
 (D1:Def P w K mg base 6 "read_power" ["reader","start"] (aQ K C CT (mPw dz))) (D2:Def P w K mg base 1 "power_of_factor" ["factor","power"] (pJ K)) (D3:Def P w K mg base 3 "upon" ["x","y"] (aC K)):
 FnOk P w K mg base (CX1 P w) 7 f fd ["reader"] (FI K C CT (SN dz fz)):=by
 refine F.okx LH λDk A outer s H vs Q E hr h=>?_;obtain⟨r,ta,cs,e,Dg,rfl,Rr,k⟩:=h;refine⟨_,(AB (AZ 1 LH (G4 E7 AI))
  (AB (AZ 2 LH (O9 gu))
  (AC (B8 bh (CS G2)
  (AB (AZ 3 LH (B5 R (pv 0)))
  (AB (AZ 4 LH (E4 R hr AD (pv 0) (FH gf) of))
  (AB (AZ 5 LH (D1.call hr AD (AA (pv 0) (AA (pv 3) AF))))
  (AB (AU (AN JM (pv 4) (pv 1) (AQ _)) (AC (BF R.X1 hr AD rfl (pv 3))) AK)
  (AB (AZ 1 LH (pv 4))
  (AB (AZ 2 LH (D3.call hr AD (AA (D2.call hr AD (AA (pv 4) (AA (pv 5) AF))) (AA (pv 2) AF))))
  (AB (AU (J4 R hr AD (pv 0)) (AC (AJ (pv 2))) AK)
  (AC (BL R hr AD (pv 0) AV (oks (by decide +kernel))))))))))))))),?_⟩
 and_intros
 refine⟨1,rfl,λpa hpa=>?_⟩;refine⟨λm σ H'=>Ex8 λ(Dh:List UInt8) (least fuel:Nat) (pa:ag) (pr:List Int) (r3 r4 r5:Option V)=>σ=[some (.ref r),some (.int ((least:Int) - 1)),some (.ref pa),r3,r4,r5]/\Sb r H H'/\Rd K C H' r ta cs e Dh/\
  SqT K H' pa (pr.map V.int)/\pr.length=5/\0<pr.getD 4 0/\pr.getD 4 0<=9999 ^ least/\least<=4/\SN dz fz Dg=mFc dz fz fuel least pr Dh/\Dh.length<fuel/\m=Dh.length,
  ⟨Dg.length,Dg,0,Dg.length+1,pa,un5,none,none,none,rfl,Sb.refl,Rr,hpa _,rfl,by decide,by decide,by decide,rfl,by omega,rfl⟩,?_⟩
 rintro m σ H' ⟨Dh,least,fuel,pa,pr,r3,r4,r5,rfl,sb,R',hpr,l5,p4,b4,hl4,em,hfu,rfl⟩;obtain⟨fuel,rfl⟩:∃f',fuel=f'+1:=⟨fuel - 1,by omega⟩
 rw[mFc] at em;refine⟨_,rfl,DZ ?_⟩
 and_intros
 refine⟨_,rfl,r,ta,cs,e,Dh,rfl,R',λz=>?_⟩;refine⟨_,rfl,r,ta,cs,e,Dh,rfl,R',?_⟩;cases hp:pk fz Dh with
 |none=>
  simp only[hp] at em;rw[em] at k;exact AL rfl k
 |some x=>
  obtain⟨kk,t⟩:=x;simp only[hp] at em;have hk:=EY hp;have hk4:kk<4:=by rw[←hf];exact hk.2
  refine AM rfl λH1 R1 s1=>?_;obtain⟨dx',p',i'⟩:=R'.ins;refine⟨V.ref r,rfl,V.int z,rfl,r,ta,cs,e,t,z,rfl,R1,?_⟩;cases hw:mPw dz t with
  |none=>
   simp only[hw] at em;rw[em] at k;exact k
  |some x=>
   obtain⟨x,u⟩:=x;simp only[hw] at em;obtain⟨hu,n,d,rfl,hn,hd1,hd2⟩:=jV hz hw;intro H2 pa2 R2 s2 hp2;have sb2:Sb r H H2:=(sb.trans s1).trans s2;have hpr2:SqT K H2 pa (pr.map V.int):=Sb.tup (s1.trans s2) i' hpr;refine⟨V.int (kk:Nat),rfl,_,rfl,_,_,rfl,rfl,_,rfl,B4 (λh0=>?_) (λh0=>?_)⟩
   ·have e0:kk<least:=by
     have:(kk:Int)<=(least:Int) - 1:=by simpa using h0
     omega
    rw[Dm e0] at em;rw[em] at k;exact⟨_,rfl,_,rfl,k _⟩
   ·have e0:¬kk<least:=by
     have:¬(kk:Int)<=(least:Int) - 1:=by simpa using h0
     omega
    rw[Dn e0] at em;refine⟨V.int (kk:Nat),rfl,V.int (kk:Nat),rfl,V.ref pa2,rfl,kk,pa2,n,(d:Int),rfl,hk4,hp2,λH3 af s3 haf=>?_⟩;have f4:=pI hk4 n (d:Int);have hpow:pr.getD 4 0<=9999 ^ 3:=by
     have:(9999:Int) ^ least<=9999 ^ 3:=Bq.mpr (mq (by decide:0<9999) (by omega:least<=3))|>λh=>by simpa using h
     omega
    have bnd:((9999:Int)) ^ 3=999700029999:=by decide
    refine⟨V.ref pa,rfl,af,pa,LZ kk n d,pr,rfl,.inr (SqT.of haf),s3.tup hpr2,f4.2,l5,λz hz'=>?_,by rw[f4.1];omega,p4,by omega,λH4 ap s4 hap=>?_⟩
    ·rcases eR hk4 hz' with q|q|q
     ·rw[q];decide
     ·rw[q];omega
     ·rw[q];omega
    have R4:=(R2.same s3).same s4;have sb4:Sb r H H4:=(sb2.trans s3.sb).trans s4.sb;refine⟨_,rfl,r,ta,cs,e,u,rfl,R4,?_⟩;have up:=aU (x:=LZ kk n d) (y:=pr) (by rw[f4.1];omega) p4;have e1:([n,(d:Int)]:List Int).getD 0 0=n:=rfl;have e2:([n,(d:Int)]:List Int).getD 1 0=d:=rfl;simp only[e1,e2] at em;cases u with
    |nil=>
     simp only[List.isEmpty_nil,if_true] at em;rw[em] at k;exact BS ⟨V.ref ap,rfl,k H4 ap R4 sb4 (SqT.of hap)⟩
    |cons c u=>
     simp only[List.isEmpty_cons,fx,if_false] at em;refine BH ⟨_,rfl,r,ta,cs,e,c::u,rfl,R4,?_⟩;cases hs:sk (" ":Str).cps.toList (c::u) with
     |none=>
      rw[hs] at em;rw[em] at k;exact AL rfl k
     |some x=>
      obtain⟨_,v⟩:=x;rw[hs] at em;have hv:=BN hs;have hv':v.length+1=(c::u).length:=hv;obtain⟨dx4,p4',i4⟩:=R4.ins;refine AM rfl λH5 R5 s5=>?_;refine⟨v.length,by simp at hv' hu;omega,v,kk+1,fuel,ap,_,some (V.int z),some (DS kk),some (V.ref pa2),?_,sb4.trans s5,R5,Sb.tup s5 i4 (SqT.of hap),NQ _ _,up.1,?_,by omega,em,by simp at hv' hu;omega,rfl⟩
      ·have:((kk+1:Nat):Int) - 1=kk:=by omega
       rw[this];rfl
      ·refine Int.le_trans up.2 ?_;rw[f4.1];have h9:(d:Int)*pr.getD 4 0<=9999*9999 ^ least:=zY (by omega) b4 (by omega) (by decide);have h8:(9999:Int)*9999 ^ least<=9999 ^ (kk+1):=by
        have:(9999:Nat)*9999 ^ least<=9999 ^ (kk+1):=by
         rw[←Nat.pow_succ'];exact mq (by decide) (by omega)
        have:=Bq.mpr this;simpa using this
       omega
end
open PySem PySem.Spec PyProof.Rows L2
theorem EG {K:aa} {res:Option (List Int×List UInt8)} (h:res=none) (k:∀z:Int,E (.ref CT) none (xH [("place",.int z)])):UQ K CR CT r ta cs e H Q E res:=by
 rw[h];exact k
theorem EH {K:aa} {res:Option (List Int×List UInt8)} {l:List Int} (h:res=some (l,t)) (k:∀H' a,Rd K CR H' r ta cs e t->Sb r H H'->SqT K H' a (l.map V.int)->Q (.ref a) H'):UQ K CR CT r ta cs e H Q E res:=by
 rw[h];exact k
def mIv (dz fz:Str) (l:List UInt8):Option (List Int):=if see "1" l=true then(match mUn l with
 |none=>none
 |some (x,_)=>some x)
 else match SN dz fz l with
  |none=>none
  |some (x,_)=>if EW x=true then some x else none
theorem QO:∀{f least:Nat} {pr x:List Int} {l t:List UInt8},mFc dz fz f least pr l=some (x,t)->x.length=5
 |0,_,_,_,_,_,h=>by rw[mFc] at h;cases h
 |f+1,least,pr,x,l,t,h=>by
  rw[mFc] at h;cases hp:pk fz l with
  |none=>simp only[hp] at h;cases h
  |some y=>
   obtain⟨k,u⟩:=y;simp only[hp] at h;cases hw:mPw dz u with
   |none=>simp only[hw] at h;cases h
   |some y=>
    obtain⟨q,v⟩:=y;simp only[hw] at h;split at h
    ·cases h
    ·split at h
     ·cases h;exact NQ _ _
     ·cases hs:sk (" ":Str).cps.toList v with
      |none=>rw[hs] at h;cases h
      |some y=>
       obtain⟨_,v'⟩:=y;rw[hs] at h;exact QO h
theorem eS (h5:x.length=5) (h:EW x=true):Sm x:=by
 unfold EW at h;simp only[iz,decide_eq_true_eq] at h;obtain⟨h1,⟨h2,h3⟩,_⟩:=h;refine⟨h5,λk hk=>?_,h2,h3⟩;have hm:x.getD k 0∈x.take 4:=by
  have Dl:k<x.length:=by omega
  have:(x.take 4)[k]? =some (x.getD k 0):=by rw[sh];simp[hk,vd,aj Dl]
  exact bn this
 have:=jv.mp h1 _ hm;simpa using this
theorem aV:Sm un5:=⟨rfl,λk hk=>by match k,hk with|0,_=>decide|1,_=>decide|2,_=>decide|3,_=>decide,by decide,by decide⟩
theorem aW {l:List UInt8} (h:mIv dz fz l=some x):Sm x:=by
 unfold mIv at h;split at h
 ·cases hu:mUn l with
  |none=>rw[hu] at h;cases h
  |some y=>
   obtain⟨y,t⟩:=y;rw[hu] at h;cases h;unfold mUn at hu;cases hs:sk ("1":Str).cps.toList l with
   |none=>rw[hs] at hu;cases hu
   |some z=>
    obtain⟨_,v⟩:=z;simp only[hs] at hu;split at hu
    ·cases hu;exact aV
    ·cases hu
 ·cases hf:SN dz fz l with
  |none=>rw[hf] at h;cases h
  |some y=>
   obtain⟨y,t⟩:=y;simp only[hf] at h;split at h
   ·rename_i hi;cases h;exact eS (QO hf) hi
   ·cases h
def jX (K:aa) (CT:ag) (H:Hp) (Q:VK) (E:XK):Option (List Int)->Prop
 |some l=>∀H' a,Same H H'->SqT K H' a (l.map V.int)->Q (.ref a) H'
 |none=>∀z:Int,E (.ref CT) none (xH [("place",.int z)])
def gT (K:aa) (CT:ag) (dz fz:Str):Sp:=λvs H Q E=>Ex4 λ(ta:ag) (cs:List UInt8) (p e:Nat)=>vs=[.ref ta,.int (p:Nat),.int (e:Nat)]/\SqL K H ta (cs.map cV)/\p<=e/\e<=cs.length/\jX K CT H Q E (mIv dz fz ((cs.take e).drop p))
theorem B0 {H2:Hp} {x dx:ag} {fs:List (Str×V)} (nx:H x=none) (nd:H dx=none) (s1:Sb x (upd (upd H dx (.own x)) x (.ins C dx fs)) H1) (s2:Sb x H1 H2):Same H H2:=λb o e=>by
 have n1:=AG e nx;have n2:=AG e nd;exact s2 b o (s1 b o (by rw[AE n1,AE n2];exact e) n1) n1
section
variable {P:bb} {w:cb} {K:aa} {mg:Str->Option ah} {base:cr} {C CT:ag} {dz fz:Str}
theorem UR:FnScope ["text","place","end","reader","interval"] ["text","place","end"] (AH ES):={}
theorem jY (F:Fun K "read_interval" "read_interval" ES f fd) (R:RdE P w K mg base C CT dz) (D1:Def P w K mg base 5 "read_unison" ["reader"] (FI K C CT mUn))
 (D2:Def P w K mg base 7 "read_factors" ["reader"] (FI K C CT (SN dz fz))) (D3:Def P w K mg base 3 "is_interval" ["numbers"] (jO K)):FnOk P w K mg base (CX1 P w) 8 f fd ["text","place","end"] (gT K CT dz fz):=by
 refine F.okx UR λDk A outer s H vs Q E hr h=>?_;obtain⟨ta,cs,p,e,rfl,htx,hpe,hel,k⟩:=h;refine⟨_,(AB (AZ 3 UR (R.mkr.call hr AD (AA (pv 0) (AA (pv 1) (AA (pv 2) AF)))))
  (AB (AU (BK R hr AD (pv 3) AV (oks (by decide +kernel))) (AC (AJ (GZ D1 hr AD (pv 3)))) AK)
  (AB (AZ 4 UR (GZ D2 hr AD (pv 3)))
  (AB (AU (DT (CS (D3.call hr AD (AA (pv 4) AF)))) (AC (BF R.X1 hr AD rfl (pv 2))) AK)
  (AC (AJ (pv 4))))))),?_⟩
 and_intros
 refine⟨_,rfl,_,rfl,_,rfl,λx dx nx nd hne=>⟨x,dx,ta,(p:Int),(e:Int),rfl,upd_same,λH1 h1 s1=>⟨rfl,?_⟩⟩⟩;have R1:Rd K C H1 x ta cs e ((cs.take e).drop p):=by
  refine⟨⟨dx,p,h1,rfl,hpe⟩,?_,hel⟩;have sm:Same H H1:=B0 nx nd s1 Sb.refl;exact sm.seq htx
 have fin:∀{H2:Hp},Sb x H1 H2->Same H H2:=λs2=>B0 nx nd s1 s2;unfold mIv at k;refine⟨V.ref x,rfl,x,ta,cs,e,_,rfl,R1,λH2 s2=>?_⟩;have R2:=R1.same s2;cases hs:see "1" ((cs.take e).drop p) with
 |true=>
  rw[Dm hs] at k;refine BS ⟨V.ref x,rfl,x,ta,cs,e,_,rfl,R2,?_⟩;cases hu:mUn ((cs.take e).drop p) with
  |none=>rw[hu] at k;exact EG rfl k
  |some y=>
   obtain⟨y,t⟩:=y;rw[hu] at k;exact EH rfl λH3 a R3 s3 q=>k H3 a (fin (s2.sb.trans s3)) q
 |false=>
  rw[Dn (by rw[hs];decide)] at k;refine BH ⟨V.ref x,rfl,x,ta,cs,e,_,rfl,R2,?_⟩;cases hf:SN dz fz ((cs.take e).drop p) with
  |none=>rw[hf] at k;exact EG rfl k
  |some y=>
   obtain⟨y,t⟩:=y;simp only[hf] at k;refine EH rfl λH3 a R3 s3 q=>?_;refine⟨V.ref a,rfl,a,y,rfl,q,QO hf,λH4 s4=>⟨_,rfl,?_⟩⟩;cases hi:EW y with
   |true=>
    rw[Dm hi] at k;exact BH ⟨V.ref a,rfl,k H4 a (fin ((s2.sb.trans s3).trans s4.sb)) (s4.tup q)⟩
   |false=>
    rw[Dn (by rw[hi];decide)] at k;exact BS ⟨V.int (e:Nat),rfl,_,rfl,k _⟩
def lf (c:UInt8):Bool:=c != 10
def DC (dz fz:Str) (l:List UInt8):Option (List Int×List UInt8):=match mIv dz fz (l.takeWhile lf) with
 |none=>none
 |some x=>some (x,l.drop (l.takeWhile lf).length)
theorem sc_rr:FnScope ["reader","end","interval"] ["reader"] (AH HH):={}
theorem OL {l:List UInt8} (h:i<=(l.takeWhile lf).length):(∀c,l[i]? =some c->(lf c=true↔i<(l.takeWhile lf).length))/\(l[i]? =none->i=(l.takeWhile lf).length):=by
 induction l generalizing i with
 |nil=>simp at h;subst h;simp
 |cons c t ih=>
  by_cases hc:lf c=true
  ·rw[List.takeWhile_cons_of_pos hc] at h ⊢;cases i with
   |zero=>simp[hc]
   |succ i=>
    simp at h;have:=ih h;refine⟨λc' e=>?_,λe=>?_⟩
    ·rw[wc] at e;rw[this.1 c' e];simp
    ·rw[wc] at e;simp[this.2 e]
  ·rw[List.takeWhile_cons_of_neg hc] at h ⊢;simp at h;subst h;simp[hc]
theorem WR {Dg:List UInt8} (h2:Dg=(cs.take e).drop p) (hl:p+(Dg.takeWhile lf).length<=e) (he:e<=cs.length):(cs.take (p+(Dg.takeWhile lf).length)).drop p=Dg.takeWhile lf:=by
 have h1:Dg.takeWhile lf=Dg.take (Dg.takeWhile lf).length:=(List.prefix_iff_eq_take.mp (List.takeWhile_prefix lf))
 generalize hn:(Dg.takeWhile lf).length=n at*;rw[h1,h2,z0,z0,xk];congr 1;omega
theorem PD {K:aa} {res:Option (List Int)} (h:res=none) (k:∀z:Int,E (.ref CT) none (xH [("place",.int z)])):jX K CT H Q E res:=by
 rw[h];exact k
theorem PF {K:aa} {res:Option (List Int)} {l:List Int} (h:res=some l) (k:∀H' a,Same H H'->SqT K H' a (l.map V.int)->Q (.ref a) H'):jX K CT H Q E res:=by
 rw[h];exact k
theorem pM (F:Fun K "read_rest" "read_rest" HH f fd) (R:RdE P w K mg base C CT dz) (gl:GI mg "LINE_FEED" 10) (D1:Def P w K mg base 8 "read_interval" ["text","place","end"] (gT K CT dz fz)):
 FnOk P w K mg base (CX1 P w) 9 f fd ["reader"] (FI K C CT (DC dz fz)):=by
 refine F.okx sc_rr λDk A outer s H vs Q E hr h=>?_;obtain⟨r,ta,cs,e,Dg,rfl,Rr,k⟩:=h;refine⟨_,(AB (AZ 1 sc_rr (AT (pv 0) rfl))
  (AB (B8 bh (GO (AN IK (pv 1) (AT (pv 0) rfl) (AQ _)) (E1 (AN ZL (BI CD (AT (pv 0) rfl) (pv 1) (λ_ _=>rfl)) (BZ gl) (AQ _)))).pt (AC (IR (i:=1) sc_rr.nd rfl (vT rfl) AI IS)))
  (AB (AZ 2 sc_rr (D1.call hr AD (AA (AT (pv 0) rfl) (AA (AT (pv 0) rfl) (AA (pv 1) AF)))))
  (AB (C5 (pv 0) (pv 1) rfl)
  (AC (AJ (pv 2))))))),?_⟩
 and_intros
 obtain⟨dx,p,h1,h2,h3⟩:=Rr.at_;refine⟨V.ref r,rfl,r,C,dx,_,_,rfl,h1,R.T.cl,R.T.np,NN _ _ _,?_⟩;have hlen:Dg.length=e - p:=by rw[h2,fw,eq];have:=Rr.le;omega
 have htw:(Dg.takeWhile lf).length<=Dg.length:=(List.takeWhile_sublist lf).length_le;have hget:∀i:Nat,i<Dg.length->∃c,Dg[i]? =some c/\cs[p+i]? =some c:=λi hi=>by
  refine⟨Dg[i],aj hi,?_⟩;have q:Dg[i]? =some Dg[i]:=aj hi;have q2:Dg[i]? =((cs.take e).drop p)[i]?:=congrArg (λl=>l[i]?) h2;rw[vy,sh,Dm (by omega)] at q2;rw[←q2,q]
 refine⟨λm σ H'=>H'=H/\∃i:Nat,i<=(Dg.takeWhile lf).length/\σ=[some (.ref r),some (.int ((p+i:Nat):Int)),none]/\m=Dg.length - i,⟨Dg.length,rfl,0,du _,rfl,rfl⟩,?_⟩;rintro m σ H' ⟨rfl,i,hi,rfl,rfl⟩;have tw:=OL hi;refine⟨_,rfl,V.ref r,rfl,r,C,dx,_,_,rfl,h1,R.T.cl,R.T.ne,oQ _ _ _,_,_,rfl,rfl,_,rfl,B4 (λDl=>?_) (λDl=>?_)⟩
 ·have hlt':p+i<e:=by
   have:((p+i:Nat):Int)<(e:Int):=by simpa using Dl
   omega
  obtain⟨c,hc1,hc2⟩:=hget i (by omega);refine⟨V.ref r,rfl,r,C,dx,_,_,rfl,h1,R.T.cl,R.T.nt,eP _ _ _,_,rfl,ta,_,_,_,rfl,rfl,Rr.tx,DU (v:=cV c) (by rw[au,hc2];rfl),rfl,_,rfl,?_⟩;have e10:decide (cV c=V.int 10)=!(lf c):=by
   unfold lf cV;rw[bne,Br];have:(V.int ((c.toNat:Nat):Int)=V.int 10)↔c=10:=by
    constructor
    ·intro q;injection q with q;apply ze.mp;show c.toNat=10;omega
    ·intro q;rw[q];rfl
   rw[decide_eq_decide.mpr this];rfl
  rw[e10,Br];cases hl:lf c with
  |true=>
   refine DZ ⟨_,rfl,_,_,rfl,rfl,Dg.length - (i+1),by omega,rfl,i+1,(tw.1 c hc1).mp hl,?_,rfl⟩;show[some (V.ref r),some (V.int (((p+i:Nat):Int)+1)),none]=_;have:((p+i:Nat):Int)+1=((p+(i+1):Nat):Int):=by omega
   rw[this]
  |false=>
   have hi':i=(Dg.takeWhile lf).length:=by
    have:¬i<(Dg.takeWhile lf).length:=λq=>by have:=(tw.1 c hc1).mpr q;rw[hl] at this;cases this
    omega
   subst hi';refine BH ⟨V.ref r,rfl,r,C,dx,_,_,rfl,h1,R.T.cl,R.T.nt,eP _ _ _,V.ref r,rfl,r,C,dx,_,_,rfl,h1,R.T.cl,R.T.np,NN _ _ _,_,rfl,ta,cs,p,p+(Dg.takeWhile lf).length,rfl,Rr.tx,by omega,by have:=Rr.le;omega,?_⟩;have er:(cs.take (p+(Dg.takeWhile lf).length)).drop p=Dg.takeWhile lf:=WR h2 (by omega) Rr.le;unfold DC at k;cases hm:mIv dz fz (Dg.takeWhile lf) with
   |none=>rw[hm] at k;exact PD (by rw[er];exact hm) k
   |some x=>
    simp only[hm] at k;refine PF (by rw[er];exact hm) λH2 a s2 q=>?_;have h12:=s2 _ _ h1;refine⟨_,rfl,V.ref r,rfl,r,C,dx,_,rfl,h12,R.T.cl,R.T.np,(by show 3<1000;decide),V.ref a,rfl,?_⟩;have sb:Sb r H2 (upd H2 r (.ins C dx (FY "place" (.int ((p+(Dg.takeWhile lf).length:Nat):Int)) (rf ta p e)))):=λb o eb hb=>by rw[AE hb];exact eb
    refine k _ a ⟨⟨dx,p+(Dg.takeWhile lf).length,uP upd_same rfl,?_,by omega⟩,Sb.lst sb h12 (s2.seq Rr.tx),Rr.le⟩ (s2.sb.trans sb) (Sb.tup sb h12 q);rw[h2,xj, ←h2]
 ·have hge:¬p+i<e:=by
   have:¬((p+i:Nat):Int)<(e:Int):=by simpa using Dl
   omega
  have hi':i=(Dg.takeWhile lf).length:=by omega
  subst hi';refine BH ⟨V.ref r,rfl,r,C,dx,_,_,rfl,h1,R.T.cl,R.T.nt,eP _ _ _,V.ref r,rfl,r,C,dx,_,_,rfl,h1,R.T.cl,R.T.np,NN _ _ _,_,rfl,ta,cs,p,p+(Dg.takeWhile lf).length,rfl,Rr.tx,by omega,by have:=Rr.le;omega,?_⟩;have er:(cs.take (p+(Dg.takeWhile lf).length)).drop p=Dg.takeWhile lf:=WR h2 (by omega) Rr.le;unfold DC at k;cases hm:mIv dz fz (Dg.takeWhile lf) with
  |none=>rw[hm] at k;exact PD (by rw[er];exact hm) k
  |some x=>
   simp only[hm] at k;refine PF (by rw[er];exact hm) λH2 a s2 q=>?_;have h12:=s2 _ _ h1;refine⟨_,rfl,V.ref r,rfl,r,C,dx,_,rfl,h12,R.T.cl,R.T.np,(by show 3<1000;decide),V.ref a,rfl,?_⟩;have sb:Sb r H2 (upd H2 r (.ins C dx (FY "place" (.int ((p+(Dg.takeWhile lf).length:Nat):Int)) (rf ta p e)))):=λb o eb hb=>by rw[AE hb];exact eb
   refine k _ a ⟨⟨dx,p+(Dg.takeWhile lf).length,uP upd_same rfl,?_,by omega⟩,Sb.lst sb h12 (s2.seq Rr.tx),Rr.le⟩ (s2.sb.trans sb) (Sb.tup sb h12 q);rw[h2,xj, ←h2]
end
open PySem PySem.Spec PyProof.Rows L2
def SbL (S:List ag) (H H':Hp):Prop:=∀b o,H b=some o->b∉S->H' b=some o
theorem SbL.trans {S:List ag} {H2:Hp} (a:SbL S H H1) (b:SbL S H1 H2):SbL S H H2:=λc o e n=>b c o (a c o e n) n
theorem Sb.l {S:List ag} (s:Sb r H H') (h:r∈S):SbL S H H':=λb o e n=>s b o e λz=>n (z▸h)
theorem Same.l {S:List ag} (s:Same H H'):SbL S H H':=λb o e _=>s b o e
theorem SbL.refl {S:List ag}:SbL S H H:=λ_ _ e _=>e
def LT (K:aa) (H:Hp) (a:ag) (ls:List (List Int)):Prop:=∃as:List ag,H a=some (.lst (as.map V.ref))/\cg (λb l=>SqT K H b (l.map V.int)) as ls
theorem AR {F G:α->β->Prop}:∀{l:List α} {m:List β},cg F l m->(∀a b,F a b->G a b)->cg G l m
 |_,_,.nil,_=>.nil
 |_,_,.cons r t,f=>.cons (f _ _ r) (AR t f)
theorem FV {F:α->β->Prop} {x:α} {y:β} (h:F x y):∀{l:List α} {m:List β},cg F l m->cg F (l++[x]) (m++[y])
 |_,_,.nil=>.cons h .nil
 |_,_,.cons r t=>.cons r (FV h t)
theorem BD {F:α->β->Prop}:∀{l:List α} {m:List β} {i:Nat} {a:α},cg F l m->l[i]? =some a->∃b,m[i]? =some b/\F a b
 |_,_,_,_,.nil,e=>by simp at e
 |_,_,0,_,.cons r _,e=>by simp at e;subst e;exact⟨_,rfl,r⟩
 |_,_,i+1,_,.cons _ t,e=>by
  obtain⟨b,h1,h2⟩:=BD (i:=i) t (by simpa using e);exact⟨b,by simpa using h1,h2⟩
def ifs (af ac ab:ag):List (Str×V):=[("frets",.ref af),("courses",.ref ac),("basses",.ref ab)]
structure InA (K:aa) (CI:ag) (H:Hp) (ia af ac ab:ag) (fr co ba:List (List Int)):Prop where
 at_:∃dx,H ia=some (.ins CI dx (ifs af ac ab))
 fr_:LT K H af fr
 co_:LT K H ac co
 ba_:LT K H ab ba
 n1:af≠ac
 n2:af≠ab
 n3:ac≠ab
 sf:∀l∈fr,Sm l
 sc:∀l∈co,Sm l
 sb:∀l∈ba,Sm l
 lf:fr.length<=15
 lc:co.length+ba.length<=14
def Kp (H H':Hp):Prop:=(∀b xs,H b=some (.lst xs)->H' b=some (.lst xs))/\(∀b xs,H b=some (.tup xs)->H' b=some (.tup xs))/\(∀b o u,H b=some (.frz o u)->H' b=some (.frz o u))/\
 ∀b C dx af ac ab,H b=some (.ins C dx (ifs af ac ab))->H' b=some (.ins C dx (ifs af ac ab))
theorem jZ {af ac ab:ag} {p e:Int}:ifs af ac ab≠rf ta p e:=by
 intro q;unfold ifs rf at q;have:=(Prod.mk.inj (xQ q).1).1;exact absurd this (by decide +kernel)
theorem Sb.kp {dx:ag} {p e:Int} (s:Sb r H H') (h:H r=some (.ins C dx (rf ta p e))):Kp H H':=
 ⟨λb xs q=>s _ _ q (B6 q h (by intro z;cases z)),λb xs q=>s _ _ q (B6 q h (by intro z;cases z)),λb o u q=>s _ _ q (B6 q h (by intro z;cases z)),
  λb C' dx' af ac ab q=>s _ _ q (B6 q h (by intro z;injection z with _ _ z;exact jZ z))⟩
theorem Same.kp (s:Same H H'):Kp H H':=⟨λb xs q=>s _ _ q,λb xs q=>s _ _ q,λb o u q=>s _ _ q,λb C dx af ac ab q=>s _ _ q⟩
theorem Kp.trans {H2:Hp} (a:Kp H H1) (b:Kp H1 H2):Kp H H2:=⟨λc xs q=>b.1 _ _ (a.1 _ _ q),λc xs q=>b.2.1 _ _ (a.2.1 _ _ q),λc o u q=>b.2.2.1 _ _ _ (a.2.2.1 _ _ _ q),λc C dx af ac ab q=>b.2.2.2 _ _ _ _ _ _ (a.2.2.2 _ _ _ _ _ _ q)⟩
theorem Kp.tup {K:aa} (k:Kp H H') (h:SqT K H a xs):SqT K H' a xs:=by
 rcases h with(h|⟨o,h⟩)|h
 ·exact .inl (.inl (k.2.1 _ _ h))
 ·exact .inl (.inr ⟨o,k.2.2.1 _ _ _ h⟩)
 ·exact .inr h
theorem Kp.lt {K:aa} (k:Kp H H') (h:LT K H a ls):LT K H' a ls:=let ⟨as,h1,h2⟩:=h;⟨as,k.1 _ _ h1,AR h2 λ_ _ q=>k.tup q⟩
theorem InA.kp {K:aa} {ia af ac ab:ag} (I:InA K CI H ia af ac ab fr co ba) (k:Kp H H'):InA K CI H' ia af ac ab fr co ba:=
 ⟨let ⟨dx,q⟩:=I.at_;⟨dx,k.2.2.2 _ _ _ _ _ _ q⟩,k.lt I.fr_,k.lt I.co_,k.lt I.ba_,I.n1,I.n2,I.n3,I.sf,I.sc,I.sb,I.lf,I.lc⟩
def KTx (K:aa) (a:ag) (xs:List V):Prop:=Ex3 λ(o:Obj) (Di:Array ah) (n:Nat)=>K.lookup a=some o/\o.cls= .type "list"/\o.dict=none/\o.data= .seq Di n/\Di.size<=sizeLine/\Vals xs Di.toList
theorem Rd.kp {K:aa} {Dg:List UInt8} {a:Nat} {ys:List V} (R:Rd K C H r ta cs e Dg) (h:H a=some (.lst xs)) (ht:¬a=ta\/KTx K ta (cs.map cV)) (s:∀b o,H b=some o->b≠a->H' b=some o):Rd K C H' r ta cs e Dg:=by
 obtain⟨⟨dx,p,q,w⟩,t,l⟩:=R;refine⟨⟨dx,p,s _ _ q (B6 q h (by intro z;cases z)),w⟩,?_,l⟩;rcases ht with ht|ht
 ·rcases t with(t|⟨o,t⟩)|t
  ·exact .inl (.inl (s _ _ t (cw ht)))
  ·exact .inl (.inr ⟨o,s _ _ t (cw ht)⟩)
  ·exact .inr t
 ·exact .inr ht
abbrev St3:=List (List Int)×List (List Int)×List (List Int)
def j0 (K:aa) (CR CI CT r ta:ag) (cs:List UInt8) (e:Nat) (ia af ac ab:ag) (H:Hp) (Q:VK) (E:XK):Option (St3×List UInt8)->Prop
 |some ((fr,co,ba),Dh)=>∀H',Rd K CR H' r ta cs e Dh->InA K CI H' ia af ac ab fr co ba->SbL [r,af,ac,ab] H H'->Q .non H'
 |none=>∀z:Int,E (.ref CT) none (xH [("place",.int z)])
theorem IA {K:aa} {ia af ac ab:ag} {res:Option (St3×List UInt8)} (h:res=none) (k:∀z:Int,E (.ref CT) none (xH [("place",.int z)])):j0 K CR CI CT r ta cs e ia af ac ab H Q E res:=by
 rw[h];exact k
theorem IB {K:aa} {ia af ac ab:ag} {res:Option (St3×List UInt8)} (h:res=some ((fr,co,ba),t))
 (k:∀H',Rd K CR H' r ta cs e t->InA K CI H' ia af ac ab fr co ba->SbL [r,af,ac,ab] H H'->Q .non H'):j0 K CR CI CT r ta cs e ia af ac ab H Q E res:=by
 rw[h];exact k
def L0 (K:aa) (C CI CT:ag) (m:St3->List UInt8->Option (St3×List UInt8)):Sp:=λvs H Q E=>Ex12 λ(r ta:ag) (cs:List UInt8) (e:Nat) (Dg:List UInt8) (ia af ac ab:ag) (fr co ba:List (List Int))=>
 vs=[.ref r,.ref ia]/\Rd K C H r ta cs e Dg/\InA K CI H ia af ac ab fr co ba/\((ta≠af/\ta≠ac/\ta≠ab)\/KTx K ta (cs.map cV))/\j0 K C CI CT r ta cs e ia af ac ab H Q E (m (fr,co,ba) Dg)
def mSW (z:Str) (m:Bool) (l:List UInt8):Option (Unit×List UInt8):=match sk z.cps.toList l with
 |none=>none
 |some (_,t)=>if m=true then sk (" ":Str).cps.toList t else none
def pN (K:aa) (C CT:ag):Sp:=λvs H Q E=>Ex7 λ(r ta:ag) (cs:List UInt8) (e:Nat) (Dg:List UInt8) (z:Str) (m:Bool)=>vs=[.ref r,.str z,.bl m]/\Rd K C H r ta cs e Dg/\OkS z/\Got K C CT r ta cs e H Q E YL (mSW z m Dg)
def NR (dz fz:Str):St3->List UInt8->Option (St3×List UInt8)
 |(fr,co,ba),l=>match mSW "fret" (decide (fr.length<15)) l with
  |none=>none
  |some (_,t)=>match DC dz fz t with
   |none=>none
   |some (x,u)=>if BG (fr.getLastD un5) x=true then some ((fr++[x],co,ba),u) else none
def FW (dz fz:Str):St3->List UInt8->Option (St3×List UInt8)
 |(fr,co,ba),l=>match mSW "course" (decide (co.length+ba.length<14)) l with
  |none=>none
  |some (_,t)=>match DC dz fz t with
   |none=>none
   |some (x,u)=>if(fr.all λf=>EW (BQ f x))=true then some ((fr,co++[x],ba),u) else none
def J5 (dz fz:Str):St3->List UInt8->Option (St3×List UInt8)
 |(fr,co,ba),l=>match mSW "bass" (decide (co.length+ba.length<14)) l with
  |none=>none
  |some (_,t)=>match DC dz fz t with
   |none=>none
   |some (x,u)=>some ((fr,co,ba++[x]),u)
theorem NS {l:List UInt8} (h:DC dz fz l=some (x,t)):Sm x:=by
 unfold DC at h;cases hm:mIv dz fz (l.takeWhile lf) with
 |none=>rw[hm] at h;cases h
 |some y=>rw[hm] at h;cases h;exact aW hm
structure InC (K:aa) (CI:ag):Prop where
 cl:Cls K CI
 nf:NoAttr K CI "frets"
 nc:NoAttr K CI "courses"
 nb:NoAttr K CI "basses"
def aX (CI:ag):Sp:=λvs H Q _=>Ex2 λ(ia dx:ag)=>vs=[.ref ia]/\H ia=some (.ins CI dx [])/\∀H' af ac ab,H' ia=some (.ins CI dx (ifs af ac ab))->H' af=some (.lst [])->H' ac=some (.lst [])->H' ab=some (.lst [])->H af=none->H ac=none->H ab=none->af≠ac->af≠ab->ac≠ab->Sb ia H H'->Q .non H'
def j1 (K:aa) (CI:ag):Sp:=λvs H Q _=>Ex7 λ(ia af ac ab:ag) (fr co ba:List (List Int))=>vs=[.ref ia]/\InA K CI H ia af ac ab fr co ba/\Q (.int ((co.length+ba.length:Nat):Int)) H
theorem NT (af ac ab:ag):(ifs af ac ab).lookup ("frets":Str)=some (.ref af):=rfl
theorem IP (af ac ab:ag):(ifs af ac ab).lookup ("courses":Str)=some (.ref ac):=rfl
theorem WS (af ac ab:ag):(ifs af ac ab).lookup ("basses":Str)=some (.ref ab):=rfl
theorem US (af ac ab:ag) {m:Str} (h1:(m=="frets")=false) (h2:(m=="courses")=false) (h3:(m=="basses")=false):(ifs af ac ab).lookup m=none:=by
 unfold ifs;simp only[jk,h1,h2,h3]
theorem LT.len {K:aa} (h:LT K H a ls):∃ys,SqL K H a ys/\ys.length=ls.length:=let ⟨as,h1,h2⟩:=h;⟨_,SqL.of h1,by rw[ai];exact cn h2⟩
section
variable {P:bb} {w:cb} {K:aa} {mg:Str->Option ah} {base:cr} {C CI CT:ag} {dz fz:Str}
theorem gU:FnScope ["reader","word","more_may_come","start"] ["reader","word","more_may_come"] (AH HG):={}
theorem pO (F:Fun K "skip_word" "skip_word" HG f fd) (R:RdE P w K mg base C CT dz):FnOk P w K mg base (CX1 P w) 5 f fd ["reader","word","more_may_come"] (pN K C CT):=by
 refine F.okx gU λDk A outer s H vs Q E hr h=>?_;obtain⟨r,ta,cs,e,Dg,z,m,rfl,Rr,oz,k⟩:=h;refine⟨_,(AB (AZ 3 gU (B5 R (pv 0)))
  (AB (AY (R.sk.call (pv 0) hr AD (AA (pv 1) AF)))
  (AB (AU (DT (CS (pv 2))) (AC (BF R.X1 hr AD rfl (pv 3))) AK)
  (AC (BL R hr AD (pv 0) AV (oks (by decide +kernel))))))),?_⟩
 and_intros
 refine⟨_,rfl,r,ta,cs,e,Dg,rfl,Rr,λst=>?_⟩;obtain⟨dx,p,i1⟩:=Rr.ins;refine⟨V.ref r,rfl,r,dx,_,rfl,i1,QM _ _ _,V.str z,rfl,r,ta,cs,e,Dg,z,rfl,Rr,oz,?_⟩;unfold mSW at k;cases hs:sk z.cps.toList Dg with
 |none=>rw[hs] at k;exact AL rfl k
 |some x=>
  obtain⟨_,t⟩:=x;simp only[hs] at k;refine AM rfl λH1 R1 s1=>?_;refine⟨V.bl m,rfl,m,rfl,?_⟩;cases m with
  |false=>exact BS ⟨V.int st,rfl,st,rfl,k st⟩
  |true=>
   simp only[if_true] at k;refine BH ⟨V.ref r,rfl,r,ta,cs,e,t,rfl,R1,?_⟩;cases hs2:sk (" ":Str).cps.toList t with
   |none=>rw[hs2] at k;exact AL rfl k
   |some x=>
    obtain⟨⟨⟩,u⟩:=x;rw[hs2] at k;exact AM rfl λH2 R2 s2=>k H2 R2 (s1.trans s2)
theorem j2:FnScope ["self"] ["self"] (AH DW):={}
theorem j3 (F:Fun K "__init__" "Instrument.__init__" DW f fd) (T:InC K CI):FnOk P w K mg base (CX1 P w) 1 f fd ["self"] (aX CI):=by
 refine F.okx j2 λDk A outer s H vs Q E hr h=>?_;obtain⟨ia,dx,rfl,h1,k⟩:=h;refine⟨_,(AB (C5 (pv 0) (DL AF) rfl)
  (AB (C5 (pv 0) (DL AF) rfl)
  (AC (C5 (pv 0) (DL AF) rfl)))),?_⟩
 and_intros
 refine⟨du _,λaf naf=>?_⟩;have m1:ia≠af:=AG h1 naf;refine⟨V.ref ia,rfl,ia,CI,dx,_,rfl,(by rw[AE m1];exact h1),T.cl,T.nf,(by decide),du _,λac nac=>?_⟩;have m2:ia≠ac:=AG upd_same nac;have m3:af≠ac:=by
  refine AG (o:=.lst []) ?_ nac;rw[AE (cw m1),upd_same]
 refine⟨V.ref ia,rfl,ia,CI,dx,_,rfl,(by rw[AE m2,upd_same]),T.cl,T.nc,(by show 1<1000;decide),du _,λab nab=>?_⟩;have m4:ia≠ab:=AG upd_same nab;have m5:ac≠ab:=by
  refine AG (o:=.lst []) ?_ nab;rw[AE (cw m2),upd_same]
 have m6:af≠ab:=by
  refine AG (o:=.lst []) ?_ nab;rw[AE (cw m1),AE m3,AE (cw m1),upd_same]
 refine⟨V.ref ia,rfl,ia,CI,dx,_,rfl,(by rw[AE m4,upd_same]),T.cl,T.nb,(by show 2<1000;decide),?_⟩;have fac:H ac=none:=by rw[←nac,AE (cw m2),AE (cw m3)]
 have fab:H ab=none:=by rw[←nab,AE (cw m4),AE (cw m5),AE (cw m4),AE (cw m6)]
 refine k _ af ac ab (uP upd_same rfl) ?_ ?_ ?_ naf fac fab m3 m6 m5 λb o e hb=>?_
 ·rw[AE (cw m1),AE m6,AE (cw m1),AE m3,AE (cw m1),upd_same]
 ·rw[AE (cw m2),AE m5,AE (cw m2),upd_same]
 ·rw[AE (cw m4),upd_same]
 ·rw[AE hb,AE (AG e fab),AE hb,AE (AG e fac),AE hb,AE (AG e naf)];exact e
theorem j4:FnScope ["self"] ["self"] (AH B1):={}
theorem j5 (F:Fun K "string_count" "Instrument.string_count" B1 f fd) (B:Blt mg) (T:InC K CI):FnOk P w K mg base (CX1 P w) 1 f fd ["self"] (j1 K CI):=by
 refine F.okx j4 λDk A outer s H vs Q E hr h=>?_;obtain⟨ia,af,ac,ab,fr,co,ba,rfl,I,k⟩:=h;obtain⟨dx,h1⟩:=I.at_;obtain⟨y1,q1,l1⟩:=I.co_.len;obtain⟨y2,q2,l2⟩:=I.ba_.len;refine⟨_,(AC (AJ (BC C4 (AX AO (by rfl) B.len cy (AA (AT (pv 0) rfl) AF)) (AX AO (by rfl) B.len cy (AA (AT (pv 0) rfl) AF))))),?_⟩
 subst_eqs
 refine⟨V.ref ia,rfl,ia,CI,dx,_,_,rfl,h1,T.cl,T.nc,IP _ _ _,ac,y1,rfl,.inl q1,V.ref ia,rfl,ia,CI,dx,_,_,rfl,h1,T.cl,T.nb,WS _ _ _,ab,y2,rfl,.inl q2,_,_,rfl,rfl,?_⟩;rw[l1,l2];have e:((co.length:Int)+(ba.length:Int))=((co.length+ba.length:Nat):Int):=by omega
 show Q (V.int ((co.length:Int)+(ba.length:Int))) H;rw[e];exact k
end
open PySem PySem.Spec PyProof.Rows L2
structure InE (P:bb) (w:cb) (K:aa) (mg:Str->Option ah) (base:cr) (C CI CT:ag) (dz fz:Str):Prop where
 R:RdE P w K mg base C CT dz
 B:Blt mg
 T:InC K CI
 gu:GT K mg "UNISON" (un5.map V.int)
 sc:Mth P w K mg base 1 CI "string_count" ["self"] (j1 K CI)
 sw:Def P w K mg base 5 "skip_word" ["reader","word","more_may_come"] (pN K C CT)
 rr:Def P w K mg base 9 "read_rest" ["reader"] (FI K C CT (DC dz fz))
 nr:Def P w K mg base 2 "narrower" ["x","y"] (eN K)
 ii:Def P w K mg base 3 "is_interval" ["numbers"] (jO K)
 up:Def P w K mg base 3 "upon" ["x","y"] (aC K)
theorem OM (r af ac ab:ag):r∈[r,af,ac,ab]/\af∈[r,af,ac,ab]/\ac∈[r,af,ac,ab]/\ab∈[r,af,ac,ab]:=by simp
theorem LT.add {K:aa} {x:ag} {l:List Int} {as:List ag} (h:H a=some (.lst (as.map V.ref))) (p:cg (λb l=>SqT K H b (l.map V.int)) as ls) (hx:SqT K H x (l.map V.int)):
 LT K (upd H a (.lst (as.map V.ref++[.ref x]))) a (ls++[l]):=by
 have kt:∀{b:ag} {ys:List V},SqT K H b ys->SqT K (upd H a (.lst (as.map V.ref++[.ref x]))) b ys:=λ{b ys} q=>by
  rcases q with(q|⟨o,q⟩)|q
  ·exact .inl (.inl (by rw[AE (B6 q h (by intro z;cases z))];exact q))
  ·exact .inl (.inr ⟨o,by rw[AE (B6 q h (by intro z;cases z))];exact q⟩)
  ·exact .inr q
 refine⟨as++[x],by rw[upd_same,dh];rfl,FV (F:=λb l=>SqT K (L2.upd H a (.lst (as.map V.ref++[.ref x]))) b (l.map V.int)) (kt hx) (AR p λ_ _ q=>kt q)⟩
theorem LT.upd {K:aa} {b:ag} {ys:List V} (h:LT K H b ls) (ha:H a=some (.lst xs)) (hn:b≠a):LT K (upd H a (.lst ys)) b ls:=by
 obtain⟨as,h1,h2⟩:=h;refine⟨as,by rw[AE hn];exact h1,AR h2 λc l q=>?_⟩;rcases q with(q|⟨o,q⟩)|q
 ·exact .inl (.inl (by rw[AE (B6 q ha (by intro z;cases z))];exact q))
 ·exact .inl (.inr ⟨o,by rw[AE (B6 q ha (by intro z;cases z))];exact q⟩)
 ·exact .inr q
theorem M7 {as:List ag} (h:as.getLast? =some a):atI (as.map V.ref) (-1)=some (.ref a):=by
 have hne:as≠[]:=by rintro rfl;simp at h
 have hl:0<as.length:=xB.mpr hne;unfold atI ixN;rw[ai,Dn (by decide),Dm (by omega)];show(as.map V.ref)[((-1:Int)+(as.length:Int)).toNat]? =_;have e:((-1:Int)+(as.length:Int)).toNat=as.length - 1:=by omega
 rw[e,au, ←qv,h];rfl
theorem LI {F:α->β->Prop} {l:List α} {m:List β} (p:cg F l m) {y:β} (h:0<m.length):Ex2 λa b=>l.getLast? =some a/\m.getLastD y=b/\F a b/\b∈m:=by
 have hl:l.length=m.length:=cn p;have Dl:l.length - 1<l.length:=by omega
 obtain⟨b,h1,h2⟩:=BD (i:=l.length - 1) (a:=l[l.length - 1]) p (aj Dl);refine⟨l[l.length - 1],b,by rw[qv];exact aj Dl,?_,h2,bn h1⟩;rw[jt,qv, ←hl,h1];rfl
section
variable {P:bb} {w:cb} {K:aa} {mg:Str->Option ah} {base:cr} {C CI CT:ag} {dz fz:Str}
theorem WT:FnScope ["reader","instrument","start","fret","before"] ["reader","instrument"] (AH HE):={}
theorem pP (F:Fun K "read_fret" "read_fret" HE f fd) (N:InE P w K mg base C CI CT dz fz) (gm:GI mg "MOST_FRETS" 15):FnOk P w K mg base (CX1 P w) 10 f fd ["reader","instrument"] (L0 K C CI CT (NR dz fz)):=by
 refine F.okx WT λDk A outer s H vs Q E hr h=>?_;obtain⟨r,ta,cs,e,Dg,ia,af,ac,ab,fr,co,ba,rfl,Rr,I,tt,k⟩:=h;have R:=N.R;refine⟨_,(AB (AY (N.sw.call hr AD (AA (pv 0) (AA AV (AA (DI IK (AX AO (by rfl) N.B.len cy (AA (AT (pv 1) rfl) AF)) (BZ gm) (AQ _)) AF)))))
  (AB (AZ 2 WT (B5 R (pv 0)))
  (AB (AZ 3 WT (GZ N.rr hr AD (pv 0)))
  (AB (AZ 4 WT (RM (AN EZ (AX AO (by rfl) N.B.len cy (AA (AT (pv 1) rfl) AF)) AI (AQ _)) (BI CD (AT (pv 1) rfl) (G4 E7 AI) (λ_ _=>rfl)) (O9 N.gu)))
  (AB (AU (DT (CS (N.nr.call hr AD (AA (pv 4) (AA (pv 3) AF))))) (AC (BF R.X1 hr AD rfl (pv 2))) AK)
  (AC (AY (G7 dw fb ff CQ (AT (pv 1) rfl) (AA (pv 3) AF))))))))),?_⟩
 and_intros
 obtain⟨dx,i1⟩:=I.at_;obtain⟨y1,q1,l1⟩:=I.fr_.len;obtain⟨dr,p,ir⟩:=Rr.ins;refine⟨V.ref r,rfl,V.ref ia,rfl,ia,CI,dx,_,_,rfl,i1,N.T.cl,N.T.nf,NT _ _ _,af,y1,rfl,.inl q1,_,_,rfl,rfl,r,ta,cs,e,Dg,"fret",decide ((y1.length:Int)<15),rfl,Rr,oks (by decide +kernel),?_⟩;have eb:decide ((y1.length:Int)<15)=decide (fr.length<15):=by rw[l1,decide_eq_decide];omega
 rw[NR] at k;cases hs:mSW "fret" (decide (fr.length<15)) Dg with
 |none=>simp only[hs] at k;exact AL (by rw[eb];exact hs) k
 |some x=>
  obtain⟨_,t⟩:=x;simp only[hs] at k;refine AM (by rw[eb];exact hs) λH1 R1 s1=>?_;have I1:=I.kp (Sb.kp s1 ir);obtain⟨dr1,p1,ir1⟩:=R1.ins;refine⟨_,rfl,r,ta,cs,e,t,rfl,R1,λst=>?_⟩;refine⟨_,rfl,r,ta,cs,e,t,rfl,R1,?_⟩;cases hm:DC dz fz t with
  |none=>simp only[hm] at k;exact EG rfl k
  |some x=>
   obtain⟨x,u⟩:=x;simp only[hm] at k;have sx:=NS hm;refine EH rfl λH2 xa R2 s2 hx=>?_;have I2:=I1.kp (Sb.kp s2 ir1);obtain⟨dr2,p2,ir2⟩:=R2.ins;obtain⟨dx2,i2⟩:=I2.at_;obtain⟨as,a1,a2⟩:=id I2.fr_;obtain⟨y2,q2,l2⟩:=I2.fr_.len;have tail:∀(ba':ag) (bl:List Int) (H3:Hp),Same H2 H3->SqT K H3 ba' (bl.map V.int)->bl=fr.getLastD un5->Sm bl->
    (AW (TZ (mO (tB (LD (eN K) [] E (B9 (BP 4) (B9 (BP 3) EQ))))) (KU CT E (BP 2)) V0)
     (LB (tBM K "list" MG (OG K (BP 1) "frets") (B9 (BP 3) EQ)))) { nx:=λ_ H'=>Q .non H',rt:=Q } [some (.ref r),some (.ref ia),some (.int st),some (.ref xa),some (.ref ba')] H3:=by
    intro ba' bl H3 s3 hb hbl sbl;refine⟨V.ref ba',rfl,V.ref xa,rfl,ba',xa,bl,x,rfl,hb,s3.tup hx,sbl,sx,λH4 s4=>⟨_,rfl,?_⟩⟩;have s24:Same H2 H4:=s3.trans s4;have R4:=R2.same s24;have I4:=I2.kp (Same.kp s24);rw[hbl];cases hn:BG (fr.getLastD un5) x with
    |false=>
     rw[Dn (by rw[hn];decide)] at k;exact BS ⟨V.int st,rfl,st,rfl,k st⟩
    |true=>
     rw[Dm hn] at k;have a14:=s24 _ _ a1;have a24:cg (λb l=>SqT K H4 b (l.map V.int)) as fr:=AR a2 λ_ _ q=>s24.tup q;have la:as.length=fr.length:=cn a24;have Dl:fr.length<15:=by
      by_cases hq:fr.length<15
      ·exact hq
      ·unfold mSW at hs;rw[decide_eq_false hq] at hs;cases hz:sk ("fret":Str).cps.toList Dg with
       |none=>rw[hz] at hs;cases hs
       |some y=>obtain⟨_,y⟩:=y;rw[hz] at hs;cases hs
     refine BH ⟨V.ref ia,rfl,ia,CI,dx2,_,_,rfl,s24 _ _ i2,N.T.cl,N.T.nf,NT _ _ _,.inl ⟨rfl,_,SqL.of a14⟩,V.ref xa,rfl,af,_,_,rfl,rfl,a14,?_,?_⟩
     ·rw[ai,la,cf];omega
     ·have sa:∀b o,H4 b=some o->b≠af->(upd H4 af (.lst (as.map V.ref++[.ref xa]))) b=some o:=λb o eb hb=>by rw[AE hb];exact eb
      refine k _ (R4.kp (xs:=as.map V.ref) (ys:=[]) a14 (tt.imp (λt=>cw t.1) id) sa) ⟨⟨dx2,sa _ _ (s24 _ _ i2) (B6 (s24 _ _ i2) a14 (by intro z;cases z))⟩,LT.add a14 a24 (s24.tup hx),I4.co_.upd a14 (cw I.n1),I4.ba_.upd a14 (cw I.n2),I.n1,I.n2,I.n3,?_,I.sc,I.sb,?_,I.lc⟩
       (((Sb.l s1 (OM r af ac ab).1).trans (Sb.l s2 (OM r af ac ab).1)).trans ((Same.l s24).trans λb o eb hb=>sa b o eb λz=>hb (z▸(OM r af ac ab).2.1)))
      ·intro l hl;rcases bu.mp hl with hl|hl
       ·exact I.sf l hl
       ·rw[fq.mp hl];exact sx
      ·rw[bp];simp;omega
   refine⟨V.ref ia,rfl,ia,CI,dx2,_,_,rfl,i2,N.T.cl,N.T.nf,NT _ _ _,af,y2,rfl,.inl q2,_,_,rfl,rfl,_,rfl,?_⟩;refine B4 (λh0=>?_) (λh0=>?_)
   ·have hp:0<fr.length:=by
     have:(0:Int)<(y2.length:Int):=by simpa using h0
     omega
    obtain⟨a,b,e1,e2,e3,e4⟩:=LI a2 (y:=un5) hp;refine⟨V.ref ia,rfl,ia,CI,dx2,_,_,rfl,i2,N.T.cl,N.T.nf,NT _ _ _,1,rfl,af,_,_,_,rfl,rfl,SqL.of a1,M7 e1,?_⟩;exact tail a b H2 (Same.refl _) e3 e2.symm (I.sf b e4)
   ·have hp:fr=[]:=by
     have:¬(0:Int)<(y2.length:Int):=by simpa using h0
     exact List.length_eq_zero_iff.mp (by omega)
    intro a ha;exact tail a un5 H2 (Same.refl _) (ha H2) (by rw[hp];rfl) aV
end
open PySem PySem.Spec PyProof.Rows L2
theorem SO {m:Bool} {l:List UInt8} {x:Unit×List UInt8} (h:mSW z m l=some x):m=true:=by
 cases m with
 |true=>rfl
 |false=>
  unfold mSW at h;cases hz:sk z.cps.toList l with
  |none=>rw[hz] at h;cases h
  |some y=>obtain⟨_,y⟩:=y;rw[hz] at h;cases h
theorem UT (af ac ab:ag):(ifs af ac ab).lookup ("string_count":Str)=none:=US _ _ _ (by decide +kernel) (by decide +kernel) (by decide +kernel)
theorem Sm.b60 {l:List Int} (h:Sm l):(∀z∈l,z.natAbs<2 ^ 60)/\0<l.getD 4 0/\l.getD 4 0<2 ^ 60:=by
 obtain⟨h5,h1,h2,h3⟩:=h;refine⟨λz hz=>?_,by omega,by omega⟩;obtain⟨i,hi⟩:=kg hz;have Dl:=(az.mp hi).1;have e:l.getD i 0=z:=by simp[vd,hi]
 by_cases h4:i<4
 ·have:=h1 i h4;rw[e] at this;omega
 ·have e4:i=4:=by omega
  subst e4;rw[e] at h2 h3;omega
section
variable {P:bb} {w:cb} {K:aa} {mg:Str->Option ah} {base:cr} {C CI CT:ag} {dz fz:Str}
theorem WU:FnScope ["reader","instrument","start","course","fret"] ["reader","instrument"] (AH F9):={}
theorem pQ (F:Fun K "read_course" "read_course" F9 f fd) (N:InE P w K mg base C CI CT dz fz) (gm:GI mg "MOST_STRINGS" 14):FnOk P w K mg base (CX1 P w) 10 f fd ["reader","instrument"] (L0 K C CI CT (FW dz fz)):=by
 refine F.okx WU λDk A outer s H vs Q E hr h=>?_;obtain⟨r,ta,cs,e,Dg,ia,af,ac,ab,fr,co,ba,rfl,Rr,I,tt,k⟩:=h;have R:=N.R;refine⟨_,(AB (AY (N.sw.call hr AD (AA (pv 0) (AA AV (AA (DI IK (N.sc.call0 (pv 1) hr AD) (BZ gm) (AQ _)) AF)))))
  (AB (AZ 2 WU (B5 R (pv 0)))
  (AB (AZ 3 WU (GZ N.rr hr AD (pv 0)))
  (AB (BR bh rfl (CW (AT (pv 1) rfl)) (C0 4 WU)
  (AC (AU (DT (CS (N.ii.call hr AD (AA (N.up.call hr AD (AA (pv 4) (AA (pv 3) AF))) AF)))) (AC (BF R.X1 hr AD rfl (pv 2))) AK)))
  (AC (AY (G7 dw fb ff CQ (AT (pv 1) rfl) (AA (pv 3) AF)))))))),?_⟩
 and_intros
 obtain⟨dx,i1⟩:=I.at_;obtain⟨dr,p,ir⟩:=Rr.ins;refine⟨V.ref r,rfl,V.ref ia,rfl,ia,dx,_,rfl,i1,UT _ _ _,ia,af,ac,ab,fr,co,ba,rfl,I,_,_,rfl,rfl,r,ta,cs,e,Dg,"course",decide (((co.length+ba.length:Nat):Int)<14),rfl,Rr,oks (by decide +kernel),?_⟩;have eb:decide (((co.length+ba.length:Nat):Int)<14)=decide (co.length+ba.length<14):=by rw[decide_eq_decide];omega
 rw[FW] at k;cases hs:mSW "course" (decide (co.length+ba.length<14)) Dg with
 |none=>simp only[hs] at k;exact AL (by rw[eb];exact hs) k
 |some x=>
  have Dl:co.length+ba.length<14:=of_decide_eq_true (SO hs);obtain⟨_,t⟩:=x;simp only[hs] at k;refine AM (by rw[eb];exact hs) λH1 R1 s1=>?_;have I1:=I.kp (Sb.kp s1 ir);obtain⟨dr1,p1,ir1⟩:=R1.ins;refine⟨_,rfl,r,ta,cs,e,t,rfl,R1,λst=>?_⟩;refine⟨_,rfl,r,ta,cs,e,t,rfl,R1,?_⟩;cases hm:DC dz fz t with
  |none=>simp only[hm] at k;exact EG rfl k
  |some x=>
   obtain⟨x,u⟩:=x;simp only[hm] at k;have sx:=NS hm;refine EH rfl λH2 xa R2 s2 hx=>?_;have I2:=I1.kp (Sb.kp s2 ir1);obtain⟨dx2,i2⟩:=I2.at_;obtain⟨as,a1,a2⟩:=id I2.fr_;have la:as.length=fr.length:=cn a2;refine⟨V.ref ia,rfl,ia,CI,dx2,_,_,rfl,i2,N.T.cl,N.T.nf,NT _ _ _,af,rfl,⟨_,SqL.of a1⟩,CO (K:=K) (a:=af) (xs:=as.map V.ref) (λi σ H'=>(∃r4,σ=[some (.ref r),some (.ref ia),some (.int st),some (.ref xa),r4])/\Same H2 H'/\((fr.take i).all λf=>EW (BQ f x))=true) ⟨⟨none,rfl⟩,Same.refl _,rfl⟩
    (λi σ H' _ ⟨_,s3,_⟩=>SqL.of (s3 _ _ a1)) ?_ ?_⟩
   ·rintro i y σ H3 hi ⟨⟨r4,rfl⟩,s3,ha⟩
    subst_eqs
    rw[au] at hi;cases ea:as[i]? with
    |none=>rw[ea] at hi;cases hi
    |some fa=>
     rw[ea] at hi;cases hi;obtain⟨fl,f1,f2⟩:=BD a2 ea;have sfl:Sm fl:=I.sf fl (bn f1);have b1:=sfl.b60;have b2:=sx.b60;refine⟨V.ref fa,rfl,V.ref xa,rfl,fa,xa,fl,x,rfl,.inr (s3.tup f2),s3.tup hx,sfl.1,sx.1,b1.1,b1.2.1,b2.2.1,b2.2.2,λH4 ua s4 hu=>⟨ua,BQ fl x,rfl,SqT.of hu,NQ _ _,λH5 s5=>⟨_,rfl,?_⟩⟩⟩;cases hi:EW (BQ fl x) with
     |true=>
      refine BH ⟨⟨_,rfl⟩,(s3.trans s4).trans s5,?_⟩;rw[dq,f1,wD,ha];simp[hi]
     |false=>
      have hall:(fr.all λf=>EW (BQ f x))=false:=by
       rw[yp];exact⟨fl,bn f1,by rw[hi];decide⟩
      rw[Dn (by rw[hall];decide)] at k;exact BS ⟨V.int st,rfl,st,rfl,k st⟩
   ·rintro σ H3 ⟨⟨r4,rfl⟩,s3,ha⟩;rw[ai,la,ez] at ha;rw[Dm ha] at k;have I3:=I2.kp (Same.kp s3);have R3:=R2.same s3;obtain⟨bs,c1,c2⟩:=id I3.co_;have lb:bs.length=co.length:=cn c2;have i3:=s3 _ _ i2;refine⟨V.ref ia,rfl,ia,CI,dx2,_,_,rfl,i3,N.T.cl,N.T.nc,IP _ _ _,.inl ⟨rfl,_,SqL.of c1⟩,V.ref xa,rfl,ac,_,_,rfl,rfl,c1,?_,?_⟩
    ·rw[ai,lb,cf];omega
    ·have sa:∀b o,H3 b=some o->b≠ac->(upd H3 ac (.lst (bs.map V.ref++[.ref xa]))) b=some o:=λb o eb hb=>by rw[AE hb];exact eb
     refine k _ (R3.kp (xs:=bs.map V.ref) (ys:=[]) c1 (tt.imp (λt=>cw t.2.1) id) sa) ⟨⟨dx2,sa _ _ i3 (B6 i3 c1 (by intro z;cases z))⟩,I3.fr_.upd c1 I.n1,LT.add c1 c2 (s3.tup hx),I3.ba_.upd c1 (cw I.n3),I.n1,I.n2,I.n3,I.sf,?_,I.sb,I.lf,?_⟩
      (((Sb.l s1 (OM r af ac ab).1).trans (Sb.l s2 (OM r af ac ab).1)).trans ((Same.l s3).trans λb o eb hb=>sa b o eb λz=>hb (z▸(OM r af ac ab).2.2.1)))
     ·intro l hl;rcases bu.mp hl with hl|hl
      ·exact I.sc l hl
      ·rw[fq.mp hl];exact sx
     ·rw[bp];simp;omega
theorem pR:FnScope ["reader","instrument"] ["reader","instrument"] (AH HF):={}
theorem pS (F:Fun K "read_bass" "read_bass" HF f fd) (N:InE P w K mg base C CI CT dz fz) (gm:GI mg "MOST_STRINGS" 14):FnOk P w K mg base (CX1 P w) 10 f fd ["reader","instrument"] (L0 K C CI CT (J5 dz fz)):=by
 refine F.okx pR λDk A outer s H vs Q E hr h=>?_;obtain⟨r,ta,cs,e,Dg,ia,af,ac,ab,fr,co,ba,rfl,Rr,I,tt,k⟩:=h;have R:=N.R;refine⟨_,(AB (AY (N.sw.call hr AD (AA (pv 0) (AA AV (AA (DI IK (N.sc.call0 (pv 1) hr AD) (BZ gm) (AQ _)) AF)))))
  (AC (AY (G7 dw fb ff CQ (AT (pv 1) rfl) (AA (GZ N.rr hr AD (pv 0)) AF))))),?_⟩
 and_intros
 obtain⟨dx,i1⟩:=I.at_;obtain⟨dr,p,ir⟩:=Rr.ins;refine⟨V.ref r,rfl,V.ref ia,rfl,ia,dx,_,rfl,i1,UT _ _ _,ia,af,ac,ab,fr,co,ba,rfl,I,_,_,rfl,rfl,r,ta,cs,e,Dg,"bass",decide (((co.length+ba.length:Nat):Int)<14),rfl,Rr,oks (by decide +kernel),?_⟩;have eb:decide (((co.length+ba.length:Nat):Int)<14)=decide (co.length+ba.length<14):=by rw[decide_eq_decide];omega
 rw[J5] at k;cases hs:mSW "bass" (decide (co.length+ba.length<14)) Dg with
 |none=>simp only[hs] at k;exact AL (by rw[eb];exact hs) k
 |some x=>
  have Dl:co.length+ba.length<14:=of_decide_eq_true (SO hs);obtain⟨_,t⟩:=x;simp only[hs] at k;refine AM (by rw[eb];exact hs) λH1 R1 s1=>?_;have I1:=I.kp (Sb.kp s1 ir);obtain⟨dx1,i1'⟩:=I1.at_;obtain⟨bs1,c1',_⟩:=id I1.ba_;obtain⟨dr1,p1,ir1⟩:=R1.ins;refine⟨V.ref ia,rfl,ia,CI,dx1,_,_,rfl,i1',N.T.cl,N.T.nb,WS _ _ _,.inl ⟨rfl,_,SqL.of c1'⟩,V.ref r,rfl,r,ta,cs,e,t,rfl,R1,?_⟩;cases hm:DC dz fz t with
  |none=>simp only[hm] at k;exact EG rfl k
  |some x=>
   obtain⟨x,u⟩:=x;simp only[hm] at k;have sx:=NS hm;refine EH rfl λH2 xa R2 s2 hx=>?_;have I2:=I1.kp (Sb.kp s2 ir1);obtain⟨dx2,i2⟩:=I2.at_;obtain⟨bs,c1,c2⟩:=id I2.ba_;have lb:bs.length=ba.length:=cn c2;refine⟨ab,_,_,rfl,rfl,c1,?_,?_⟩
   ·rw[ai,lb,cf];omega
   ·have sa:∀b o,H2 b=some o->b≠ab->(upd H2 ab (.lst (bs.map V.ref++[.ref xa]))) b=some o:=λb o eb hb=>by rw[AE hb];exact eb
    refine k _ (R2.kp (xs:=bs.map V.ref) (ys:=[]) c1 (tt.imp (λt=>cw t.2.2) id) sa) ⟨⟨dx2,sa _ _ i2 (B6 i2 c1 (by intro z;cases z))⟩,I2.fr_.upd c1 I.n2,I2.co_.upd c1 I.n3,LT.add c1 c2 hx,I.n1,I.n2,I.n3,I.sf,I.sc,?_,I.lf,?_⟩
     (((Sb.l s1 (OM r af ac ab).1).trans (Sb.l s2 (OM r af ac ab).1)).trans λb o eb hb=>sa b o eb λz=>hb (z▸(OM r af ac ab).2.2.2))
    ·intro l hl;rcases bu.mp hl with hl|hl
     ·exact I.sb l hl
     ·rw[fq.mp hl];exact sx
    ·rw[bp];simp;omega
end
open PySem PySem.Spec PyProof.Rows L2
def HQ (dz fz:Str):St3->List UInt8->Option (St3×List UInt8)
 |(fr,co,ba),l=>if see "f" l=true/\co.length=0 then NR dz fz (fr,co,ba) l else if see "c" l=true/\ba.length=0 then FW dz fz (fr,co,ba) l else if see "b" l=true/\0<co.length then J5 dz fz (fr,co,ba) l else none
def DA (dz fz:Str) (s:St3) (l:List UInt8):Option (St3×List UInt8):=match HQ dz fz s l with
 |none=>none
 |some (s',t)=>match sk ("\n":Str).cps.toList t with
  |none=>none
  |some (_,u)=>some (s',u)
def YM (dz:Str) (l:List UInt8):Option (Unit×List UInt8):=match sk ("length ":Str).cps.toList l with
 |none=>none
 |some (_,t)=>if see "0" t=true then none else match wn dz 7 t with
  |none=>none
  |some (n,u)=>if n<10000\/200000<n then none else sk ("\n":Str).cps.toList u
def CJ (dz fz:Str):Nat->St3->List UInt8->Option St3
 |0,_,_=>none
 |f+1,(fr,co,ba),l=>if l.isEmpty=true/\¬co.length=0 then some (fr,co,ba) else match DA dz fz (fr,co,ba) l with
  |none=>none
  |some (s,t)=>CJ dz fz f s t
def J6 (dz fz:Str) (cs:List UInt8):Option St3:=match YM dz cs with
 |none=>none
 |some (_,t)=>CJ dz fz (t.length+1) ([],[],[]) t
theorem QP {m:Bool} {l:List UInt8} {u:Unit} (h:mSW z m l=some (u,t)):t.length<=l.length:=by
 unfold mSW at h;cases hz:sk z.cps.toList l with
 |none=>rw[hz] at h;cases h
 |some y=>
  obtain⟨_,y⟩:=y;simp only[hz] at h;split at h
  ·have:=BN hz;have:=BN h;omega
  ·cases h
theorem KZ {l:List UInt8} (h:DC dz fz l=some (x,t)):t.length<=l.length:=by
 unfold DC at h;cases hm:mIv dz fz (l.takeWhile lf) with
 |none=>rw[hm] at h;cases h
 |some y=>rw[hm] at h;cases h;rw[fw];omega
theorem YN {s s':St3} {l:List UInt8} (h:HQ dz fz s l=some (s',t)):t.length<=l.length:=by
 obtain⟨fr,co,ba⟩:=s;rw[HQ] at h;split at h
 ·rw[NR] at h;cases hs:mSW "fret" (decide (fr.length<15)) l with
  |none=>simp only[hs] at h;cases h
  |some y=>
   obtain⟨_,y⟩:=y;simp only[hs] at h;cases hm:DC dz fz y with
   |none=>simp only[hm] at h;cases h
   |some q=>
    obtain⟨q,v⟩:=q;simp only[hm] at h;split at h
    ·cases h;have:=QP hs;have:=KZ hm;omega
    ·cases h
 ·split at h
  ·rw[FW] at h;cases hs:mSW "course" (decide (co.length+ba.length<14)) l with
   |none=>simp only[hs] at h;cases h
   |some y=>
    obtain⟨_,y⟩:=y;simp only[hs] at h;cases hm:DC dz fz y with
    |none=>simp only[hm] at h;cases h
    |some q=>
     obtain⟨q,v⟩:=q;simp only[hm] at h;split at h
     ·cases h;have:=QP hs;have:=KZ hm;omega
     ·cases h
  ·split at h
   ·rw[J5] at h;cases hs:mSW "bass" (decide (co.length+ba.length<14)) l with
    |none=>simp only[hs] at h;cases h
    |some y=>
     obtain⟨_,y⟩:=y;simp only[hs] at h;cases hm:DC dz fz y with
     |none=>simp only[hm] at h;cases h
     |some q=>
      obtain⟨q,v⟩:=q;simp only[hm] at h;cases h;have:=QP hs;have:=KZ hm;omega
   ·cases h
theorem UU {s s':St3} {l:List UInt8} (h:DA dz fz s l=some (s',t)):t.length<l.length:=by
 unfold DA at h;cases hp:HQ dz fz s l with
 |none=>rw[hp] at h;cases h
 |some y=>
  obtain⟨s1,y⟩:=y;simp only[hp] at h;cases hs:sk ("\n":Str).cps.toList y with
  |none=>rw[hs] at h;cases h
  |some q=>
   obtain⟨_,q⟩:=q;rw[hs] at h;cases h;have h1:=YN hp;have h2:t.length+1=y.length:=BN hs;omega
def j6 (K:aa) (CI CT:ag) (H:Hp) (Q:VK) (E:XK):Option St3->Prop
 |some (fr,co,ba)=>∀H' ia af ac ab,Same H H'->InA K CI H' ia af ac ab fr co ba->Q (.ref ia) H'
 |none=>∀z:Int,E (.ref CT) none (xH [("place",.int z)])
def gW (K:aa) (CI CT:ag) (dz fz:Str):Sp:=λvs H Q E=>Ex2 λ(ta:ag) (cs:List UInt8)=>vs=[.ref ta]/\SqL K H ta (cs.map cV)/\j6 K CI CT H Q E (J6 dz fz cs)
section
variable {P:bb} {w:cb} {K:aa} {mg:Str->Option ah} {base:cr} {C CI CT:ag} {dz fz:Str}
theorem pT:FnScope ["reader","instrument"] ["reader","instrument"] (AH CA):={}
theorem pU (F:Fun K "read_line" "read_line" CA f fd) (N:InE P w K mg base C CI CT dz fz) (D1:Def P w K mg base 10 "read_fret" ["reader","instrument"] (L0 K C CI CT (NR dz fz)))
 (D2:Def P w K mg base 10 "read_course" ["reader","instrument"] (L0 K C CI CT (FW dz fz))) (D3:Def P w K mg base 10 "read_bass" ["reader","instrument"] (L0 K C CI CT (J5 dz fz))):
 FnOk P w K mg base (CX1 P w) 11 f fd ["reader","instrument"] (L0 K C CI CT (DA dz fz)):=by
 refine F.okx pT λDk A outer s H vs Q E hr h=>?_;obtain⟨r,ta,cs,e,Dg,ia,af,ac,ab,fr,co,ba,rfl,Rr,I,tt,k⟩:=h;have R:=N.R;refine⟨_,(AB (AU (GO (BK R hr AD (pv 0) AV (oks (by decide +kernel))) (E1 (AN CY (AX AO (by rfl) N.B.len cy (AA (AT (pv 1) rfl) AF)) AI (AQ _)))).pt
  (AC (AY (D1.call hr AD (AA (pv 0) (AA (pv 1) AF)))))
  (AC (AU (GO (BK R hr AD (pv 0) AV (oks (by decide +kernel))) (E1 (AN CY (AX AO (by rfl) N.B.len cy (AA (AT (pv 1) rfl) AF)) AI (AQ _)))).pt
   (AC (AY (D2.call hr AD (AA (pv 0) (AA (pv 1) AF)))))
   (AC (AU (GO (BK R hr AD (pv 0) AV (oks (by decide +kernel))) (E1 (AN EZ (AX AO (by rfl) N.B.len cy (AA (AT (pv 1) rfl) AF)) AI (AQ _)))).pt
    (AC (AY (D3.call hr AD (AA (pv 0) (AA (pv 1) AF)))))
    (AC (BF R.X1 hr AD rfl (B5 R (pv 0)))))))))
  (AC (BL R hr AD (pv 0) AV (oks (by decide +kernel))))),?_⟩
 and_intros
 unfold DA at k;have tail:∀(H1 H2:Hp) (fr' co' ba':List (List Int)) (t:List UInt8),Same H H1->SbL [r,af,ac,ab] H1 H2->Rd K C H2 r ta cs e t->InA K CI H2 ia af ac ab fr' co' ba'->HQ dz fz (fr,co,ba) Dg=some ((fr',co',ba'),t)->
  (NO K C CT E (BP 0) "\n") { nx:=λ_ H'=>Q .non H',rt:=Q } [some (.ref r),some (.ref ia)] H2:=by
  intro H1 H2 fr' co' ba' t s1 s2 R2 I2 hp;rw[hp] at k;obtain⟨dr,p,ir⟩:=R2.ins;refine⟨_,rfl,r,ta,cs,e,t,rfl,R2,?_⟩;cases hs:sk ("\n":Str).cps.toList t with
  |none=>simp only[hs] at k;exact AL rfl k
  |some x=>
   obtain⟨_,u⟩:=x;simp only[hs] at k;exact AM rfl λH3 R3 s3=>k H3 R3 (I2.kp (Sb.kp s3 ir)) (((Same.l s1).trans s2).trans (Sb.l s3 (OM r af ac ab).1))
 have nope:∀z:Int,HQ dz fz (fr,co,ba) Dg=none->E (.ref CT) none (xH [("place",.int z)]):=λz hp=>by
  rw[hp] at k;exact k z
 obtain⟨dx,i1⟩:=I.at_;rw[HQ] at tail nope;have test:∀(H1:Hp) (z:Str),True:=λ_ _=>jj;refine⟨_,rfl,r,ta,cs,e,Dg,rfl,Rr,λH1 s1=>?_⟩;have I1:=I.kp (Same.kp s1);have R1:=Rr.same s1;have i11:=s1 _ _ i1;have second:∀H1:Hp,Same H H1->¬(see "f" Dg=true/\co.length=0)->(TZ (dQ (WL K C (BP 0) "c") (RQ (tOp rEq (tCB (λxs H Q=>Ex2 λp ys=>xs=[V.ref p]/\(SqL K H p ys\/SqT K H p ys)/\Q (.int ys.length) H) (B9 (OG K (BP 1) "basses") EQ)) (tC (.int 0)))))
  (LB (LD (L0 K C CI CT (FW dz fz)) [] E (B9 (BP 0) (B9 (BP 1) EQ))))
  (TZ (dQ (WL K C (BP 0) "b") (RQ (tOp (rI0 λi j=>.bl (decide (j<i))) (tCB (λxs H Q=>Ex2 λp ys=>xs=[V.ref p]/\(SqL K H p ys\/SqT K H p ys)/\Q (.int ys.length) H) (B9 (OG K (BP 1) "courses") EQ)) (tC (.int 0)))))
   (LB (LD (L0 K C CI CT (J5 dz fz)) [] E (B9 (BP 0) (B9 (BP 1) EQ)))) (KU CT E (QN K C (BP 0)))))
  { nx:=(NO K C CT E (BP 0) "\n") { nx:=λ_ H'=>Q .non H',rt:=Q },rt:=Q } [some (.ref r),some (.ref ia)] H1:=by
  intro H1 s1 hno;rw[Dn hno] at tail nope;have I1:=I.kp (Same.kp s1);have R1:=Rr.same s1;refine⟨_,rfl,r,ta,cs,e,Dg,rfl,R1,λH2 s2=>?_⟩;have s12:=s1.trans s2;have I2:=I.kp (Same.kp s12);have R2:=Rr.same s12;have i2:=s12 _ _ i1;have third:∀H2:Hp,Same H H2->¬(see "c" Dg=true/\ba.length=0)->(TZ (dQ (WL K C (BP 0) "b") (RQ (tOp (rI0 λi j=>.bl (decide (j<i))) (tCB (λxs H Q=>Ex2 λp ys=>xs=[V.ref p]/\(SqL K H p ys\/SqT K H p ys)/\Q (.int ys.length) H) (B9 (OG K (BP 1) "courses") EQ)) (tC (.int 0)))))
   (LB (LD (L0 K C CI CT (J5 dz fz)) [] E (B9 (BP 0) (B9 (BP 1) EQ)))) (KU CT E (QN K C (BP 0))))
   { nx:=(NO K C CT E (BP 0) "\n") { nx:=λ_ H'=>Q .non H',rt:=Q },rt:=Q } [some (.ref r),some (.ref ia)] H2:=by
   intro H2 s2 hno2;rw[Dn hno2] at tail nope;have R2:=Rr.same s2;refine⟨_,rfl,r,ta,cs,e,Dg,rfl,R2,λH3 s3=>?_⟩;have s23:=s2.trans s3;have I3:=I.kp (Same.kp s23);have R3:=Rr.same s23;have i3:=s23 _ _ i1;have last:¬(see "b" Dg=true/\0<co.length)->(KU CT E (QN K C (BP 0))) { nx:=(NO K C CT E (BP 0) "\n") { nx:=λ_ H'=>Q .non H',rt:=Q },rt:=Q } [some (.ref r),some (.ref ia)] H3:=λhno3=>by
    rw[Dn hno3] at nope;exact⟨V.ref r,rfl,r,ta,cs,e,Dg,rfl,R3,λz=>⟨z,rfl,nope z rfl⟩⟩
   cases hb:see "b" Dg with
   |false=>exact BH (BH (last (by rw[hb];rintro ⟨q,_⟩;cases q)))
   |true=>
    obtain⟨y1,q1,l1⟩:=I3.co_.len;refine BS ⟨V.ref ia,rfl,ia,CI,dx,_,_,rfl,i3,N.T.cl,N.T.nc,IP _ _ _,ac,y1,rfl,.inl q1,_,_,rfl,rfl,_,rfl,B4 (λh0=>?_) (λh0=>?_)⟩
    ·have hc:0<co.length:=by
      have:(0:Int)<(y1.length:Int):=by simpa using h0
      omega
     rw[Dm ⟨hb,hc⟩] at tail nope;refine⟨V.ref r,rfl,V.ref ia,rfl,r,ta,cs,e,Dg,ia,af,ac,ab,fr,co,ba,rfl,R3,I3,tt,?_⟩;cases hm:J5 dz fz (fr,co,ba) Dg with
     |none=>exact IA rfl λz=>nope z hm
     |some x=>
      obtain⟨⟨fr',co',ba'⟩,t⟩:=x;exact IB rfl λH4 R4 I4 s4=>tail H3 H4 fr' co' ba' t s23 s4 R4 I4 hm
    ·have hc:¬0<co.length:=by
      have:¬(0:Int)<(y1.length:Int):=by simpa using h0
      omega
     exact last λq=>hc q.2
  cases hc:see "c" Dg with
  |false=>exact BH (BH (third H2 s12 (by rw[hc];rintro ⟨q,_⟩;cases q)))
  |true=>
   obtain⟨y1,q1,l1⟩:=I2.ba_.len;refine BS ⟨V.ref ia,rfl,ia,CI,dx,_,_,rfl,i2,N.T.cl,N.T.nb,WS _ _ _,ab,y1,rfl,.inl q1,rfl,_,rfl,B4 (λh0=>?_) (λh0=>?_)⟩
   ·have hb0:ba.length=0:=by
     have q:=of_decide_eq_true h0;injection q with q;omega
    rw[Dm ⟨hc,hb0⟩] at tail nope;refine⟨V.ref r,rfl,V.ref ia,rfl,r,ta,cs,e,Dg,ia,af,ac,ab,fr,co,ba,rfl,R2,I2,tt,?_⟩;cases hm:FW dz fz (fr,co,ba) Dg with
    |none=>exact IA rfl λz=>nope z hm
    |some x=>
     obtain⟨⟨fr',co',ba'⟩,t⟩:=x;exact IB rfl λH4 R4 I4 s4=>tail H2 H4 fr' co' ba' t s12 s4 R4 I4 hm
   ·have hb0:¬ba.length=0:=λq=>h0 (decide_eq_true (by rw[l1,q];rfl));exact third H2 s12 λq=>hb0 q.2
 cases hf:see "f" Dg with
 |false=>exact BH (BH (second H1 s1 (by rw[hf];rintro ⟨q,_⟩;cases q)))
 |true=>
  obtain⟨y1,q1,l1⟩:=I1.co_.len;refine BS ⟨V.ref ia,rfl,ia,CI,dx,_,_,rfl,i11,N.T.cl,N.T.nc,IP _ _ _,ac,y1,rfl,.inl q1,rfl,_,rfl,B4 (λh0=>?_) (λh0=>?_)⟩
  ·have hc0:co.length=0:=by
    have q:=of_decide_eq_true h0;injection q with q;omega
   rw[Dm ⟨hf,hc0⟩] at tail nope;refine⟨V.ref r,rfl,V.ref ia,rfl,r,ta,cs,e,Dg,ia,af,ac,ab,fr,co,ba,rfl,R1,I1,tt,?_⟩;cases hm:NR dz fz (fr,co,ba) Dg with
   |none=>exact IA rfl λz=>nope z hm
   |some x=>
    obtain⟨⟨fr',co',ba'⟩,t⟩:=x;exact IB rfl λH4 R4 I4 s4=>tail H1 H4 fr' co' ba' t s1 s4 R4 I4 hm
  ·have hc0:¬co.length=0:=λq=>h0 (decide_eq_true (by rw[l1,q];rfl));exact second H1 s1 λq=>hc0 q.2
theorem aY:FnScope ["reader","start","length"] ["reader"] (AH B2):={}
theorem pV (F:Fun K "read_length" "read_length" B2 f fd) (R:RdE P w K mg base C CT dz) (g1:GI mg "LENGTH_DIGITS" ((7:Nat):Int)) (g2:GI mg "LEAST_LENGTH" 10000) (g3:GI mg "GREATEST_LENGTH" 200000):
 FnOk P w K mg base (CX1 P w) 5 f fd ["reader"] (G0 K C CT (YM dz) YL):=by
 refine F.okx aY λDk A outer s H vs Q E hr h=>?_;obtain⟨r,ta,cs,e,Dg,rfl,Rr,k⟩:=h;refine⟨_,(AB (BL R hr AD (pv 0) AV (oks (by decide +kernel)))
  (AB (AZ 1 aY (B5 R (pv 0)))
  (AB (AU (BK R hr AD (pv 0) AV (oks (by decide +kernel))) (AC (BF R.X1 hr AD rfl (pv 1))) AK)
  (AB (AZ 2 aY (WP (most:=7) R hr AD (pv 0) (BZ g1)))
  (AB (AU (OR (AN IK (pv 2) (BZ g2) (AQ _)) (KF (AN EZ (pv 2) (BZ g3) (AQ _)))).pt (AC (BF R.X1 hr AD rfl (pv 1))) AK)
  (AC (BL R hr AD (pv 0) AV (oks (by decide +kernel))))))))),?_⟩
 and_intros
 unfold YM at k;refine⟨_,rfl,r,ta,cs,e,Dg,rfl,Rr,?_⟩;cases hs:sk ("length ":Str).cps.toList Dg with
 |none=>rw[hs] at k;exact AL rfl k
 |some x=>
  obtain⟨_,t⟩:=x;simp only[hs] at k;refine AM rfl λH1 R1 s1=>?_;refine⟨_,rfl,r,ta,cs,e,t,rfl,R1,λst=>?_⟩;refine⟨_,rfl,r,ta,cs,e,t,rfl,R1,λH2 s2=>?_⟩;have R2:=R1.same s2;cases h0:see "0" t with
  |true=>
   rw[Dm h0] at k;exact BS ⟨V.int st,rfl,st,rfl,k st⟩
  |false=>
   rw[Dn (by rw[h0];decide)] at k;refine BH ⟨_,rfl,r,ta,cs,e,t,rfl,R2,?_⟩;cases hw:wn dz 7 t with
   |none=>simp only[hw] at k;exact AL rfl k
   |some x=>
    obtain⟨n,u⟩:=x;simp only[hw] at k;refine AM rfl λH3 R3 s3=>?_;have fail:(n<10000\/200000<n)->∀z:Int,E (.ref CT) none (xH [("place",.int z)]):=λq=>by rw[Dm q] at k;exact k
    refine⟨V.int (n:Nat),rfl,_,_,rfl,rfl,_,rfl,B4 (λh1=>?_) (λh1=>?_)⟩
    ·have q1:n<10000:=by
      have:(n:Int)<10000:=by simpa using h1
      omega
     exact BS ⟨V.int st,rfl,st,rfl,fail (.inl q1) st⟩
    ·have q1:¬n<10000:=by
      have:¬(n:Int)<10000:=by simpa using h1
      omega
     refine⟨V.int (n:Nat),rfl,_,_,rfl,rfl,_,rfl,B4 (λh2=>?_) (λh2=>?_)⟩
     ·have q2:200000<n:=by
       have:(200000:Int)<n:=by simpa using h2
       omega
      exact⟨V.int st,rfl,st,rfl,fail (.inr q2) st⟩
     ·have q2:¬200000<n:=by
       have:¬(200000:Int)<n:=by simpa using h2
       omega
      rw[Dn (by rintro (q|q);exact q1 q;exact q2 q)] at k;refine⟨_,rfl,r,ta,cs,e,u,rfl,R3,?_⟩;cases hs2:sk ("\n":Str).cps.toList u with
      |none=>rw[hs2] at k;exact AL rfl k
      |some x=>
       obtain⟨⟨⟩,v⟩:=x;rw[hs2] at k;exact AM rfl λH4 R4 s4=>k H4 R4 (((s1.trans s2.sb).trans s3).trans s4)
end
open PySem PySem.Spec PyProof.Rows L2
theorem PJ {K:aa} {res:Option St3} (k:j6 K CI CT H Q E res) (h:res=none):∀z:Int,E (.ref CT) none (xH [("place",.int z)]):=by
 rw[h] at k;exact k
theorem YO {K:aa} {res:Option St3} (k:j6 K CI CT H Q E res) (h:res=some (fr,co,ba)):∀H' ia af ac ab,Same H H'->InA K CI H' ia af ac ab fr co ba->Q (.ref ia) H':=by
 rw[h] at k;exact k
theorem HR {K:aa} (h:SqL K H ta (cs.map cV)) (n:H a=none):ta≠a\/KTx K ta (cs.map cV):=by
 rcases h with(h|⟨o,h⟩)|h
 ·exact .inl (AG h n)
 ·exact .inl (AG h n)
 ·exact .inr h
def pW (K:aa) (CI:ag):Sp:=λvs H Q _=>Ex9 λ(ia af ac ab:ag) (fr co ba:List (List Int)) (c f:Int)=>vs=[.ref ia,.int c,.int f]/\InA K CI H ia af ac ab fr co ba/\
 Q (.bl (if c<=co.length then decide (f<=fr.length) else decide (c<=((co.length+ba.length:Nat):Int))&&decide (f=0))) H
theorem j7 {c:Bool} {A B:Prop} (hc:c=true) (h:A):if c=true then A else B:=by rw[Dm hc];exact h
theorem YQ {c:Bool} {A B:Prop} (hc:c=false) (h:B):if c=true then A else B:=by rw[Dn (by rw[hc];decide)];exact h
theorem J7 (dz fz:Str) (f:Nat) (fr co ba:List (List Int)) (l:List UInt8):CJ dz fz (f+1) (fr,co,ba) l=if l.isEmpty=true/\¬co.length=0 then some (fr,co,ba) else match DA dz fz (fr,co,ba) l with
 |none=>none
 |some (s,t)=>CJ dz fz f s t:=by rw[CJ];all_goals rfl
def WIn (K:aa) (C CI:ag) (dz fz:Str) (ta r ia af ac ab:ag) (cs t:List UInt8) (H3:Hp) (m:Nat) (σ:L2.St) (H':Hp):Prop:=
 Ex5 λ(Dg:List UInt8) (fr co ba:List (List Int)) (g:Nat)=>σ=[some (.ref ta),some (.ref r),some (.ref ia)]/\SbL [r,af,ac,ab] H3 H'/\Rd K C H' r ta cs cs.length Dg/\InA K CI H' ia af ac ab fr co ba/\
  CJ dz fz (t.length+1) ([],[],[]) t=CJ dz fz g (fr,co,ba) Dg/\Dg.length<g/\m=Dg.length
section
variable {P:bb} {w:cb} {K:aa} {mg:Str->Option ah} {base:cr} {C CI CT:ag} {dz fz:Str}
theorem UV:FnScope ["text","reader","instrument"] ["text"] (AH DY):={}
theorem j8 (F:Fun K "read_instrument" "read_instrument" DY f fd) (N:InE P w K mg base C CI CT dz fz) (MI:Mkr P w K mg base 1 CI "Instrument" ["self"] (aX CI))
 (D1:Def P w K mg base 5 "read_length_instruments" ["reader"] (G0 K C CT (YM dz) YL)) (D2:Def P w K mg base 11 "read_line_instruments" ["reader","instrument"] (L0 K C CI CT (DA dz fz))):
 FnOk P w K mg base (CX1 P w) 12 f fd ["text"] (gW K CI CT dz fz):=by
 refine F.okx UV λDk A outer s H vs Q E hr h=>?_;obtain⟨ta,cs,rfl,tx,k⟩:=h;have R:=N.R;refine⟨_,(AB (AZ 1 UV (R.mkr.call hr AD (AA (pv 0) (AA AI (AA (AX AO (by rfl) N.B.len cy (AA (pv 0) AF)) AF)))))
  (AB (AY (KY D1 hr AD (pv 1)))
  (AB (AZ 2 UV (MI.call0 hr AD))
  (AB (B8 bh (OR (DT (J4 R hr AD (pv 1))) (KF (AN CY (AX AO (by rfl) N.B.len cy (AA (AT (pv 2) rfl) AF)) AI (AQ _)))).pt
  (AC (AY (D2.call hr AD (AA (pv 1) (AA (pv 2) AF))))))
  (AC (AJ (pv 2))))))),?_⟩
 and_intros
 refine⟨V.ref ta,rfl,V.ref ta,rfl,ta,_,rfl,.inl tx,λr dr nr nd hne=>⟨r,dr,ta,0,_,rfl,upd_same,λH1 h1 s1=>⟨rfl,?_⟩⟩⟩;have sm1:Same H H1:=B0 nr nd s1 Sb.refl;have fin:∀{H2:Hp},Sb r H1 H2->Same H H2:=λs2=>B0 nr nd s1 s2;have R1:Rd K C H1 r ta cs cs.length cs:=by
  refine⟨⟨dr,0,?_,?_,du _⟩,sm1.seq tx,aw _⟩
  ·rw[h1,ai];rfl
  ·rw[ez];rfl
 unfold J6 at k;refine⟨V.ref r,rfl,r,ta,cs,cs.length,cs,rfl,R1,?_⟩;cases hl:YM dz cs with
 |none=>exact AL rfl (PJ k (by rw[hl]))
 |some x=>
  obtain⟨_,t⟩:=x;simp only[hl] at k;refine AM rfl λH2 R2 s2=>?_;have sm2:=fin s2;intro ia di ni ndi hni;refine⟨ia,di,rfl,upd_same,λH3 af ac ab h3 ea ec eb nf nc nb n1 n2 n3 s3=>⟨rfl,?_⟩⟩;have sm23:Same H2 H3:=B0 ni ndi s3 Sb.refl;have nn:∀{q:ag},(upd (upd H2 di (.own ia)) ia (.ins CI di [])) q=none->H2 q=none:=λ{q} h=>by
   by_cases e1:q=ia
   ·rw[e1];exact ni
   ·by_cases e2:q=di
    ·rw[e2];exact ndi
    ·rw[AE e1,AE e2] at h;exact h
  have I3:InA K CI H3 ia af ac ab [] [] []:=⟨⟨di,h3⟩,⟨[],ea,.nil⟩,⟨[],ec,.nil⟩,⟨[],eb,.nil⟩,n1,n2,n3,by simp,by simp,by simp,by simp,by simp⟩
  have R3:=R2.same sm23;have tt:(ta≠af/\ta≠ac/\ta≠ab)\/KTx K ta (cs.map cV):=by
   rcases HR R2.tx (nn nf) with q1|q
   ·rcases HR R2.tx (nn nc) with q2|q
    ·rcases HR R2.tx (nn nb) with q3|q
     ·exact .inl ⟨q1,q2,q3⟩
     ·exact .inr q
    ·exact .inr q
   ·exact .inr q
  have hold:∀{H4:Hp},SbL [r,af,ac,ab] H3 H4->Same H H4:=λ{H4} s4 b o e=>by
   have m0:b≠r:=AG e nr;have e2:=sm2 b o e;have m1:b≠af:=AG e2 (nn nf);have m2:b≠ac:=AG e2 (nn nc);have m3:b≠ab:=AG e2 (nn nb);exact s4 b o (sm23 b o e2) (by simp[m0,m1,m2,m3])
  refine⟨WIn K C CI dz fz ta r ia af ac ab cs t H3,⟨t.length,t,[],[],[],t.length+1,rfl,SbL.refl,R3,I3,rfl,by omega,rfl⟩,?_⟩;rintro m σ H4 ⟨Dg,fr,co,ba,g,rfl,s4,R4,I4,em,hg,rfl⟩;rw[em] at k;obtain⟨g,rfl⟩:∃g',g=g'+1:=⟨g - 1,by omega⟩
  rw[J7] at k;replace em:=em.trans (J7 dz fz g fr co ba Dg);obtain⟨dx,i4⟩:=I4.at_;have step:¬(Dg.isEmpty=true/\¬co.length=0)->(LB (LD (L0 K C CI CT (DA dz fz)) [] E (B9 (BP 1) (B9 (BP 2) EQ)))) { nx:=λσ' H'=>∃m',m'<Dg.length/\WIn K C CI dz fz ta r ia af ac ab cs t H3 m' σ' H',rt:=Q } [some (.ref ta),some (.ref r),some (.ref ia)] H4:=by
   intro hno;rw[Dn hno] at k em;refine⟨V.ref r,rfl,V.ref ia,rfl,r,ta,cs,cs.length,Dg,ia,af,ac,ab,fr,co,ba,rfl,R4,I4,tt,?_⟩;cases hm:DA dz fz (fr,co,ba) Dg with
   |none=>exact IA rfl (PJ k (by rw[hm]))
   |some x=>
    obtain⟨⟨fr',co',ba'⟩,u⟩:=x;have Dl:=UU hm;simp only[hm] at em;refine IB rfl λH5 R5 I5 s5=>⟨u.length,Dl,u,fr',co',ba',g,rfl,s4.trans s5,R5,I5,em,by omega,rfl⟩
  have stop:(Dg.isEmpty=true/\¬co.length=0)->Q (.ref ia) H4:=λhy=>YO k (by rw[Dm hy]) H4 ia af ac ab (hold s4) I4;refine⟨V.ref r,rfl,r,ta,cs,cs.length,Dg,rfl,R4,?_⟩;rcases vV Dg.isEmpty with hr0|hr0
  case inr=>
   refine j7 (c:=!Dg.isEmpty) (by rw[hr0];rfl) ?_;exact DZ (step (by rw[hr0];rintro ⟨q,_⟩;cases q))
  case inl=>
   obtain⟨y1,q1,l1⟩:=I4.co_.len;refine YQ (c:=!Dg.isEmpty) (by rw[hr0];rfl) ⟨V.ref ia,rfl,ia,CI,dx,_,_,rfl,i4,N.T.cl,N.T.nc,IP _ _ _,ac,y1,rfl,.inl q1,rfl,_,rfl,?_⟩;by_cases hc:co.length=0
   ·have hd:decide (V.int ((y1.length:Nat):Int)=V.int 0)=true:=decide_eq_true (by rw[l1,hc];rfl);rw[hd];exact DZ (step λq=>q.2 hc)
   ·have hd:decide (V.int ((y1.length:Nat):Int)=V.int 0)=false:=decide_eq_false λq=>hc (by injection q with q;omega);rw[hd];exact BH ⟨V.ref ia,rfl,stop ⟨hr0,hc⟩⟩
theorem pX:FnScope ["self","course","fret"] ["self","course","fret"] (AH CG):={}
theorem pY (F:Fun K "has_place" "Instrument.has_place" CG f fd) (B:Blt mg) (T:InC K CI) (M1:Mth P w K mg base 1 CI "string_count" ["self"] (j1 K CI)):FnOk P w K mg base (CX1 P w) 2 f fd ["self","course","fret"] (pW K CI):=by
 refine F.okx pX λDk A outer s H vs Q E hr h=>?_;obtain⟨ia,af,ac,ab,fr,co,ba,c,f,rfl,I,k⟩:=h;obtain⟨dx,h1⟩:=I.at_;obtain⟨y1,q1,l1⟩:=I.co_.len;obtain⟨y2,q2,l2⟩:=I.fr_.len;refine⟨_,(AB (AU (AN JM (pv 1) (AX AO (by rfl) B.len cy (AA (AT (pv 0) rfl) AF)) (AQ _))
  (AC (AJ (DI JM (pv 2) (AX AO (by rfl) B.len cy (AA (AT (pv 0) rfl) AF)) (AQ _)))) AK)
  (AC (AJ (TY (DI JM (pv 1) (M1.call0 (pv 0) hr AD) (AQ _)) (TX (DI CY (pv 2) AI (AQ _))))))),?_⟩
 and_intros
 refine⟨V.int c,rfl,V.ref ia,rfl,ia,CI,dx,_,_,rfl,h1,T.cl,T.nc,IP _ _ _,ac,y1,rfl,.inl q1,_,_,rfl,rfl,_,rfl,B4 (λh0=>?_) (λh0=>?_)⟩
 ·have hc:c<=(co.length:Int):=by
   have:c<=(y1.length:Int):=by simpa using h0
   omega
  rw[Dm hc] at k;refine⟨V.int f,rfl,V.ref ia,rfl,ia,CI,dx,_,_,rfl,h1,T.cl,T.nf,NT _ _ _,af,y2,rfl,.inl q2,_,_,rfl,rfl,?_⟩;rw[←l2] at k;exact k
 ·have hc:¬c<=(co.length:Int):=by
   have:¬c<=(y1.length:Int):=by simpa using h0
   omega
  rw[Dn hc] at k;refine⟨V.int c,rfl,V.ref ia,rfl,ia,dx,_,rfl,h1,UT _ _ _,ia,af,ac,ab,fr,co,ba,rfl,I,_,_,rfl,rfl,?_⟩;cases hd:decide (c<=((co.length+ba.length:Nat):Int)) with
  |false=>
   rw[hd] at k;exact⟨false,(by rw[←hd]),BH k⟩
  |true=>
   rw[hd] at k;refine⟨true,(by rw[←hd]),BS ⟨V.int f,rfl,rfl,?_⟩⟩;have e0:decide (V.int f=V.int 0)=decide (f=0):=by
    rw[decide_eq_decide];exact⟨λq=>by injection q,λq=>by rw[q]⟩
   rw[e0];exact k
end
end Lt
end
section
namespace L2
open PySem PySem.Spec PyProof.Rows
section
variable {prog:bb} {w:cb} {A:dj} {E:ah->ak->Prop} {s:ak}
theorem UW:wp (.type "list_reverseiterator") "__len__"=pure none:=by rw[zf,wN];kernel_rfl
theorem aZ:wp (.type "list_reverseiterator") "__length_hint__"=pure (some (.builtin "list_reverseiterator.__length_hint__")):=by rw[zf,wN];kernel_rfl
theorem eU {R:yE->ak->Prop} (hh:A.handled=none) (S it l:ag) (items:Array ah) (res:ah) (c₀:Nat) (hn:items.size<=sizeLine) (hne:l≠it) (hSi:S≠it) (hSl:S≠l) (hit:s.heap.IsRevIter it l ((items.size:Int) - 1)) (hl:s.heap.IsList l items)
 (hS:s.heap.get? S=some { cls:=.type "list",data:=.seq #[] c₀ })
 (hR:∀h' tk acc' c',(∀b o,b≠S->b≠it->s.heap.get? b=some o->h'.get? b=some o)->h'.get? S=some { cls:=.type "list",dict:=none,data:=.seq acc' c',slots:=#[] }->
  zr (λi v=>items[items.size - 1 - i]? =some v) acc' items.size->R (.ok (.ret res)) { s with heap:=h',toks:=tk }):
 bi (bo prog w) A.in1 (kx (.ref S) (.ref it) res)
  (λfin s'=>match fin with| .done f=>R (.ok f) s'| .again c'=>c'.quiet=true/\nw (bo prog w) A c' R s') (λe s'=>R (.error e) s') s:=by
 have hSf:S∉[it,l]:=by simp[hSi,hSl]
 unfold kx;refine ae (wpAny_typeOf (T:="list_reverseiterator") hit.typeIs ?_);have h1:vW (.ref S) (.ref it)=false:=by simp[vW,hSi]
 have h2:(ji "list_reverseiterator"==ji "list")=false:=by decide
 have h3:(ji "list_reverseiterator"==ji "tuple")=false:=by decide
 simp only[h1,h2,h3,Az,fx,if_false];refine ae (wpAny_pyIter_revIter hit ?_);refine ae (io ?_);unfold zt;refine ae (wB hit.typeIs UW ?_);show bi _ A.in1 (specialOf (cj it) (mm "__length_hint__") >>= _) _ _ _;refine ae (wB hit.typeIs aZ ?_)
 wp_delta
 refine ae (yN (T:="list_reverseiterator") (v:=.ref it) (b:=true) hit.typeIs (by rw[isSubtype_type];kernel_rfl) ?_);show bi _ _ (pure false) _ _ _;refine ao ?_;rw[Dn (by decide)];have W:=(Walks.listRev (prog:=prog) (w:=w) (A:=A.in1) hh it l hne items).toS;refine ao ⟨plainId_quiet F.plain_extend_loop _,codeAny_extend_loopS W hn _ hSf _ items.size 0 _ _ _ rfl (du _) ⟨du _,?_,hl⟩ hS (ItemsOf.nil _) λs' acc' c' hm hS' hacc=>?_⟩
 ·have e:(items.size:Int) - 1 - ((0:Nat):Int)=(items.size:Int) - 1:=by omega
  rw[e];exact hit
 ·rw[Moved.eq_with hm];refine hR s'.heap s'.toks acc' c' (λb ob hb hb2 e=>hm.heap b ob (λhmem=>?_) e) hS' hacc;simp[hb,hb2] at hmem
theorem a0 {R:yE->ak->Prop} (hh:A.handled=none) (S it l:ag) (items:Array ah) (hn:items.size<=sizeLine) (hne:l≠it) (hSi:S≠it) (hSl:S≠l) (hit:s.heap.IsRevIter it l ((items.size:Int) - 1)) (hl:s.heap.IsList l items)
 (hS:s.heap.get? S=some { cls:=.type "list",data:=.seq #[] })
 (hR:∀h' tk acc' c',(∀b o,b≠S->b≠it->s.heap.get? b=some o->h'.get? b=some o)->h'.get? S=some { cls:=.type "list",dict:=none,data:=.seq acc' c',slots:=#[] }->
  zr (λi v=>items[items.size - 1 - i]? =some v) acc' items.size->R (.ok (.ret .none)) { s with heap:=h',toks:=tk }):
 bi (bo prog w) A.in1 (vJ.«list.__init__» ⟨[.ref S,.ref it],[]⟩)
  (λfin s'=>match fin with| .done f=>R (.ok f) s'| .again c'=>c'.quiet=true/\nw (bo prog w) A c' R s') (λe s'=>R (.error e) s') s:=by
 show bi _ _ (do let old←wu (.ref S);Bj (.ref S) (λ_=>#[]);letGo old.toList.reverse;kx (.ref S) (.ref it) .none) _ _ s;refine ae ?_;unfold wu;refine ae (xb hS rfl (ao ?_));show bi _ _ (updateSeq S (λ_=>#[]) >>= λ_=>letGo (#[]:Array ah).toList.reverse >>= λ_=>kx (.ref S) (.ref it) .none) _ _ s;refine ae (wpAny_updateSeq hS rfl ?_);have hS₂:=je (fm (λ_=>(#[]:Array ah))) hS rfl;have oth:∀b o,b≠S->s.heap.get? b=some o->(s.heap.update S (fm (λ_=>(#[]:Array ah)))).get? b=some o:=
  λb o hb e=>(ku _ _ (cw hb)).trans e
 refine ae (wpAny_letGo ?_);refine eU hh S it l items .none _ hn hne hSi hSl (hit.at λo e=>oth it o (cw hSi) e) (hl.at λo e=>oth l o (cw hSl) e) hS₂ λh' tk acc' c' hk hS' hacc=>?_;exact hR h' tk acc' c' (λb o hb hb2 e=>hk b o hb hb2 (oth b o hb e)) hS' hacc
theorem ON {Q:ah->ak->Prop} (hh:A.handled=none) (it l:ag) (items:Array ah) (hn:items.size<=sizeLine) (hne:l≠it) (hit:s.heap.IsRevIter it l ((items.size:Int) - 1)) (hl:s.heap.IsList l items)
 (hQ:∀h' tk acc' c',(∀b o,b≠it->s.heap.get? b=some o->h'.get? b=some o)->
  h'.get? s.heap.objs.size=some { cls:=.type "list",dict:=none,data:=.seq acc' c',slots:=#[] }->zr (λi v=>items[items.size - 1 - i]? =some v) acc' items.size->Q (.ref s.heap.objs.size) { s with heap:=h',toks:=tk }):
 bi (bo prog w) A (call (.type "list") [.ref it]) Q E s:=by
 refine callType_codes (Q₁:=λobj s₁=>obj= .ref s.heap.objs.size/\s₁={ s with heap:=s.heap.push { cls:=.type "list",data:=.seq #[] } }) F.called_list (F.typeCall_list_1 _) F.entry_list_init
  (code_list_new _ ⟨rfl,rfl⟩) λobj s₁ h₁=>?_
 obtain⟨rfl,rfl⟩:=h₁;have hS:(s.heap.push { cls:=.type "list",data:=.seq #[] }).get? s.heap.objs.size=some { cls:=.type "list",data:=.seq #[] }:=bj _ rfl;obtain⟨o1,e1,_⟩:=id hit;obtain⟨o2,e2,_⟩:=id hl;refine⟨⟨_,hS,rfl⟩,F.args_list_init_2 _ _,a0 (A:=A.in1) hh s.heap.objs.size it l items hn hne (om (bg e1)) (om (bg e2)) (hit.at λo e=>am _ e) (hl.at λo e=>am _ e) hS λh' tk acc' c' hk hS' hacc=>?_⟩;exact⟨rfl,hQ h' tk acc' c' (λb o hb e=>hk b o (cp (bg e)) hb (am _ e)) hS' hacc⟩
end
theorem NU {xs:List V} {acc:Array ah} {P:Nat->ah->Prop} (h:zr P acc xs.length) (hp:∀i v,P i v->∀x,xs[i]? =some x->RelV x v):Vals xs acc.toList:=by
 have:∀(xs:List V) (us:List ah),xs.length=us.length->(∀(i:Nat) x v,xs[i]? =some x->us[i]? =some v->RelV x v)->Vals xs us:=by
  intro xs;induction xs with
  |nil=>intro us hl _;cases us with
   |nil=>exact .nil
   |cons _ _=>simp at hl
  |cons x xs ih=>intro us hl hr;cases us with
   |nil=>simp at hl
   |cons u us=>exact .cons (hr 0 x u rfl rfl) (ih us (by simpa using hl) λi y v h1 h2=>hr (i+1) y v (by simpa using h1) (by simpa using h2))
 refine this xs acc.toList (by have:=h.1;simp[this]) λi x v h1 h2=>hp i v (h.2 i v (by simpa using h2)) x h1
section
variable {X:Cx}
def rgV (i c:Int) (n:Nat):List V:=(jm n).map λm=>V.int (i+(m:Nat)*c)
def tLR (ta:TA):TE:=λσ H Q=>ta σ H λvs H1=>Ex4 λ(i j c:Int) (n:Nat)=>(vs=[.int i,.int j,.int c]\/c=1/\vs=[.int i,.int j])/\RgC i j c n/\n<=2 ^ 24/\∀l,H1 l=none->Q (.ref l) (upd H1 l (.lst (rgV i c n)))
theorem a5 {Df:List (ag×Obj)} {σ:St} {H1:Hp} {s1:ak} {Q:VK} {i j c:Int} {n tk:Nat} {t u v:Tok} (hcalm:X.calm=true) (I1:Inv X Df σ H1 s1) (hc:RgC i j c n) (hn:n<=2 ^ 24) (q:∀l,H1 l=none->Q (.ref l) (upd H1 l (.lst (rgV i c n)))):
 bi (bo X.prog X.w) X.A (call (.type "list") [.ref s1.heap.objs.size]) (EP X Df σ Q) X.xe { s1 with heap:=s1.heap.push { cls:=.type "range",data:=.fields #[.int i t,.int j u,.int c v] },toks:=tk }:=by
 refine call_list_range (n:=n) (I1.ok.hd hcalm) (Cc ..) hc.2.2.1 hc.2.2.2 hn λh' tk' acc' c' kp hS hacc=>?_;have kp':∀b o,s1.heap.get? b=some o->h'.get? b=some o:=λb o e=>kp b o (am _ e);refine⟨.ref _,upd H1 _ (.lst (rgV i c n)),I1.laid (t':=tk') kp' ?_ ⟨?_,acc'.toList,c',NU (P:=λi' v'=>∃t,v'= .int (i+i'*c) t) ?_ ?_,by simpa using hS⟩,rfl,q _ (I1.hok.fresh ?_)⟩
 ·show s1.heap.objs.size<=(s1.heap.push _).objs.size;simp[Bk]
 ·have:sizeLine=16777216:=cf;rw[rgV,ai,mo,this];omega
 ·rw[rgV,ai,mo];exact hacc
 ·rintro i' v' ⟨t,rfl⟩ x hx;rw[rgV,au] at hx;by_cases hi:i'<n
  ·rw[xF hi] at hx;cases hx;exact⟨t,rfl⟩
  ·rw[wL (by simpa using hi)] at hx;cases hx
 ·show s1.heap.objs.size<=(s1.heap.push _).objs.size;simp[Bk]
theorem J8 {a b:Expr} {es:List Expr} {ta:TA} {p p2 pos pos2:Pos} (hcalm:X.calm=true) (hm:X.mg "list"=none) (hm2:X.mg "range"=none) (ha:PA X (a::b::es) ta) (hg:Gl X "list":=by rfl) (hg2:Gl X "range":=by rfl)
 (hs:be [.Call (.Name "range" p2) (a::b::es) [] pos2] X.env=(false,eval (.Call (.Name "range" p2) (a::b::es) [] pos2) X.env)::be [] X.env:=by rfl)
 (hs2:be (a::b::es) X.env=(false,eval a X.env)::be (b::es) X.env:=by rfl) (hpl:(ie pos2 (be (b::es) X.env)).any (·.1)=false:=by rfl):
 PE X (.Call (.Name "list" p) [.Call (.Name "range" p2) (a::b::es) [] pos2] [] pos) (tLR ta):=by
 intro Df s σ H Q I h;refine ij (D9 I hg hm Lt.SK ?_);refine df ?_ hs rfl;rw[hs];show bi _ _ (Bl ((false,_)::ie pos (be [] X.env))) _ _ s;refine vj ?_;refine zw (D9 I hg2 hm2 zx (df (thn (ha pos2 Df s σ H _ I h) λus s1 ⟨vs,H1,I1,r1,q1⟩=>?_) hs2 hpl));obtain⟨i,j,c,n,e,hc,hn,q⟩:=q1;rcases e with e|⟨e1,e⟩
 ·subst e;cases r1 with
  |cons r rr=>
   cases rr with
   |cons r' rr=>
    cases rr with
    |cons r'' rr=>
     cases rr;obtain⟨t,rfl⟩:=r;obtain⟨t',rfl⟩:=r';obtain⟨t'',rfl⟩:=r'';refine call_range_3 hc.1 ?_ (.inl (wl hc.2.1));exact tz (a5 hcalm I1 hc hn q)
 ·subst e e1;cases r1 with
  |cons r rr=>
   cases rr with
   |cons r' rr=>
    cases rr;obtain⟨t,rfl⟩:=r;obtain⟨t',rfl⟩:=r';refine call_range_2 ?_;exact tz (a5 hcalm I1 hc hn q)
def pZ (K:aa) (ta:TA):TE:=λσ H Q=>ta σ H λvs H1=>Ex2 λ(a:ag) (xs:List V)=>vs=[.ref a]/\SqL K H1 a xs/\∀l,H1 l=none->Q (.ref l) (upd H1 l (.lst xs.reverse))
theorem UX {e:Expr} {ta:TA} {p p2 pos pos2:Pos} (hcalm:X.calm=true) (hm:X.mg "list"=none) (hm2:X.mg "reversed"=none) (ha:PA X [e] ta) (hg:Gl X "list":=by rfl) (hg2:Gl X "reversed":=by rfl)
 (hs:be [.Call (.Name "reversed" p2) [e] [] pos2] X.env=(false,eval (.Call (.Name "reversed" p2) [e] [] pos2) X.env)::be [] X.env:=by rfl)
 (hs2:be [e] X.env=[(false,eval e X.env)]:=by rfl):
 PE X (.Call (.Name "list" p) [.Call (.Name "reversed" p2) [e] [] pos2] [] pos) (pZ X.K ta):=by
 intro Df s σ H Q I h;refine ij (D9 I hg hm Lt.SK ?_);refine df ?_ hs rfl;rw[hs];show bi _ _ (Bl ((false,_)::ie pos (be [] X.env))) _ _ s;refine vj ?_;refine zw (D9 I hg2 hm2 M9 (df (thn (ha pos2 Df s σ H _ I h) λus s1 ⟨vs,H1,I1,r1,q1⟩=>?_) hs2 rfl));obtain⟨a,xs,e,hq,q⟩:=q1;subst e;cases r1 with
 |cons r rr=>
  cases rr;cases r;obtain⟨Di,rv,p',hz⟩:=I1.list hq;have hl:=rv.length;refine call_reversed_list p'.isList ?_;refine tz ?_;obtain⟨ol,eol,cl,dl⟩:=id p'.isList;have Dl:=bg eol;refine ON (I1.ok.hd hcalm) s1.heap.objs.size a Di.toArray (by rw[br, ←hl];exact hz) (cp Dl) ⟨_,bj _ rfl,rfl,rfl⟩ ⟨ol,am _ eol,cl,dl⟩ λh' tk acc' c' kp hS hacc=>?_;have kp':∀b o,s1.heap.get? b=some o->h'.get? b=some o:=λb o e=>kp b o (cp (bg e)) (am _ e);have hle:s1.heap.objs.size<=(s1.heap.push (revObj a ((Di.toArray.size:Int) - 1))).objs.size:=by simp[Bk]
  refine⟨.ref _,upd H1 _ (.lst xs.reverse),I1.laid (t':=tk) kp' hle ⟨by rw[u5];exact hz,acc'.toList,c',NU (P:=λi v=>Di.toArray[Di.toArray.size - 1 - i]? =some v) ?_ ?_,by simpa using hS⟩,rfl,q _ (I1.hok.fresh hle)⟩
  ·rw[u5,hl, ←br];exact hacc
  ·intro i v hv x hx;have hi:i<xs.length:=by
    have:=(az.mp hx).1;simpa using this
   rw[List.getElem?_reverse hi] at hx;obtain⟨u,hu,ru⟩:=rv.get hx;rw[br, ←hl] at hv;have:Di[xs.length - 1 - i]? =some v:=by simpa using hv
   rw[this] at hu;cases hu;exact ru
end
end L2
end
section
namespace Lt
variable {f a C CR CT r ta CI CL CN:ag} {fd:fv} {X:Cx} {x:List Int} {i n e p q:Nat} {pos:Pos} {z dz fz:Str} {xs:List V} {H H' H1:Hp} {E:XK} {cs t ci ct:List UInt8} {α β:Type} {Q:VK} {ls fr co ba:List (List Int)} {P:bb} {w:cb} {h:cr} {ps:List Str}
abbrev Iv:=Lute.Iv
theorem GK (x y:Iv):x.plus y=y.plus x:=by
 unfold Lute.Iv.plus;simp only;congr 2
 ·exact wv _ _
 ·exact wv _ _
 ·exact wv _ _
 ·exact wv _ _
 ·exact dk _ _
theorem EJ {a:Int} {g:Nat} (hg:0<g) (h:(g:Int)∣a):(a / (g:Int)).toNat*g=a.toNat:=by
 obtain⟨q,rfl⟩:=h;rw[rj q (by omega)];by_cases hq:0<=q
 ·have e:(g:Int)*q=((q.toNat*g:Nat):Int):=by rw[uX,kq hq,Int.mul_comm]
  rw[e,jo]
 ·have h1:q.toNat=0:=by omega
  have h2:(g:Int)*q<=0:=Int.mul_nonpos_of_nonneg_of_nonpos (by omega) (by omega);rw[h1,Bs];omega
theorem JG (x:Iv):((x.common:Nat):Int)∣x.a/\((x.common:Nat):Int)∣x.b/\((x.common:Nat):Int)∣x.c/\((x.common:Nat):Int)∣x.e:=by
 unfold Lute.Iv.common;have h0:=uh x.d (ow x.a.natAbs (ow x.b.natAbs (ow x.c.natAbs x.e.natAbs)));have h1:=pq h0 (uv _ _);have h0':=pq h0 (uh _ _);have h2:=pq h0' (uv _ _);have h0'':=pq h0' (uh _ _);have h3:=pq h0'' (uv _ _);have h4:=pq h0'' (uh _ _);exact⟨si.mpr h1,si.mpr h2,si.mpr h3,si.mpr h4⟩
theorem PL (x:Iv) (hg:0<x.common):x.low.above ^ x.common=x.above:=by
 obtain⟨h1,h2,h3,h4⟩:=JG x;unfold Lute.Iv.above Lute.Iv.low;simp only[vN, ←ss,EJ hg h1,EJ hg h2,EJ hg h3,EJ hg h4]
theorem HS (x:Iv):x.back.common=x.common:=by
 unfold Lute.Iv.common Lute.Iv.back;simp only[Int.natAbs_neg]
theorem a6 (x:Iv):x.low.back=x.back.low:=by
 obtain⟨h1,h2,h3,h4⟩:=JG x;unfold Lute.Iv.low;simp only[HS];unfold Lute.Iv.back;simp only[qy h1,qy h2,qy h3,qy h4]
theorem SQ (x:Iv) (hg:0<x.common):x.low.down=x.down:=by
 unfold Lute.Iv.down Lute.Iv.below;rw[a6,decide_eq_decide, ←PL x hg, ←PL x.back (by rw[HS];exact hg),HS];exact(wd (by omega)).symm
theorem WV (z:Iv) (hz:0<z.d):0<z.common:=we _ hz
theorem PM (x:Iv):0<x.above:=by
 unfold Lute.Iv.above;exact mr (mr (mr (kh (by decide)) (kh (by decide))) (kh (by decide))) (kh (by decide))
theorem YR (x:Iv):0<x.below:=PM _
theorem OO (z:Int) (n:Nat):(z*n).toNat=z.toNat*n:=by
 by_cases h:0<=z
 ·obtain⟨k,rfl⟩:=Int.eq_ofNat_of_zero_le h;rw[←uX,jo,jo]
 ·have h1:z.toNat=0:=by omega
  have h2:z*(n:Int)<=0:=Int.mul_nonpos_of_nonpos_of_nonneg (by omega) (by omega);rw[h1,Bs];omega
theorem IC (p:Nat) (u v:Int):∃m:Nat,p ^ (u.toNat+(-v).toNat)=p ^ (u - v).toNat*p ^ m/\p ^ (v.toNat+(-u).toNat)=p ^ (v - u).toNat*p ^ m:=by
 refine⟨min (u.toNat+(-v).toNat) (v.toNat+(-u).toNat),?_,?_⟩
 ·rw[←ms];congr 1;omega
 ·rw[←ms];congr 1;omega
theorem K1 (x:Iv) (n:Nat):x.above ^ n=2 ^ (x.a*n).toNat*3 ^ (x.b*n).toNat*5 ^ (x.c*n).toNat*7 ^ (x.e*n).toNat:=by
 unfold Lute.Iv.above;simp only[vN, ←ss,OO]
theorem PN (x:Iv) (n:Nat):x.below ^ n=2 ^ (-(x.a*n)).toNat*3 ^ (-(x.b*n)).toNat*5 ^ (-(x.c*n)).toNat*7 ^ (-(x.e*n)).toNat:=by
 unfold Lute.Iv.below;rw[K1];unfold Lute.Iv.back;simp only[xl]
theorem eV (a b c d e f g h:Nat):(a*b*c*d)*(e*f*g*h)=(a*e)*(b*f)*(c*g)*(d*h):=by
 simp only[ky,km,dk]
def raw (x y:Iv):Iv:=⟨x.a*y.d - y.a*x.d,x.b*y.d - y.b*x.d,x.c*y.d - y.c*x.d,x.e*y.d - y.e*x.d,x.d*y.d⟩
theorem a7 (x y:Iv):x.less y=(raw x y).low:=by
 have n:∀u v p q:Int,u*q+ -v*p=u*q - v*p:=λu v p q=>by rw[xl];omega
 unfold Lute.Iv.less Lute.Iv.plus raw Lute.Iv.back;simp only[n]
theorem gX (x y:Iv):∃M:Nat,0<M/\x.above ^ y.d*y.below ^ x.d=(raw x y).above*M/\y.above ^ x.d*x.below ^ y.d=(raw x y).below*M:=by
 obtain⟨m2,e2,f2⟩:=IC 2 (x.a*y.d) (y.a*x.d);obtain⟨m3,e3,f3⟩:=IC 3 (x.b*y.d) (y.b*x.d);obtain⟨m5,e5,f5⟩:=IC 5 (x.c*y.d) (y.c*x.d);obtain⟨m7,e7,f7⟩:=IC 7 (x.e*y.d) (y.e*x.d);refine⟨2 ^ m2*3 ^ m3*5 ^ m5*7 ^ m7,?_,?_,?_⟩
 ·exact mr (mr (mr (kh (by decide)) (kh (by decide))) (kh (by decide))) (kh (by decide))
 ·rw[K1,PN,eV, ←ms, ←ms, ←ms, ←ms,e2,e3,e5,e7, ←eV];rfl
 ·rw[K1,PN,eV, ←ms, ←ms, ←ms, ←ms,f2,f3,f5,f7, ←eV];unfold Lute.Iv.below raw Lute.Iv.back Lute.Iv.above;simp only[Int.neg_sub]
theorem K2 {x y:Iv} (hx:0<x.d) (hy:0<y.d):x.lt y=true↔x.above ^ y.d*y.below ^ x.d<y.above ^ x.d*x.below ^ y.d:=by
 unfold Lute.Iv.lt;rw[a7,SQ _ (WV _ (mr hx hy))];obtain⟨M,hM,e1,e2⟩:=gX x y;rw[e1,e2];unfold Lute.Iv.down;rw[decide_eq_true_iff];exact(xm hM).symm
theorem lt_irrefl {x:Iv} (hx:0<x.d):x.lt x=false:=by
 cases h:x.lt x with
 |false=>rfl
 |true=>exact absurd ((K2 hx hx).mp h) (jf _)
theorem lt_trans {x y z:Iv} (hx:0<x.d) (hy:0<y.d) (hz:0<z.d) (h1:x.lt y=true) (h2:y.lt z=true):x.lt z=true:=by
 have q1:=xG ((K2 hx hy).mp h1) (show z.d≠0 by omega);have q2:=xG ((K2 hy hz).mp h2) (show x.d≠0 by omega);rw[K2 hx hz];have q:=Nat.mul_lt_mul_of_lt_of_le q1 (tm q2) (Nat.pos_of_ne_zero (by
  intro h;rw[h] at q2;exact absurd q2 (Nat.not_lt_zero _)))
 simp only[vN, ←ss] at q;have hp:0<y.above ^ (x.d*z.d)*y.below ^ (x.d*z.d):=mr (kh (PM _)) (kh (YR _));have e1:x.above ^ (y.d*z.d)*y.below ^ (x.d*z.d)*(y.above ^ (z.d*x.d)*z.below ^ (y.d*x.d))=(x.above ^ z.d*z.below ^ x.d) ^ y.d*(y.above ^ (x.d*z.d)*y.below ^ (x.d*z.d)):=by
  rw[vN, ←ss, ←ss,dk z.d x.d,dk z.d y.d,dk y.d x.d];simp only[ky,km,dk]
 have e2:y.above ^ (x.d*z.d)*x.below ^ (y.d*z.d)*(z.above ^ (y.d*x.d)*y.below ^ (z.d*x.d))=(z.above ^ x.d*x.below ^ z.d) ^ y.d*(y.above ^ (x.d*z.d)*y.below ^ (x.d*z.d)):=by
  rw[vN, ←ss, ←ss,dk z.d x.d,dk z.d y.d,dk y.d x.d];simp only[ky,km,dk]
 rw[e1,e2,xm hp] at q;exact(wd (by omega)).mp q
theorem NV {A B:Nat} (hp:1<p) (hc:tj (p ^ n) B) (e:p ^ n*A=B):n=0:=by
 have h2:p ^ n∣ow (p ^ n) B:=Nat.dvd_gcd (yq _) ⟨A,e.symm⟩;rw[hc] at h2;have h2:p ^ n=1:=Nat.dvd_one.mp h2;cases n with
 |zero=>rfl
 |succ n=>
  have:1<p ^ (n+1):=Nat.one_lt_pow (by omega) hp;omega
theorem FX {A B:Nat} (hp:1<p) {u:Int} (hA:∀n,tj (p ^ n) A) (hB:∀n,tj (p ^ n) B) (e:p ^ u.toNat*A=p ^ (-u).toNat*B):u=0:=by
 by_cases h:0<=u
 ·have h0:(-u).toNat=0:=by omega
  rw[h0,ww,Ci] at e;have:=NV hp (hB _) e;omega
 ·have h0:u.toNat=0:=by omega
  rw[h0,ww,Ci] at e;have:=NV hp (hA _) e.symm;omega
theorem SR {r s:Nat} (h1:tj p q) (h2:tj p r) (h3:tj p s) (i j k n:Nat):tj (p ^ n) (q ^ i*r ^ j*s ^ k):=
 wO (wO (wE _ _ h1) (wE _ _ h2)) (wE _ _ h3)
theorem YS {z:Iv} (e:z.above=z.below):z.a=0/\z.b=0/\z.c=0/\z.e=0:=by
 unfold Lute.Iv.below Lute.Iv.back Lute.Iv.above at e;simp only at e;refine⟨?_,?_,?_,?_⟩
 ·refine FX (p:=2) (by decide) (SR (p:=2) (q:=3) (r:=5) (s:=7) (by decide) (by decide) (by decide) z.b.toNat z.c.toNat z.e.toNat) (SR (p:=2) (q:=3) (r:=5) (s:=7) (by decide) (by decide) (by decide) (-z.b).toNat (-z.c).toNat (-z.e).toNat) ?_;simpa only[ky,km,dk] using e
 ·refine FX (p:=3) (by decide) (SR (p:=3) (q:=2) (r:=5) (s:=7) (by decide) (by decide) (by decide) z.a.toNat z.c.toNat z.e.toNat) (SR (p:=3) (q:=2) (r:=5) (s:=7) (by decide) (by decide) (by decide) (-z.a).toNat (-z.c).toNat (-z.e).toNat) ?_;simpa only[ky,km,dk] using e
 ·refine FX (p:=5) (by decide) (SR (p:=5) (q:=2) (r:=3) (s:=7) (by decide) (by decide) (by decide) z.a.toNat z.b.toNat z.e.toNat) (SR (p:=5) (q:=2) (r:=3) (s:=7) (by decide) (by decide) (by decide) (-z.a).toNat (-z.b).toNat (-z.e).toNat) ?_;simpa only[ky,km,dk] using e
 ·refine FX (p:=7) (by decide) (SR (p:=7) (q:=2) (r:=3) (s:=5) (by decide) (by decide) (by decide) z.a.toNat z.b.toNat z.c.toNat) (SR (p:=7) (q:=2) (r:=3) (s:=5) (by decide) (by decide) (by decide) (-z.a).toNat (-z.b).toNat (-z.c).toNat) ?_;simpa only[ky,km,dk] using e
def Lw (x:Iv):Prop:=0<x.d/\x.common=1
theorem a8 {x y:Iv} (hx:x.common=1) (ea:x.a*y.d=y.a*x.d) (eb:x.b*y.d=y.b*x.d) (ec:x.c*y.d=y.c*x.d) (ee:x.e*y.d=y.e*x.d):y.d∣x.d*y.common:=by
 have n:∀{u v:Int} {m k:Nat},u*m=v*k->m*u.natAbs=k*v.natAbs:=λ{u v m k} h=>by
  have:=congrArg Int.natAbs h;rw[vx,vx,sj,sj] at this;rw[dk,this,dk]
 have e:y.d*x.common=x.d*y.common:=by
  unfold Lute.Iv.common;rw[←gq, ←gq, ←gq, ←gq, ←gq, ←gq, ←gq, ←gq,n ea,n eb,n ec,n ee,dk y.d x.d]
 rw[←e,hx,vM];exact yq _
theorem YT {x y:Iv} (hx:Lw x) (hy:Lw y) (h:(raw x y).a=0/\(raw x y).b=0/\(raw x y).c=0/\(raw x y).e=0):x=y:=by
 obtain⟨h1,h2,h3,h4⟩:=h;unfold raw at h1 h2 h3 h4;simp only at h1 h2 h3 h4;have d1:=a8 (x:=x) (y:=y) hx.2 (by omega) (by omega) (by omega) (by omega);have d2:=a8 (x:=y) (y:=x) hy.2 (by omega) (by omega) (by omega) (by omega);rw[hy.2,vM] at d1;rw[hx.2,vM] at d2;have ed:x.d=y.d:=Nat.dvd_antisymm d2 d1;have hd:(y.d:Int)≠0:=by have:=hy.1;omega
 rw[ed] at h1 h2 h3 h4;have c:∀{u v:Int},u*y.d - v*y.d=0->u=v:=λ{u v} h=>Int.eq_of_mul_eq_mul_right hd (by omega);obtain⟨a,b,c',e,d⟩:=x;obtain⟨a',b',c'',e',d'⟩:=y;simp only at ed h1 h2 h3 h4;rw[ed,c h1,c h2,c h3,c h4]
theorem SS {x y:Iv} (hx:Lw x) (hy:Lw y) (h1:x.lt y=false) (h2:y.lt x=false):x=y:=by
 refine YT hx hy (YS ?_);obtain⟨M,hM,e1,e2⟩:=gX x y;have n1:¬_:=λq=>fj (h1.symm.trans ((K2 hx.1 hy.1).mpr q));have n2:¬_:=λq=>fj (h2.symm.trans ((K2 hy.1 hx.1).mpr q));rw[dk (x.above ^ y.d),dk (y.above ^ x.d)] at n1;have e:x.above ^ y.d*y.below ^ x.d=y.above ^ x.d*x.below ^ y.d:=by
  rw[dk (x.above ^ y.d),dk (y.above ^ x.d)];rw[dk (y.above ^ x.d),dk (x.above ^ y.d)] at n2;omega
 rw[e1,e2] at e;exact Nat.eq_of_mul_eq_mul_right hM e
theorem a9 {x y:Iv} (hx:0<x.d) (hy:0<y.d) (h:x.lt y=true):y.lt x=false:=by
 cases q:y.lt x with
 |false=>rfl
 |true=>exact absurd (lt_trans hx hy hx h q) (by rw[lt_irrefl hx];decide)
theorem ST {x:Iv} (h:x.ok=true):Lw x:=by
 unfold Lute.Iv.ok at h;simp at h;exact⟨h.2.2.2.2.1,h.2.2.2.2.2.2⟩
theorem j9 {x:Iv} (h:0<x.d):Lw x.low:=by
 have hg:=WV x h;have hd:x.common∣x.d:=uv _ _;refine⟨Nat.div_pos (Nat.le_of_dvd h hd) hg,?_⟩;have n:∀{a:Int},((x.common:Nat):Int)∣a->x.common*(a / ((x.common:Nat):Int)).natAbs=a.natAbs:=λ{a} ⟨q,e⟩=>by
  rw[e,rj q (by omega),vx,sj]
 obtain⟨h1,h2,h3,h4⟩:=JG x;have e:x.common*x.low.common=x.common:=by
  show x.common*Lute.Iv.common _=Lute.Iv.common x
  conv=>lhs;arg 2;unfold Lute.Iv.common
  unfold Lute.Iv.low;simp only;rw[←gq, ←gq, ←gq, ←gq,n h1,n h2,n h3,n h4,Nat.mul_div_cancel' hd];rfl
 exact Nat.eq_of_mul_eq_mul_left hg (by rw[e,vM])
theorem eW {x y:Iv} (hx:0<x.d) (hy:0<y.d):Lw (x.plus y):=j9 (mr hx hy)
theorem kC {x:Iv} (h:x.common=1):x.low=x:=by
 unfold Lute.Iv.low;simp only[h];simp
theorem WW {x:Iv} (h:Lw x):x.plus Lute.unison=x:=by
 unfold Lute.Iv.plus Lute.unison;simp only;have e:(⟨x.a*((1:Nat):Int)+0*(x.d:Int),x.b*((1:Nat):Int)+0*(x.d:Int),x.c*((1:Nat):Int)+0*(x.d:Int),x.e*((1:Nat):Int)+0*(x.d:Int),x.d*1⟩:Iv)=x:=by
  simp
 rw[e];exact kC h.2
abbrev Stop:=LuteTab.Stop
abbrev Ln:=Nat×List Stop
abbrev Sk:=LuteSound.Struck
def CP:Nat->Nat->List Ln->List Sk
 |_,_,[]=>[]
 |i,x,(n,l)::r=>l.map (λ(s:Stop)=>(⟨i,x,x+n,s⟩:Sk))++CP (i+1) (x+n) r
def BO:LuteTab.Line->Ln
 | .bar=>(0,[])
 | .moment n l=>(n,l)
theorem D7:∀(p:LuteTab.Piece) (i x:Nat),CP i x (p.map BO)=LuteSound.struckFrom i x p
 |[],_,_=>rfl
 | .bar::r,i,x=>by rw[LuteSound.struckFrom, ←D7 r];rfl
 | .moment n l::r,i,x=>by rw[LuteSound.struckFrom, ←D7 r];rfl
def uL (ps:List Ln) (i:Nat):Nat:=((ps.take i).map (·.1)).sum
theorem EK (ps:List Ln):uL ps 0=0:=by unfold uL;simp
theorem CK (q:Ln) (ps:List Ln) (i:Nat):uL (q::ps) (i+1)=q.1+uL ps i:=by
 unfold uL;simp
theorem UY (i:Nat):uL [] i=0:=by unfold uL;simp
theorem QQ {ps:List Ln} {q:Ln} (h:ps[i]? =some q):uL ps (i+1)=uL ps i+q.1:=by
 unfold uL;rw[dq,h];simp
theorem PP (ps:List Ln) {j:Nat} (h:i<=j):uL ps i<=uL ps j:=by
 obtain⟨k,rfl⟩:∃k,j=i+k:=⟨j - i,by omega⟩
 clear h;induction k with
 |zero=>exact aw _
 |succ k ih=>
  refine cu ih ?_;show uL ps (i+k)<=uL ps (i+k+1);unfold uL;rw[dq,dh,zg];omega
theorem NW:∀(p:LuteTab.Piece),LuteTab.units p=uL (p.map BO) (p.map BO).length
 |[]=>rfl
 | .bar::r=>by
   have:=NW r;unfold LuteTab.units at this ⊢;rw[dc,xS,this,dc,de,CK];rfl
 | .moment n l::r=>by
   have:=NW r;unfold LuteTab.units at this ⊢;rw[dc,xS,this,dc,de,CK];rfl
theorem mem_mStr:∀{ps:List Ln} {i x:Nat} {s:Sk},s∈CP i x ps↔∃(j:Nat) (q:Ln),s.line=i+j/\ps[j]? =some q/\s.halt_∈q.2/\s.begins=x+uL ps j/\s.ends=x+uL ps (j+1)
 |[],i,x,s=>by simp[CP]
 |(n,l)::r,i,x,s=>by
  rw[CP,bu,il,mem_mStr];constructor
  ·rintro (⟨h,hh,rfl⟩|⟨j,q,h1,h2,h3,h4,h5⟩)
   ·exact⟨0,(n,l),rfl,rfl,hh,by rw[EK];rfl,by rw[CK,EK];rfl⟩
   ·exact⟨j+1,q,by omega,by simpa using h2,h3,by rw[CK];show _=x+(n+_);omega,by rw[CK];show _=x+(n+_);omega⟩
  ·rintro ⟨j,q,h1,h2,h3,h4,h5⟩;cases j with
   |zero=>
    left;simp at h2;subst h2;rw[EK] at h4;rw[CK,EK] at h5;refine⟨s.halt_,h3,?_⟩;obtain⟨a,b,c,d⟩:=s;simp only at h1 h4 h5 ⊢;simp at h1 h4 h5;subst h1 h4 h5;rfl
   |succ j=>
    right;rw[CK] at h4 h5;have h4:s.begins=x+(n+uL r j):=h4;have h5:s.ends=x+(n+uL r (j+1)):=h5;exact⟨j,q,by omega,by simpa using h2,h3,by omega,by omega⟩
def bA (l:List Stop):Prop:=l.Pairwise λa b=>a.course<b.course
structure PcK (ps:List Ln):Prop where
 rise:∀q∈ps,bA q.2
 bar:∀q∈ps,q.1=0->q.2=[]
 one:∀q∈ps,∀s∈q.2,1<=s.course
theorem PcK.tail {q:Ln} {ps:List Ln} (h:PcK (q::ps)):PcK ps:=⟨λa ha=>h.rise a (aq _ ha),λa ha=>h.bar a (aq _ ha),λa ha=>h.one a (aq _ ha)⟩
theorem PcK.drop {ps:List Ln} (h:PcK ps) (n:Nat):PcK (ps.drop n):=⟨λa ha=>h.rise a (jl ha),λa ha=>h.bar a (jl ha),λa ha=>h.one a (jl ha)⟩
def uA (a b:Sk):Prop:=a.line<b.line\/(a.line=b.line/\a.halt_.course<b.halt_.course)
theorem WX:∀{ps:List Ln} (i x:Nat),PcK ps->(CP i x ps).Pairwise uA
 |[],_,_,_=>mv
 |(n,l)::r,i,x,h=>by
  rw[CP,qi];refine⟨?_,WX (i+1) (x+n) h.tail,?_⟩
  ·rw[vO];exact(h.rise (n,l) bc).imp λq=>.inr ⟨rfl,q⟩
  ·intro a ha b hb;obtain⟨s,_,rfl⟩:=il.mp ha;obtain⟨j,q,h1,_⟩:=mem_mStr.mp hb;left;show i<b.line;omega
theorem UZ {ps:List Ln} (i x:Nat) (h:PcK ps):(CP i x ps).Nodup:=(WX i x h).imp λ{a b} q e=>by
 subst e;rcases q with q|⟨_,q⟩<;>omega
theorem bB {l:List Stop} (h:bA l) {a b:Stop} (ha:a∈l) (hb:b∈l) (e:a.course=b.course):a=b:=by
 induction l with
 |nil=>simp at ha
 |cons c l ih=>
  obtain⟨h1,h2⟩:=gh.mp h;rcases bq.mp ha with e1|ha
  ·rcases bq.mp hb with e2|hb
   ·rw[e1,e2]
   ·have:=h1 b hb;rw[e1] at e;omega
  ·rcases bq.mp hb with e2|hb
   ·have:=h1 a ha;rw[e2] at e;omega
   ·exact ih h2 ha hb
structure SkAt (ps:List Ln) (s:Sk):Prop where
 lt:s.line<ps.length
 q:∃q,ps[s.line]? =some q/\s.halt_∈q.2
 beg:s.begins=uL ps s.line
 end_:s.ends=uL ps (s.line+1)
theorem QR {ps:List Ln} {s:Sk} (h:s∈CP 0 0 ps):SkAt ps s:=by
 obtain⟨j,q,h1,h2,h3,h4,h5⟩:=mem_mStr.mp h;rw[ke] at h1 h4 h5;subst h1;exact⟨(az.mp h2).1,⟨q,h2,h3⟩,h4,h5⟩
theorem kD {ps:List Ln} (k:PcK ps) {s:Sk} (h:SkAt ps s):s.begins<s.ends:=by
 obtain⟨q,h1,h2⟩:=h.q;rw[h.beg,h.end_,QQ h1];have:q.1≠0:=λe=>by
  have:=k.bar q (bn h1) e;rw[this] at h2;simp at h2
 omega
theorem NX {ps:List Ln} (k:PcK ps) {a b:Sk} (ha:SkAt ps a) (hb:SkAt ps b):a.begins<b.begins↔a.line<b.line:=by
 constructor
 ·intro h;apply uw;intro q;have:=PP ps q;rw[←ha.beg, ←hb.beg] at this;omega
 ·intro h;have h1:=kD k ha;have:=PP ps (show a.line+1<=b.line from h);rw[←ha.end_, ←hb.beg] at this;omega
theorem kE {ps:List Ln} (k:PcK ps) {a b:Sk} (ha:SkAt ps a) (hb:SkAt ps b) (e1:a.begins=b.begins) (e2:a.halt_.course=b.halt_.course):a=b:=by
 have h1:¬a.line<b.line:=λq=>by have:=(NX k ha hb).mpr q;omega
 have h2:¬b.line<a.line:=λq=>by have:=(NX k hb ha).mpr q;omega
 have el:a.line=b.line:=by omega
 obtain⟨q,q1,q2⟩:=ha.q;obtain⟨r,r1,r2⟩:=hb.q;rw[←el,q1] at r1;cases r1;have eh:=bB (k.rise q (bn q1)) q2 r2 e2;have ee:a.ends=b.ends:=by rw[ha.end_,hb.end_,el]
 obtain⟨_,_,_,_⟩:=a;obtain⟨_,_,_,_⟩:=b;simp only at el e1 ee eh;subst el e1 ee eh;rfl
open PySem PySem.Spec PyProof.Rows L2
def sL (s:Stop):List Int:=[(s.course:Int),(s.fret:Int)]
def DB (l:List Stop) (s:Stop):Bool:=match l.getLast? with
 |none=>true
 |some x=>decide (x.course<s.course)
def WY (K:aa) (CT:ag):Sp:=λvs H Q E=>Ex5 λ(sa pa:ag) (l:List Stop) (s:Stop) (st:Int)=>vs=[.ref sa,.ref pa,.int st]/\LT K H sa (l.map sL)/\SqT K H pa ((sL s).map V.int)/\l.length<=1000000/\
 if DB l s=true then∀H',LT K H' sa ((l++[s]).map sL)->Sb sa H H'->Q .non H' else E (.ref CT) none (xH [("place",.int st)])
def U0 (K:aa) (CR CT r ta:ag) (cs:List UInt8) (e:Nat) (H:Hp) (Q:VK) (E:XK):Option (List Stop×List UInt8)->Prop
 |some (l,Dh)=>∀H' a,Rd K CR H' r ta cs e Dh->Sb r H H'->H a=none->LT K H' a (l.map sL)->Q (.ref a) H'
 |none=>∀z:Int,E (.ref CT) none (xH [("place",.int z)])
theorem K3 {K:aa} {res:Option (List Stop×List UInt8)} (h:res=none) (k:∀z:Int,E (.ref CT) none (xH [("place",.int z)])):U0 K CR CT r ta cs e H Q E res:=by
 rw[h];exact k
theorem K4 {K:aa} {res:Option (List Stop×List UInt8)} {l:List Stop} (h:res=some (l,t)) (k:∀H' a,Rd K CR H' r ta cs e t->Sb r H H'->H a=none->LT K H' a (l.map sL)->Q (.ref a) H'):U0 K CR CT r ta cs e H Q E res:=by
 rw[h];exact k
theorem kF {K:aa} {res:Option (List Stop×List UInt8)} (k:U0 K CR CT r ta cs e H Q E res) (h:res=none):∀z:Int,E (.ref CT) none (xH [("place",.int z)]):=by
 rw[h] at k;exact k
theorem kG {K:aa} {res:Option (List Stop×List UInt8)} {l:List Stop} (k:U0 K CR CT r ta cs e H Q E res) (h:res=some (l,t)):∀H' a,Rd K CR H' r ta cs e t->Sb r H H'->H a=none->LT K H' a (l.map sL)->Q (.ref a) H':=by
 rw[h] at k;exact k
def B7 (z:Str):List Nat->List UInt8->Option (List Stop×List UInt8)
 |[],l=>some ([],l)
 |c::cs,l=>match pk (z++".") l with
  |none=>none
  |some (f,t)=>match B7 z cs t with
   |none=>none
   |some (s,u)=>some ((if f<z.length then⟨c,f⟩::s else s),u)
def pre (acc:List Stop):Option (List Stop×List UInt8)->Option (List Stop×List UInt8)
 |none=>none
 |some (s,u)=>some (acc++s,u)
def nV (n:Nat):V:=.int (n:Nat)
def VA (K:aa) (C CT:ag):Sp:=λvs H Q E=>Ex8 λ(r ta ca:ag) (cs:List UInt8) (e:Nat) (Dg:List UInt8) (z:Str) (ns:List Nat)=>vs=[.ref r,.str z,.ref ca]/\Rd K C H r ta cs e Dg/\OkS (z++".")/\z.length<=1000/\
 H ca=some (.lst (ns.map nV))/\ns.length<=1000/\U0 K C CT r ta cs e H Q E (B7 z ns Dg)
def mSl:Nat->List UInt8->Option (Nat×List UInt8)
 |0,l=>(match sk ("a":Str).cps.toList l with
  |none=>none
  |some (_,t)=>some (10,t))
 |f+1,l=>if see "/" l=true then(match sk ("/":Str).cps.toList l with
  |none=>none
  |some (_,t)=>mSl f t)
  else match sk ("a":Str).cps.toList l with
   |none=>none
   |some (_,t)=>some (9 - f,t)
def mFB (l:List UInt8):Option (Nat×List UInt8):=if see "4567" l=true then(match pk "4567" l with
 |none=>none
 |some (n,t)=>some (7+4+n,t)) else mSl 3 l
def mBN (l:List UInt8):Option (Nat×List UInt8):=if see "1" l=true then(match sk ("1":Str).cps.toList l with
 |none=>none
 |some (_,t)=>match pk "01234" t with
  |none=>none
  |some (n,u)=>some (10+n,u))
 else match pk "789" l with
  |none=>none
  |some (n,t)=>some (7+n,t)
theorem Rd.app {K:aa} {sa:ag} {Dg:List UInt8} (R:Rd K C H r ta cs e Dg) (h:H sa=some (.lst xs)) (hn:ta≠sa\/KTx K ta (cs.map cV)) (s:Sb sa H H'):Rd K C H' r ta cs e Dg:=
 R.kp (xs:=xs) (ys:=[]) h (hn.imp cw id) λb o eb hb=>s b o eb hb
theorem Sb.nt {sa:ag} (s:Sb sa H H') (h:H sa=some (.lst xs)) {K:aa} {ys:List V} (q:SqT K H a ys):SqT K H' a ys:=by
 rcases q with(q|⟨o,q⟩)|q
 ·exact .inl (.inl (s _ _ q (B6 q h (by intro z;cases z))))
 ·exact .inl (.inr ⟨o,s _ _ q (B6 q h (by intro z;cases z))⟩)
 ·exact .inr q
section
variable {P:bb} {w:cb} {K:aa} {mg:Str->Option ah} {base:cr} {C CI CT:ag} {dz fz:Str}
theorem kH:FnScope ["stops","stop","start"] ["stops","stop","start"] (AH JB):={}
theorem kI (F:Fun K "add_stop" "add_stop" JB f fd) (B:Blt mg) (X1:TFm P w K mg base CT):FnOk P w K mg base (CX1 P w) 3 f fd ["stops","stop","start"] (WY K CT):=by
 refine F.okx kH λDk A outer s H vs Q E hr h=>?_;obtain⟨sa,pa,l,s,st,rfl,L,hp,hl,k⟩:=h;refine⟨_,(AB (AU (GO (AN EZ (AX AO (by rfl) B.len cy (AA (pv 0) AF)) AI (AQ _))
  (E1 (AN JM (BI (FU K) (pv 1) AI (λ_ _=>rfl)) (BI (FU K) (BI CD (pv 0) (G4 E7 AI) (λ_ _=>rfl)) AI (λ_ _=>rfl)) (AQ _)))).pt (AC (BF X1 hr AD rfl (pv 2))) AK)
  (AC (AY (G7 dw fb ff CQ (pv 0) (AA (pv 1) AF))))),?_⟩
 and_intros
 obtain⟨as,a1,a2⟩:=id L;obtain⟨y1,q1,l1⟩:=L.len;have la:as.length=l.length:=by rw[cn a2,ai]
 rw[ai] at l1;have app:DB l s=true->(LB (tBM K "list" MG (BP 0) (B9 (BP 1) EQ))) { nx:=λ_ H'=>Q .non H',rt:=Q } [some (.ref sa),some (.ref pa),some (.int st)] H:=λho=>by
  rw[Dm ho] at k;refine⟨V.ref sa,rfl,.inl ⟨rfl,_,SqL.of a1⟩,V.ref pa,rfl,sa,_,_,rfl,rfl,a1,?_,?_⟩
  ·rw[ai,la,cf];omega
  ·refine k _ ?_ λb o e hb=>by rw[AE hb];exact e
   rw[dh];exact LT.add a1 a2 hp
 refine⟨V.ref sa,rfl,sa,y1,rfl,.inl q1,_,_,rfl,rfl,_,rfl,B4 (λh0=>?_) (λh0=>?_)⟩
 ·have hpos:0<(l.map sL).length:=by
   have:(0:Int)<(y1.length:Int):=by simpa using h0
   rw[ai];omega
  obtain⟨a,b,e1,e2,e3,e4⟩:=LI a2 (y:=[]) hpos;obtain⟨x,hx⟩:∃x,l.getLast? =some x:=by
   cases hg:l.getLast? with
   |none=>rw[List.getLast?_eq_none_iff] at hg;subst hg;simp at hpos
   |some x=>exact⟨x,rfl⟩
  have eb:b=sL x:=by rw[←e2,jt,yr,hx];rfl
  subst eb;refine⟨V.ref pa,rfl,pa,_,0,V.int (s.course:Nat),rfl,rfl,hp,rfl,V.ref sa,rfl,1,rfl,sa,_,_,_,rfl,rfl,SqL.of a1,M7 e1,a,_,0,V.int (x.course:Nat),rfl,rfl,e3,rfl,_,_,rfl,rfl,_,rfl,B4 (λh1=>?_) (λh1=>?_)⟩
  ·have hle:s.course<=x.course:=by
    have:(s.course:Int)<=(x.course:Int):=by simpa using h1
    omega
   have hno:DB l s=false:=by unfold DB;rw[hx];exact decide_eq_false (by omega)
   rw[Dn (by rw[hno];decide)] at k;exact⟨V.int st,rfl,st,rfl,k⟩
  ·have hle:¬s.course<=x.course:=by
    have:¬(s.course:Int)<=(x.course:Int):=by simpa using h1
    omega
   exact app (by unfold DB;rw[hx];exact decide_eq_true (by omega))
 ·have hz:l=[]:=by
   have:¬(0:Int)<(y1.length:Int):=by simpa using h0
   exact List.eq_nil_of_length_eq_zero (by omega)
  exact BH (app (by rw[hz];rfl))
theorem p0:FnScope ["reader"] ["reader"] (AH DP):={}
theorem p6 (F:Fun K "read_bass_number" "read_bass_number" DP f fd) (R:RdE P w K mg base C CT dz) (g7:GI mg "FIRST_BASS" 7):FnOk P w K mg base (CX1 P w) 5 f fd ["reader"] (G0 K C CT mBN DS):=by
 refine F.okx p0 λDk A outer s H vs Q E hr h=>?_;obtain⟨r,ta,cs,e,Dg,rfl,Rr,k⟩:=h;refine⟨_,(AB (AU (BK R hr AD (pv 0) AV (oks (by decide +kernel))) (AB (BL R hr AD (pv 0) AV (oks (by decide +kernel)))
  (AC (AJ (BC C4 AI (E4 R hr AD (pv 0) AV (oks (by decide +kernel))))))) AK)
  (AC (AJ (BC C4 (BZ g7) (E4 R hr AD (pv 0) AV (oks (by decide +kernel))))))),?_⟩
 and_intros
 unfold mBN at k;refine⟨_,rfl,r,ta,cs,e,Dg,rfl,Rr,λH1 s1=>?_⟩;have R1:=Rr.same s1;cases hm:see "1" Dg with
 |true=>
  rw[Dm hm] at k;refine BS ⟨_,rfl,r,ta,cs,e,Dg,rfl,R1,?_⟩;cases hs:sk ("1":Str).cps.toList Dg with
  |none=>rw[hs] at k;exact AL rfl k
  |some x=>
   obtain⟨_,t⟩:=x;simp only[hs] at k;refine AM rfl λH2 R2 s2=>?_;refine⟨_,rfl,r,ta,cs,e,t,rfl,R2,?_⟩;cases hp:pk "01234" t with
   |none=>simp only[hp] at k;exact AL rfl k
   |some x=>
    obtain⟨n,u⟩:=x;simp only[hp] at k;refine AM rfl λH3 R3 s3=>⟨_,_,rfl,rfl,?_⟩
    have q:=k H3 R3 ((s1.sb.trans s2).trans s3);have e1:DS (10+n)=V.int (10+(n:Int)):=by unfold DS;congr 1
    rw[e1] at q;exact q
 |false=>
  rw[Dn (by rw[hm];decide)] at k;refine BH ⟨_,rfl,r,ta,cs,e,Dg,rfl,R1,?_⟩;cases hp:pk "789" Dg with
  |none=>simp only[hp] at k;exact AL rfl k
  |some x=>
   obtain⟨n,u⟩:=x;simp only[hp] at k;refine AM rfl λH3 R3 s3=>⟨_,_,rfl,rfl,?_⟩
   have q:=k H3 R3 (s1.sb.trans s3);have e1:DS (7+n)=V.int (7+(n:Int)):=by unfold DS;congr 1
   rw[e1] at q;exact q
end
open PySem PySem.Spec PyProof.Rows L2
theorem MK (o:Option (List Stop×List UInt8)):pre [] o=o:=by
 cases o with
 |none=>rfl
 |some x=>obtain⟨s,u⟩:=x;rfl
theorem LT.sb {K:aa} {dx:ag} {p e:Int} (h:LT K H a ls) (s:Sb r H H') (ir:H r=some (.ins C dx (rf ta p e))):LT K H' a ls:=(Sb.kp s ir).lt h
section
variable {P:bb} {w:cb} {K:aa} {mg:Str->Option ah} {base:cr} {C CI CT:ag} {dz fz:Str}
theorem WZ:FnScope ["reader","frets","courses","stops","course","fret"] ["reader","frets","courses"] (AH HL):={}
theorem p7 (F:Fun K "read_neck" "read_neck" HL f fd) (B:Blt mg) (R:RdE P w K mg base C CT dz):FnOk P w K mg base (CX1 P w) 5 f fd ["reader","frets","courses"] (VA K C CT):=by
 refine F.okx WZ λDk A outer s H vs Q E hr h=>?_;obtain⟨r,ta,ca,cs,e,Dg,z,ns,rfl,Rr,oz,lz,hca,ln,k⟩:=h;refine⟨_,(AB (AZ 3 WZ (DL AF))
  (AB (BR bh rfl (CW (pv 2)) (C0 4 WZ)
  (AB (AZ 5 WZ (R.pi.call (pv 0) hr AD (AA (BC T3 (pv 1) AV) AF)))
  (AC (AU (AN IK (pv 5) (AX QC (by rfl) B.len cy (AA (pv 1) AF)) (AQ _))
   (AC (AY (G7 dw fb ff CQ (pv 3) (AA (E8 (AA (pv 4) (AA (pv 5) AF))) AF)))) AK))))
  (AC (AJ (pv 3))))),?_⟩
 and_intros
 refine⟨du _,λsa nsa=>?_⟩;have tt:=HR Rr.tx nsa;have ncs:ca≠sa:=AG hca nsa;have s0:Same H (upd H sa (.lst [])):=Same.upd nsa;have fin:∀{H':Hp},SbL [r,sa] (upd H sa (.lst [])) H'->Sb r H H':=λ{H'} q b o eb hb=>q b o (s0 b o eb) (by simp[hb,AG eb nsa]);refine⟨V.ref ca,rfl,ca,rfl,⟨_,SqL.of (s0 _ _ hca)⟩,CO (K:=K) (a:=ca) (xs:=ns.map nV) (λi σ H'=>Ex4 λ(acc:List Stop) (Dh:List UInt8) (r4 r5:Option V)=>σ=[some (.ref r),some (.str z),some (.ref ca),some (.ref sa),r4,r5]/\SbL [r,sa] (upd H sa (.lst [])) H'/\Rd K C H' r ta cs e Dh/\
  LT K H' sa (acc.map sL)/\acc.length<=i/\B7 z ns Dg=pre acc (B7 z (ns.drop i) Dh)) ⟨[],Dg,none,none,rfl,SbL.refl,Rr.same s0,⟨[],upd_same,.nil⟩,aw _,(MK _).symm⟩ ?_ ?_ ?_⟩
 ·rintro i σ H' hi ⟨acc,Dh,r4,r5,rfl,sb,_⟩;obtain⟨dr,p,ir⟩:=Rr.ins;exact SqL.of (sb _ _ (s0 _ _ hca) (by simp[ncs,B6 hca ir (by intro z;cases z)]))
 ·rintro i y σ H1 hi ⟨acc,Dh,r4,r5,rfl,sb,R1,L1,la,em⟩
  and_intros
  rw[au] at hi;cases hc:ns[i]? with
  |none=>rw[hc] at hi;cases hi
  |some c=>
   rw[hc] at hi;cases hi;have Dl:i<ns.length:=(az.mp hc).1;have ed:ns.drop i=c::ns.drop (i+1):=by rw[gy Dl,(az.mp hc).2]
   rw[ed,B7] at em;obtain⟨dr,p,ir⟩:=R1.ins;refine⟨V.ref r,rfl,r,dr,_,rfl,ir,WN _ _ _,V.str z,rfl,z,".",rfl,rfl,(by rw[cf];show z.length+1<=16777216;omega),r,ta,cs,e,Dh,z++".",rfl,R1,oz,?_⟩;cases hp:pk (z++".") Dh with
   |none=>
    rw[hp] at em;exact AL rfl (kF k em)
   |some x=>
    obtain⟨ft,t⟩:=x;simp only[hp] at em;refine AM rfl λH2 R2 s2=>?_;have L2:=L1.sb s2 ir;have sb2:SbL [r,sa] (upd H sa (.lst [])) H2:=sb.trans (Sb.l s2 (by simp));refine⟨V.int (ft:Nat),rfl,V.str z,rfl,z,rfl,(by rw[cf];omega),_,_,rfl,rfl,_,rfl,B4 (λh0=>?_) (λh0=>?_)⟩
    ·have hf:ft<z.length:=by
      have:(ft:Int)<(z.length:Int):=by simpa using h0
      omega
     obtain⟨as,a1,a2⟩:=id L2;have l1:as.length=acc.length:=by rw[cn a2,ai]
     refine⟨V.ref sa,rfl,.inl ⟨rfl,_,SqL.of a1⟩,V.int (c:Nat),rfl,V.int (ft:Nat),rfl,(by rw[cf];show 2<=16777216;decide),λpa npa=>⟨sa,_,_,rfl,rfl,(Same.upd npa) _ _ a1,?_,?_⟩⟩
     ·rw[ai,l1,cf];omega
     ·have sp:Same H2 (upd H2 pa (.tup [V.int (c:Nat),V.int (ft:Nat)])):=Same.upd npa;have a13:=sp _ _ a1;have su:Sb sa (upd H2 pa (.tup [V.int (c:Nat),V.int (ft:Nat)])) (upd (upd H2 pa (.tup [V.int (c:Nat),V.int (ft:Nat)])) sa (.lst (as.map V.ref++[.ref pa]))):=λb o eb hb=>by rw[AE hb];exact eb
      refine⟨acc++[⟨c,ft⟩],t,_,_,rfl,(sb2.trans (Same.l sp)).trans (Sb.l su (by simp)),(R2.same sp).app a13 tt su,?_,by rw[bp];simp;omega,?_⟩
      ·rw[dh];exact LT.add a13 (AR a2 λ_ _ q=>sp.tup q) (SqT.of upd_same)
      ·rw[em];cases B7 z (ns.drop (i+1)) t with
       |none=>rfl
       |some x=>
        obtain⟨s,u⟩:=x;simp only[pre,Dm hf,vP,List.singleton_append]
    ·have hf:¬ft<z.length:=by
      have:¬(ft:Int)<(z.length:Int):=by simpa using h0
      omega
     refine⟨acc,t,_,_,rfl,sb2,R2,L2,by omega,?_⟩;rw[em];cases B7 z (ns.drop (i+1)) t with
     |none=>rfl
     |some x=>
      obtain⟨s,u⟩:=x;simp only[pre,Dn hf]
 ·rintro σ H1 ⟨acc,Dh,r4,r5,rfl,sb,R1,L1,la,em⟩;rw[ai,wb,B7] at em;simp only[pre,jh] at em;exact⟨V.ref sa,rfl,kG k em H1 sa R1 (fin sb) nsa L1⟩
theorem sc_fb:FnScope ["reader","course"] ["reader"] (AH DO):={}
theorem p8 (F:Fun K "read_french_bass" "read_french_bass" DO f fd) (R:RdE P w K mg base C CT dz) (g7:GI mg "FIRST_BASS" 7) (gl:GS mg "FRENCH_LOWEST" "4567"):FnOk P w K mg base (CX1 P w) 5 f fd ["reader"] (G0 K C CT mFB DS):=by
 refine F.okx sc_fb λDk A outer s H vs Q E hr h=>?_;obtain⟨r,ta,cs,e,Dg,rfl,Rr,k⟩:=h;refine⟨_,(AB (AU (BK R hr AD (pv 0) (FH gl) (oks (by decide +kernel))) (AC (AJ (BC C4 (BC C4 (BZ g7) AI) (E4 R hr AD (pv 0) (FH gl) (oks (by decide +kernel)))))) AK)
  (AB (AZ 1 sc_fb (BZ g7))
  (AB (B8 bh (GO (BK R hr AD (pv 0) AV (oks (by decide +kernel))) (E1 (AN IK (pv 1) (BC C4 (BZ g7) AI) (AQ _)))).pt
  (AB (BL R hr AD (pv 0) AV (oks (by decide +kernel)))
  (AC (IR (i:=1) sc_fb.nd rfl (vT rfl) AI IS))))
  (AB (BL R hr AD (pv 0) AV (oks (by decide +kernel)))
  (AC (AJ (pv 1))))))),?_⟩
 and_intros
 unfold mFB at k;refine⟨_,rfl,r,ta,cs,e,Dg,rfl,Rr,λH1 s1=>?_⟩;have R1:=Rr.same s1;cases hm:see "4567" Dg with
 |true=>
  rw[Dm hm] at k;refine BS ⟨_,_,rfl,rfl,_,rfl,r,ta,cs,e,Dg,rfl,R1,?_⟩;cases hp:pk "4567" Dg with
  |none=>simp only[hp] at k;exact AL rfl k
  |some x=>
   obtain⟨n,u⟩:=x;simp only[hp] at k;refine AM rfl λH3 R3 s3=>⟨_,_,rfl,rfl,?_⟩
   have q:=k H3 R3 (s1.sb.trans s3);have e1:DS (7+4+n)=V.int (7+4+(n:Int)):=by unfold DS;congr 1
   rw[e1] at q;exact q
 |false=>
  rw[Dn (by rw[hm];decide)] at k;obtain⟨M,hM⟩:∃M,M=mSl 3 Dg:=⟨_,rfl⟩
  rw[←hM] at k;refine BH ⟨λm σ H'=>∃(Dh:List UInt8),σ=[some (.ref r),some (.int (10 - (m:Nat)))]/\m<=3/\Sb r H H'/\Rd K C H' r ta cs e Dh/\M=mSl m Dh,⟨3,Dg,rfl,aw _,s1.sb,R1,hM⟩,?_⟩;rintro m σ H2 ⟨Dh,rfl,hm3,s2,R2,em⟩;refine⟨_,rfl,r,ta,cs,e,Dh,rfl,R2,λH3 s3=>?_⟩;have R3:=R2.same s3;have s13:Sb r H H3:=s2.trans s3.sb;have tail:∀H3:Hp,Sb r H H3->Rd K C H3 r ta cs e Dh->(∀t,sk ("a":Str).cps.toList Dh=some ((),t)->M=some (10 - m,t))->(sk ("a":Str).cps.toList Dh=none->M=none)->
   (AW (NO K C CT E (BP 0) "a") (RN (BP 1))) { nx:=λ_ H'=>Q .non H',rt:=Q } [some (.ref r),some (.int (10 - (m:Nat)))] H3:=by
   intro H3 s13 R3 q1 q2;refine⟨_,rfl,r,ta,cs,e,Dh,rfl,R3,?_⟩;cases hs:sk ("a":Str).cps.toList Dh with
   |none=>rw[q2 hs] at k;exact AL rfl k
   |some x=>
    obtain⟨⟨⟩,t⟩:=x;rw[q1 t hs] at k;refine AM rfl λH4 R4 s4=>⟨_,rfl,?_⟩
    have q:=k H4 R4 (s13.trans s4);have e1:DS (10 - m)=V.int (10 - (m:Nat)):=by unfold DS;congr 1;omega
    rw[e1] at q;exact q
  cases hs:see "/" Dh with
  |false=>
   refine BH (BH (tail H3 s13 R3 ?_ ?_))
   ·intro t ht;rw[em];cases m with
    |zero=>rw[mSl,ht]
    |succ m=>rw[mSl,Dn (by rw[hs];decide),ht];show some (9 - m,t)=some (10 - (m+1),t);congr 2;omega
   ·intro ht;rw[em];cases m with
    |zero=>rw[mSl,ht]
    |succ m=>rw[mSl,Dn (by rw[hs];decide),ht]
  |true=>
   refine BS ⟨_,rfl,_,_,rfl,rfl,_,_,rfl,rfl,_,rfl,?_⟩;cases m with
   |zero=>
    refine YQ (by decide) (tail H3 s13 R3 ?_ ?_)
    ·intro t ht;rw[em,mSl,ht]
    ·intro ht;rw[em,mSl,ht]
   |succ m=>
    rw[mSl,Dm hs] at em;have Dl:decide ((10:Int) - ((m+1:Nat):Int)<7+3)=true:=decide_eq_true (by omega);show if decide ((10:Int) - ((m+1:Nat):Int)<7+3)=true then _ else _;rw[Dl];refine DZ ⟨_,rfl,r,ta,cs,e,Dh,rfl,R3,?_⟩;cases hk:sk ("/":Str).cps.toList Dh with
    |none=>
     rw[hk] at em;rw[em] at k;exact AL rfl k
    |some x=>
     obtain⟨⟨⟩,t⟩:=x;rw[hk] at em;refine AM rfl λH4 R4 s4=>⟨_,rfl,_,_,rfl,rfl,m,by omega,t,?_,by omega,s13.trans s4,R4,em⟩
     show[some (V.ref r),some (V.int (((10:Int) - ((m+1:Nat):Int))+1))]=_;congr 3;show V.int _=V.int _;congr 1;omega
end
open PySem PySem.Spec PyProof.Rows L2
def sT:Option (Stop×List UInt8)->Option (List Int×List UInt8)
 |none=>none
 |some (s,t)=>some (sL s,t)
def zX:Str:="abcdefghiklmnopqrstvxyz&9"
def zP:Str:="+ABCDEFGHIKLMNOP"
def mTm (b:Int):Nat->Nat->List UInt8->Option (Nat×List UInt8)
 |0,j,t=>some (j,t)
 |f+1,j,t=>if bt t=b then(match pk zX t with
  |none=>none
  |some (_,u)=>mTm b f (j+1) u)
  else some (j,t)
def mCr (l:List UInt8):Option (Stop×List UInt8):=match pk zX l with
 |none=>none
 |some (n,t)=>match mTm (bt l) 2 0 t with
  |none=>none
  |some (j,u)=>some (⟨5 - n%5,1+n / 5+5*j⟩,u)
def mGS (l:List UInt8):Option (Stop×List UInt8):=if see "-" l=true then(match sk ("-":Str).cps.toList l with
 |none=>none
 |some (_,t)=>match mBN t with
  |none=>none
  |some (n,u)=>some (⟨n,0⟩,u))
 else if see "54321" l=true then(match pk "54321" l with
  |none=>none
  |some (n,t)=>some (⟨1+n,0⟩,t))
 else if see zP l=true then(match pk zP l with
  |none=>none
  |some (n,t)=>some (⟨6,n⟩,t))
 else mCr l
section
variable {P:bb} {w:cb} {K:aa} {mg:Str->Option ah} {base:cr} {C CI CT:ag} {dz fz:Str}
theorem sc_cr:FnScope ["reader","byte","number","times"] ["reader"] (AH ET):={}
theorem p9 (F:Fun K "read_crossing" "read_crossing" ET f fd) (R:RdE P w K mg base C CT dz) (g3:GI mg "MOST_CROSSING_BYTES" 3) (gx:GS mg "GERMAN_CROSSINGS" zX):FnOk P w K mg base (CX1 P w) 5 f fd ["reader"] (FI K C CT λl=>sT (mCr l)):=by
 refine F.okx sc_cr λDk A outer s H vs Q E hr h=>?_;obtain⟨r,ta,cs,e,Dg,rfl,Rr,k⟩:=h;refine⟨_,(AB (AZ 1 sc_cr (WO R hr AD (pv 0)))
  (AB (AZ 2 sc_cr (E4 R hr AD (pv 0) (FH gx) (oks (by decide +kernel))))
  (AB (AZ 3 sc_cr AI)
  (AB (B8 bh (GO (AN CY (WO R hr AD (pv 0)) (pv 1) (AQ _)) (E1 (AN IK (pv 3) (BZ g3) (AQ _)))).pt
  (AB (AY (E4 R hr AD (pv 0) (FH gx) (oks (by decide +kernel))))
  (AC (IR (i:=3) sc_cr.nd rfl (vT rfl) AI IS))))
  (AC (AJ (E8 (AA (BC G5 AI (BC T2 (pv 2) AI)) (AA (BC C4 (BC C4 AI (BC MD (pv 2) AI)) (BC IU AI (BC G5 (pv 3) AI))) AF))))))))),?_⟩
 and_intros
 refine⟨_,rfl,r,ta,cs,e,Dg,rfl,Rr,?_⟩;refine⟨_,rfl,r,ta,cs,e,Dg,rfl,Rr,?_⟩;unfold mCr at k;cases hp:pk zX Dg with
 |none=>simp only[hp,sT] at k;exact AL rfl k
 |some x=>
  obtain⟨n,t⟩:=x;simp only[hp] at k;refine AM rfl λH1 R1 s1=>?_;obtain⟨M,hM⟩:∃M,M=mTm (bt Dg) 2 0 t:=⟨_,rfl⟩
  rw[←hM] at k;refine⟨λm σ H'=>Ex2 λ(Dh:List UInt8) (j:Nat)=>σ=[some (.ref r),some (.int (bt Dg)),some (.int (n:Nat)),some (.int ((j:Nat)+1))]/\m+j=2/\Sb r H H'/\Rd K C H' r ta cs e Dh/\M=mTm (bt Dg) m j Dh,⟨2,t,0,rfl,rfl,s1,R1,hM⟩,?_⟩;rintro m σ H2 ⟨Dh,j,rfl,hmj,s2,R2,em⟩;have done:M=some (j,Dh)->(RN (iZ (B9 (tOp (rI0 λi j=>.int (i - j)) (tC (.int 5)) (tOp (rI (λ_ j=>0<j) λi j=>.int (i%j)) (BP 2) (tC (.int 5)))) (B9 (tOp (rI0 λi j=>.int (i+j)) (tOp (rI0 λi j=>.int (i+j)) (tC (.int 1)) (tOp (rI mZ λi j=>.int (i / j)) (BP 2) (tC (.int 5)))) (tOp (rI CMul λi j=>.int (i*j)) (tC (.int 5)) (tOp (rI0 λi j=>.int (i - j)) (BP 3) (tC (.int 1))))) EQ))))
   { nx:=λ_ H'=>Q .non H',rt:=Q } [some (.ref r),some (.int (bt Dg)),some (.int (n:Nat)),some (.int ((j:Nat)+1))] H2:=by
   intro eM;simp only[eM,sT] at k;refine⟨_,rfl,_,_,rfl,rfl,(by show(0:Int)<5;decide),_,_,rfl,rfl,_,rfl,_,_,rfl,rfl,(show(0:Int)<5/\(5:Int)<1073741824 from by decide),_,_,rfl,rfl,_,rfl,_,_,rfl,rfl,_,_,rfl,rfl,.inl ⟨by decide,by decide⟩,_,_,rfl,rfl,(by rw[cf];show 2<=16777216;decide),λpa npa=>?_⟩
   ·have sp:Same H2 (upd H2 pa (.tup [V.int (5 - (n:Int)%5),V.int (1+(n:Int) / 5+5*(((j:Nat):Int)+1 - 1))])):=Same.upd npa;refine k _ pa (R2.same sp) (s2.trans sp.sb) (SqT.of (upd_same.trans ?_));have e1:((5 - n%5:Nat):Int)=5 - (n:Int)%5:=by omega
    have e2:((1+n / 5+5*j:Nat):Int)=1+(n:Int) / 5+5*(((j:Nat):Int)+1 - 1):=by omega
    simp only[sL,List.map,e1,e2]
  refine⟨_,rfl,r,ta,cs,e,Dh,rfl,R2,_,rfl,rfl,_,rfl,?_⟩;by_cases hb:bt Dh=bt Dg
  ·have hd:decide (V.int (bt Dh)=V.int (bt Dg))=true:=decide_eq_true (by rw[hb]);rw[hd];refine BS ⟨_,rfl,_,_,rfl,rfl,_,rfl,?_⟩;cases m with
   |zero=>
    have Dl:decide (((j:Nat):Int)+1<3)=false:=decide_eq_false (by omega);refine YQ Dl (done ?_);rw[em,mTm]
   |succ m=>
    have Dl:decide (((j:Nat):Int)+1<3)=true:=decide_eq_true (by omega);show if decide (((j:Nat):Int)+1<3)=true then _ else _;rw[Dl];rw[mTm,Dm hb] at em;refine DZ ⟨_,rfl,r,ta,cs,e,Dh,rfl,R2,?_⟩;cases hk:pk zX Dh with
    |none=>
     rw[hk] at em;rw[em] at k;exact AL rfl k
    |some x=>
     obtain⟨_,u⟩:=x;rw[hk] at em;exact AM rfl λH4 R4 s4=>⟨_,rfl,_,_,rfl,rfl,m,by omega,u,j+1,rfl,by omega,s2.trans s4,R4,em⟩
  ·have hd:decide (V.int (bt Dh)=V.int (bt Dg))=false:=decide_eq_false λq=>hb (by injection q);rw[hd];refine BH (BH (done ?_));cases m with
   |zero=>rw[em,mTm]
   |succ m=>rw[em,mTm,Dn hb]
theorem qA:FnScope ["reader"] ["reader"] (AH DQ):={}
theorem qB (F:Fun K "read_german_stop" "read_german_stop" DQ f fd) (R:RdE P w K mg base C CT dz) (gu:GS mg "GERMAN_UNSTOPPED" "54321") (gp:GS mg "GERMAN_SIXTH" zP) (g6:GI mg "NECK_COURSES" 6)
 (D1:Def P w K mg base 5 "read_bass_number" ["reader"] (G0 K C CT mBN DS)) (D2:Def P w K mg base 5 "read_crossing" ["reader"] (FI K C CT λl=>sT (mCr l))):FnOk P w K mg base (CX1 P w) 6 f fd ["reader"] (FI K C CT λl=>sT (mGS l)):=by
 refine F.okx qA λDk A outer s H vs Q E hr h=>?_;obtain⟨r,ta,cs,e,Dg,rfl,Rr,k⟩:=h;refine⟨_,(AB (AU (BK R hr AD (pv 0) AV (oks (by decide +kernel))) (AB (BL R hr AD (pv 0) AV (oks (by decide +kernel)))
  (AC (AJ (E8 (AA (KY D1 hr AD (pv 0)) (AA AI AF)))))) AK)
  (AB (AU (BK R hr AD (pv 0) (FH gu) (oks (by decide +kernel))) (AC (AJ (E8 (AA (BC C4 AI (E4 R hr AD (pv 0) (FH gu) (oks (by decide +kernel)))) (AA AI AF))))) AK)
  (AB (AU (BK R hr AD (pv 0) (FH gp) (oks (by decide +kernel))) (AC (AJ (E8 (AA (BZ g6) (AA (E4 R hr AD (pv 0) (FH gp) (oks (by decide +kernel))) AF))))) AK)
  (AC (AJ (GZ D2 hr AD (pv 0))))))),?_⟩
 and_intros
 have k':UQ K C CT r ta cs e H Q E (sT (mGS Dg)):=k;clear k;have k:=k';clear k';unfold mGS at k;have fin:∀{x y:Int} {H1 H2:Hp} {s:Stop} {t:List UInt8},(∀H' a,Rd K C H' r ta cs e t->Sb r H H'->SqT K H' a ((sL s).map V.int)->Q (.ref a) H')->Sb r H H2->Rd K C H2 r ta cs e t->(s.course:Int)=x->(s.fret:Int)=y->
  [V.int x,V.int y].length<=sizeLine/\∀p,H2 p=none->Q (.ref p) (upd H2 p (.tup [V.int x,V.int y])):=by
  intro x y H1 H2 s t k s2 R2 e1 e2;refine⟨by rw[cf];show 2<=16777216;decide,λpa npa=>?_⟩;have sp:Same H2 (upd H2 pa (.tup [V.int x,V.int y])):=Same.upd npa;exact k _ pa (R2.same sp) (s2.trans sp.sb) (SqT.of (upd_same.trans (by rw[←e1, ←e2];rfl)))
 refine⟨_,rfl,r,ta,cs,e,Dg,rfl,Rr,λH1 s1=>?_⟩;have R1:=Rr.same s1;cases h1:see "-" Dg with
 |true=>
  rw[Dm h1] at k;refine BS ⟨_,rfl,r,ta,cs,e,Dg,rfl,R1,?_⟩;cases hs:sk ("-":Str).cps.toList Dg with
  |none=>simp only[hs,sT] at k;exact AL rfl k
  |some x=>
   obtain⟨_,t⟩:=x;simp only[hs] at k;refine AM rfl λH2 R2 s2=>⟨_,rfl,r,ta,cs,e,t,rfl,R2,?_⟩
   cases hb:mBN t with
   |none=>simp only[hb,sT] at k;exact AL rfl k
   |some x=>
    obtain⟨n,u⟩:=x;simp only[hb,sT] at k;exact AM rfl λH3 R3 s3=>fin (H1:=H) k ((s1.sb.trans s2).trans s3) R3 rfl rfl
 |false=>
  rw[Dn (by rw[h1];decide)] at k;refine BH ⟨_,rfl,r,ta,cs,e,Dg,rfl,R1,λH2 s2=>?_⟩;have R2:=R1.same s2;cases h2:see "54321" Dg with
  |true=>
   rw[Dm h2] at k;refine BS ⟨_,rfl,r,ta,cs,e,Dg,rfl,R2,?_⟩;cases hp:pk "54321" Dg with
   |none=>simp only[hp,sT] at k;exact AL rfl k
   |some x=>
    obtain⟨n,u⟩:=x;simp only[hp,sT] at k;refine AM rfl λH3 R3 s3=>⟨_,_,rfl,rfl,?_⟩
    exact fin (H1:=H) k ((s1.trans s2).sb.trans s3) R3 (by show((1+n:Nat):Int)=1+(n:Int);omega) rfl
  |false=>
   rw[Dn (by rw[h2];decide)] at k;refine BH ⟨_,rfl,r,ta,cs,e,Dg,rfl,R2,λH3 s3=>?_⟩;have R3:=R2.same s3;cases h3:see zP Dg with
   |true=>
    rw[Dm h3] at k;refine BS ⟨_,rfl,r,ta,cs,e,Dg,rfl,R3,?_⟩;cases hp:pk zP Dg with
    |none=>simp only[hp,sT] at k;exact AL rfl k
    |some x=>
     obtain⟨n,u⟩:=x;simp only[hp,sT] at k;exact AM rfl λH4 R4 s4=>fin (H1:=H) k (((s1.trans s2).trans s3).sb.trans s4) R4 rfl rfl
   |false=>
    rw[Dn (by rw[h3];decide)] at k;refine BH ⟨_,rfl,r,ta,cs,e,Dg,rfl,R3,?_⟩;cases hc:mCr Dg with
    |none=>simp only[hc,sT] at k;exact EG (by show sT (mCr Dg)=_;rw[hc];rfl) k
    |some x=>
     obtain⟨s,u⟩:=x;simp only[hc,sT] at k;exact EH (by show sT (mCr Dg)=_;rw[hc];rfl) λH4 a R4 s4 q=>k H4 a R4 (((s1.trans s2).trans s3).sb.trans s4) q
end
open PySem PySem.Spec PyProof.Rows L2
def zF:Str:="abcdefghiklmnopq"
def zI:Str:="0123456789xyzvuw"
def mBs (m:List UInt8->Option (Nat×List UInt8)):Nat->List Stop->List UInt8->Option (List Stop×List UInt8)
 |0,_,_=>none
 |f+1,acc,l=>if see " " l=true then(match sk (" ":Str).cps.toList l with
  |none=>none
  |some (_,t)=>match m t with
   |none=>none
   |some (b,u)=>if DB acc ⟨b,0⟩=true then mBs m f (acc++[⟨b,0⟩]) u else none)
  else some (acc,l)
def mFr (l:List UInt8):Option (List Stop×List UInt8):=match B7 zF [1,2,3,4,5,6] l with
 |none=>none
 |some (s,t)=>mBs mFB (t.length+1) s t
def mIt (l:List UInt8):Option (List Stop×List UInt8):=match B7 zI [6,5,4,3,2,1] l with
 |none=>none
 |some (s,t)=>mBs mBN (t.length+1) s.reverse t
def mGl:Nat->List Stop->List UInt8->Option (List Stop×List UInt8)
 |0,_,_=>none
 |f+1,acc,l=>match mGS l with
  |none=>none
  |some (s,t)=>if DB acc s=true then(if see " " t=true then(match sk (" ":Str).cps.toList t with
   |none=>none
   |some (_,u)=>mGl f (acc++[s]) u) else some (acc++[s],t)) else none
def mGr (l:List UInt8):Option (List Stop×List UInt8):=if see "." l=true then(match sk (".":Str).cps.toList l with
 |none=>none
 |some (_,t)=>some ([],t))
 else mGl (l.length+1) [] l
theorem W0:∀{f:Nat} {l t:List UInt8} {n:Nat},mSl f l=some (n,t)->t.length<l.length
 |0,l,t,n,h=>by
  rw[mSl] at h;cases hs:sk ("a":Str).cps.toList l with
  |none=>rw[hs] at h;cases h
  |some x=>
   obtain⟨_,y⟩:=x;rw[hs] at h;cases h;have:t.length+1=l.length:=BN hs;omega
 |f+1,l,t,n,h=>by
  rw[mSl] at h;split at h
  ·cases hs:sk ("/":Str).cps.toList l with
   |none=>rw[hs] at h;cases h
   |some x=>
    obtain⟨_,y⟩:=x;rw[hs] at h;have h1:y.length+1=l.length:=BN hs;have:=W0 (f:=f) h;omega
  ·cases hs:sk ("a":Str).cps.toList l with
   |none=>rw[hs] at h;cases h
   |some x=>
    obtain⟨_,y⟩:=x;rw[hs] at h;cases h;have:t.length+1=l.length:=BN hs;omega
theorem QS {l:List UInt8} (h:mFB l=some (n,t)):t.length<l.length:=by
 unfold mFB at h;split at h
 ·cases hp:pk "4567" l with
  |none=>rw[hp] at h;cases h
  |some x=>obtain⟨i,y⟩:=x;rw[hp] at h;cases h;have:=EY hp;omega
 ·exact W0 h
theorem MV {l:List UInt8} (h:mBN l=some (n,t)):t.length<l.length:=by
 unfold mBN at h;split at h
 ·cases hs:sk ("1":Str).cps.toList l with
  |none=>rw[hs] at h;cases h
  |some x=>
   obtain⟨_,y⟩:=x;simp only[hs] at h;cases hp:pk "01234" y with
   |none=>rw[hp] at h;cases h
   |some x=>
    obtain⟨i,v⟩:=x;rw[hp] at h;cases h;have h1:y.length+1=l.length:=BN hs;have:=EY hp;omega
 ·cases hp:pk "789" l with
  |none=>rw[hp] at h;cases h
  |some x=>obtain⟨i,y⟩:=x;rw[hp] at h;cases h;have:=EY hp;omega
theorem GL:∀{ns:List Nat} {l t:List UInt8} {s:List Stop},B7 z ns l=some (s,t)->t.length<=l.length/\s.length<=ns.length
 |[],l,t,s,h=>by rw[B7] at h;cases h;exact⟨aw _,aw _⟩
 |c::ns,l,t,s,h=>by
  rw[B7] at h;cases hp:pk (z++".") l with
  |none=>rw[hp] at h;cases h
  |some x=>
   obtain⟨i,y⟩:=x;simp only[hp] at h;cases hm:B7 z ns y with
   |none=>rw[hm] at h;cases h
   |some x=>
    obtain⟨q,v⟩:=x;simp only[hm] at h;cases h;have h1:=GL hm;have h2:=EY hp;refine⟨by omega,?_⟩;split<;>simp<;>omega
def YU (K:aa) (C CT:ag) (m:List UInt8->Option (List Stop×List UInt8)):Sp:=λvs H Q E=>Ex5 λ(r ta:ag) (cs:List UInt8) (e:Nat) (Dg:List UInt8)=>vs=[.ref r]/\Rd K C H r ta cs e Dg/\cs.length<=100000/\U0 K C CT r ta cs e H Q E (m Dg)
theorem Rd.rl {K:aa} {Dg:List UInt8} (R:Rd K C H r ta cs e Dg):Dg.length<=cs.length:=by
 obtain⟨dx,p,_,q,_⟩:=R.at_;rw[q,fw,eq];omega
theorem NY {F:α->β->Prop}:∀{l:List α} {m:List β},cg F l m->cg F l.reverse m.reverse
 |_,_,.nil=>.nil
 |_,_,.cons r t=>by
  rw[uc,uc];exact FV r (NY t)
section
variable {P:bb} {w:cb} {K:aa} {mg:Str->Option ah} {base:cr} {C CI CT:ag} {dz fz:Str}
theorem VB:FnScope ["reader","stops","start"] ["reader"] (AH DF):={}
theorem kJ (F:Fun K "read_french_stops" "read_french_stops" DF f fd) (B:Blt mg) (R:RdE P w K mg base C CT dz) (g6:GI mg "NECK_COURSES" 6) (gz:GS mg "FRENCH_FRETS" zF)
 (D1:Def P w K mg base 5 "read_neck" ["reader","frets","courses"] (VA K C CT)) (D2:Def P w K mg base 5 "read_french_bass" ["reader"] (G0 K C CT mFB DS)) (D3:Def P w K mg base 3 "add_stop" ["stops","stop","start"] (WY K CT)):
 FnOk P w K mg base (CX1 P w) 6 f fd ["reader"] (YU K C CT mFr):=by
 refine F.okx VB λDk A outer s H vs Q E hr h=>?_;obtain⟨r,ta,cs,e,Dg,rfl,Rr,hcs,k⟩:=h;refine⟨_,(AB (AZ 1 VB (D1.call hr AD (AA (pv 0) (AA (FH gz) (AA (J8 rfl B.list B.range (AA AI (AA (BC C4 (BZ g6) AI) AF))) AF)))))
  (AB (B8 bh (BK R hr AD (pv 0) AV (oks (by decide +kernel)))
  (AB (BL R hr AD (pv 0) AV (oks (by decide +kernel)))
  (AB (AZ 2 VB (B5 R (pv 0)))
  (AC (AY (D3.call hr AD (AA (pv 1) (AA (E8 (AA (KY D2 hr AD (pv 0)) (AA AI AF))) (AA (pv 2) AF)))))))))
  (AC (AJ (pv 1))))),?_⟩
 and_intros
 unfold mFr at k;refine⟨_,rfl,_,_,rfl,rfl,1,7,1,6,.inr ⟨rfl,rfl⟩,⟨by decide,by decide,by decide +kernel,by decide +kernel⟩,(by decide),λca nca=>?_⟩;have sc:Same H (upd H ca (.lst (rgV 1 1 6))):=Same.upd nca;have R0:=Rr.same sc;refine⟨r,ta,ca,cs,e,Dg,zF,[1,2,3,4,5,6],rfl,R0,oks (by decide +kernel),(by decide +kernel),upd_same,(by decide),?_⟩;cases hn:B7 zF [1,2,3,4,5,6] Dg with
 |none=>simp only[hn] at k;exact K3 rfl k
 |some x=>
  obtain⟨s0,t⟩:=x;simp only[hn] at k;have hnl:=GL hn;refine K4 rfl λH1 sa R1 s1 nsa L1=>?_;have nsa:H sa=none:=by
   by_cases q:sa=ca
   ·rw[q];exact nca
   ·rw[AE q] at nsa;exact nsa
  have s1:Sb r H H1:=λb o eb hb=>s1 b o (sc b o eb) hb;have ttx:ta≠sa\/KTx K ta (cs.map cV):=HR Rr.tx nsa;obtain⟨M,hM⟩:∃M,M=mBs mFB (t.length+1) s0 t:=⟨_,rfl⟩
  rw[←hM] at k;have hls:(s0).length<=6:=hnl.2;have hr0:=Rr.rl;refine⟨λm σ H'=>Ex4 λ(Dh:List UInt8) (acc:List Stop) (g:Nat) (r2:Option V)=>σ=[some (.ref r),some (.ref sa),r2]/\Sb r H H'/\Rd K C H' r ta cs e Dh/\LT K H' sa (acc.map sL)/\M=mBs mFB g acc Dh/\Dh.length<g/\acc.length+Dh.length<=6+t.length/\m=Dh.length,
   ⟨t.length,t,s0,t.length+1,none,rfl,s1,R1,L1,hM,by omega,by omega,rfl⟩,?_⟩
  rintro m σ H2 ⟨Dh,acc,g,r2,rfl,s2,R2,L2,em,hg,ha,rfl⟩;obtain⟨g,rfl⟩:∃g',g=g'+1:=⟨g - 1,by omega⟩
  rw[mBs] at em;refine⟨_,rfl,r,ta,cs,e,Dh,rfl,R2,λH3 s3=>?_⟩;have R3:=R2.same s3;have L3:LT K H3 sa (acc.map sL):=(Same.kp s3).lt L2;have s23:Sb r H H3:=s2.trans s3.sb;cases hs:see " " Dh with
  |false=>
   rw[Dn (by rw[hs];decide)] at em;rw[em] at k;exact BH ⟨_,rfl,k H3 sa R3 s23 nsa L3⟩
  |true=>
   rw[Dm hs] at em;refine DZ ⟨_,rfl,r,ta,cs,e,Dh,rfl,R3,?_⟩;cases hk:sk (" ":Str).cps.toList Dh with
   |none=>simp only[hk] at em;rw[em] at k;exact AL rfl k
   |some x=>
    obtain⟨_,t4⟩:=x;simp only[hk] at em;obtain⟨dr3,p3,ir3⟩:=R3.ins;refine AM rfl λH4 R4 s4=>⟨_,rfl,r,ta,cs,e,t4,rfl,R4,λst=>?_⟩
    have L4:=L3.sb s4 ir3;obtain⟨dr4,p4,ir4⟩:=R4.ins;refine⟨_,rfl,_,rfl,r,ta,cs,e,t4,rfl,R4,?_⟩;cases hb:mFB t4 with
    |none=>simp only[hb] at em;rw[em] at k;exact AL rfl k
    |some x=>
     obtain⟨b,u⟩:=x;simp only[hb] at em;refine AM rfl λH5 R5 s5=>⟨(by rw[cf];show 2<=16777216;decide),λpa npa=>⟨_,rfl,?_⟩⟩
     have L5:=L4.sb s5 ir4;have sp:Same H5 (upd H5 pa (.tup [DS b,V.int 0])):=Same.upd npa;have hl1:t4.length+1=Dh.length:=BN hk;have hl2:=QS hb;refine⟨sa,pa,acc,⟨b,0⟩,st,rfl,(Same.kp sp).lt L5,SqT.of upd_same,by omega,?_⟩;cases ho:DB acc ⟨b,0⟩ with
     |false=>
      rw[Dn (by rw[ho];decide)] at em;rw[em] at k;exact BH (k st)
     |true=>
      rw[Dm ho] at em;refine BS λH6 L6 s6=>⟨u.length,by omega,u,acc++[⟨b,0⟩],g,_,rfl,?_,?_,L6,em,by omega,?_,rfl⟩
      ·have q:Sb r H (upd H5 pa (.tup [DS b,V.int 0])):=((s23.trans s4).trans s5).trans sp.sb;exact λb' o eb hb'=>s6 b' o (q b' o eb hb') (AG eb nsa)
      ·obtain⟨as,a1,_⟩:=(Same.kp sp).lt L5;exact(R5.same sp).app a1 ttx s6
      ·rw[bp];simp;omega
theorem VC:FnScope ["reader","stops","start"] ["reader"] (AH C7):={}
theorem kK (F:Fun K "read_italian_stops" "read_italian_stops" C7 f fd) (B:Blt mg) (R:RdE P w K mg base C CT dz) (g6:GI mg "NECK_COURSES" 6) (gz:GS mg "ITALIAN_FRETS" zI)
 (D1:Def P w K mg base 5 "read_neck" ["reader","frets","courses"] (VA K C CT)) (D2:Def P w K mg base 5 "read_bass_number" ["reader"] (G0 K C CT mBN DS)) (D3:Def P w K mg base 3 "add_stop" ["stops","stop","start"] (WY K CT)):
 FnOk P w K mg base (CX1 P w) 6 f fd ["reader"] (YU K C CT mIt):=by
 refine F.okx VC λDk A outer s H vs Q E hr h=>?_;obtain⟨r,ta,cs,e,Dg,rfl,Rr,hcs,k⟩:=h;refine⟨_,(AB (AZ 1 VC (UX rfl B.list B.rev (AA (D1.call hr AD (AA (pv 0) (AA (FH gz) (AA (J8 rfl B.list B.range (AA (BZ g6) (AA AI (AA (G4 E7 AI) AF)))) AF)))) AF)))
  (AB (B8 bh (BK R hr AD (pv 0) AV (oks (by decide +kernel)))
  (AB (BL R hr AD (pv 0) AV (oks (by decide +kernel)))
  (AB (AZ 2 VC (B5 R (pv 0)))
  (AC (AY (D3.call hr AD (AA (pv 1) (AA (E8 (AA (KY D2 hr AD (pv 0)) (AA AI AF))) (AA (pv 2) AF)))))))))
  (AC (AJ (pv 1))))),?_⟩
 and_intros
 unfold mIt at k;refine⟨_,rfl,1,rfl,6,0, -1,6,.inl rfl,⟨by decide,by decide,by decide +kernel,by decide +kernel⟩,(by decide),λca nca=>?_⟩;have sc:Same H (upd H ca (.lst (rgV 6 (-1) 6))):=Same.upd nca;have R0:=Rr.same sc;refine⟨r,ta,ca,cs,e,Dg,zI,[6,5,4,3,2,1],rfl,R0,oks (by decide +kernel),(by decide +kernel),upd_same,(by decide),?_⟩;cases hn:B7 zI [6,5,4,3,2,1] Dg with
 |none=>simp only[hn] at k;exact K3 rfl k
 |some x=>
  obtain⟨s0,t⟩:=x;simp only[hn] at k;have hnl:=GL hn;refine K4 rfl λH0 sz R1 s1 nsz L1=>?_;have s1:Sb r H H0:=λb o eb hb=>s1 b o (sc b o eb) hb;obtain⟨as,a1,a2⟩:=L1;refine⟨sz,_,rfl,SqL.of a1,λsa nsb=>?_⟩;obtain⟨H1,hH⟩:∃H1,H1=upd H0 sa (.lst (as.map V.ref).reverse):=⟨_,rfl⟩
  rw[←hH];have sv:Same H0 H1:=hH▸Same.upd nsb;have L1:LT K H1 sa (s0.reverse.map sL):=⟨as.reverse,by rw[hH,upd_same,yO],by rw[yO];exact NY (AR a2 λ_ _ q=>sv.tup q)⟩
  have nsa:H sa=none:=by
   cases hq:H sa with
   |none=>rfl
   |some o=>
    by_cases q:sa=r
    ·obtain⟨dr,p,ir⟩:=R1.ins;rw[q,ir] at nsb;cases nsb
    ·rw[s1 sa o hq q] at nsb;cases nsb
  replace R1:=R1.same sv;replace s1:Sb r H H1:=s1.trans sv.sb;have ttx:ta≠sa\/KTx K ta (cs.map cV):=HR Rr.tx nsa;obtain⟨M,hM⟩:∃M,M=mBs mBN (t.length+1) s0.reverse t:=⟨_,rfl⟩
  rw[←hM] at k;have hls:(s0.reverse).length<=6:=by rw[u5];exact hnl.2
  have hr0:=Rr.rl;refine⟨λm σ H'=>Ex4 λ(Dh:List UInt8) (acc:List Stop) (g:Nat) (r2:Option V)=>σ=[some (.ref r),some (.ref sa),r2]/\Sb r H H'/\Rd K C H' r ta cs e Dh/\LT K H' sa (acc.map sL)/\M=mBs mBN g acc Dh/\Dh.length<g/\acc.length+Dh.length<=6+t.length/\m=Dh.length,
   ⟨t.length,t,s0.reverse,t.length+1,none,rfl,s1,R1,L1,hM,by omega,by omega,rfl⟩,?_⟩
  rintro m σ H2 ⟨Dh,acc,g,r2,rfl,s2,R2,L2,em,hg,ha,rfl⟩;obtain⟨g,rfl⟩:∃g',g=g'+1:=⟨g - 1,by omega⟩
  rw[mBs] at em;refine⟨_,rfl,r,ta,cs,e,Dh,rfl,R2,λH3 s3=>?_⟩;have R3:=R2.same s3;have L3:LT K H3 sa (acc.map sL):=(Same.kp s3).lt L2;have s23:Sb r H H3:=s2.trans s3.sb;cases hs:see " " Dh with
  |false=>
   rw[Dn (by rw[hs];decide)] at em;rw[em] at k;exact BH ⟨_,rfl,k H3 sa R3 s23 nsa L3⟩
  |true=>
   rw[Dm hs] at em;refine DZ ⟨_,rfl,r,ta,cs,e,Dh,rfl,R3,?_⟩;cases hk:sk (" ":Str).cps.toList Dh with
   |none=>simp only[hk] at em;rw[em] at k;exact AL rfl k
   |some x=>
    obtain⟨_,t4⟩:=x;simp only[hk] at em;obtain⟨dr3,p3,ir3⟩:=R3.ins;refine AM rfl λH4 R4 s4=>⟨_,rfl,r,ta,cs,e,t4,rfl,R4,λst=>?_⟩
    have L4:=L3.sb s4 ir3;obtain⟨dr4,p4,ir4⟩:=R4.ins;refine⟨_,rfl,_,rfl,r,ta,cs,e,t4,rfl,R4,?_⟩;cases hb:mBN t4 with
    |none=>simp only[hb] at em;rw[em] at k;exact AL rfl k
    |some x=>
     obtain⟨b,u⟩:=x;simp only[hb] at em;refine AM rfl λH5 R5 s5=>⟨(by rw[cf];show 2<=16777216;decide),λpa npa=>⟨_,rfl,?_⟩⟩
     have L5:=L4.sb s5 ir4;have sp:Same H5 (upd H5 pa (.tup [DS b,V.int 0])):=Same.upd npa;have hl1:t4.length+1=Dh.length:=BN hk;have hl2:=MV hb;refine⟨sa,pa,acc,⟨b,0⟩,st,rfl,(Same.kp sp).lt L5,SqT.of upd_same,by omega,?_⟩;cases ho:DB acc ⟨b,0⟩ with
     |false=>
      rw[Dn (by rw[ho];decide)] at em;rw[em] at k;exact BH (k st)
     |true=>
      rw[Dm ho] at em;refine BS λH6 L6 s6=>⟨u.length,by omega,u,acc++[⟨b,0⟩],g,_,rfl,?_,?_,L6,em,by omega,?_,rfl⟩
      ·have q:Sb r H (upd H5 pa (.tup [DS b,V.int 0])):=((s23.trans s4).trans s5).trans sp.sb;exact λb' o eb hb'=>s6 b' o (q b' o eb hb') (AG eb nsa)
      ·obtain⟨as,a1,_⟩:=(Same.kp sp).lt L5;exact(R5.same sp).app a1 ttx s6
      ·rw[bp];simp;omega
end
open PySem PySem.Spec PyProof.Rows L2
theorem W1 {b:Int}:∀{f j:Nat} {l t:List UInt8} {n:Nat},mTm b f j l=some (n,t)->t.length<=l.length
 |0,j,l,t,n,h=>by rw[mTm] at h;cases h;exact aw _
 |f+1,j,l,t,n,h=>by
  rw[mTm] at h;split at h
  ·cases hp:pk zX l with
   |none=>rw[hp] at h;cases h
   |some x=>
    obtain⟨i,y⟩:=x;rw[hp] at h;have h1:=(EY hp).1;have:=W1 (f:=f) h;omega
  ·cases h;exact aw _
theorem QT {l:List UInt8} {s:Stop} (h:mGS l=some (s,t)):t.length<l.length:=by
 unfold mGS at h;split at h
 ·cases hs:sk ("-":Str).cps.toList l with
  |none=>rw[hs] at h;cases h
  |some x=>
   obtain⟨_,y⟩:=x;simp only[hs] at h;cases hp:mBN y with
   |none=>rw[hp] at h;cases h
   |some x=>
    obtain⟨i,v⟩:=x;rw[hp] at h;cases h;have h1:y.length+1=l.length:=BN hs;have:=MV hp;omega
 ·split at h
  ·cases hp:pk "54321" l with
   |none=>rw[hp] at h;cases h
   |some x=>obtain⟨i,y⟩:=x;rw[hp] at h;cases h;have:=(EY hp).1;omega
  ·split at h
   ·cases hp:pk zP l with
    |none=>rw[hp] at h;cases h
    |some x=>obtain⟨i,y⟩:=x;rw[hp] at h;cases h;have:=(EY hp).1;omega
   ·unfold mCr at h;cases hp:pk zX l with
    |none=>rw[hp] at h;cases h
    |some x=>
     obtain⟨i,y⟩:=x;simp only[hp] at h;cases hm:mTm (bt l) 2 0 y with
     |none=>rw[hm] at h;cases h
     |some x=>
      obtain⟨j,v⟩:=x;rw[hm] at h;cases h;have:=(EY hp).1;have:=W1 hm;omega
section
variable {P:bb} {w:cb} {K:aa} {mg:Str->Option ah} {base:cr} {C CI CT:ag} {dz fz:Str}
theorem VD:FnScope ["reader","stops","start"] ["reader"] (AH DG):={}
theorem kL (F:Fun K "read_german_stops" "read_german_stops" DG f fd) (R:RdE P w K mg base C CT dz)
 (D2:Def P w K mg base 6 "read_german_stop" ["reader"] (FI K C CT λl=>sT (mGS l))) (D3:Def P w K mg base 3 "add_stop" ["stops","stop","start"] (WY K CT)):
 FnOk P w K mg base (CX1 P w) 7 f fd ["reader"] (YU K C CT mGr):=by
 refine F.okx VD λDk A outer s H vs Q E hr h=>?_;obtain⟨r,ta,cs,e,Dg,rfl,Rr,hcs,k⟩:=h;refine⟨_,(AB (AU (BK R hr AD (pv 0) AV (oks (by decide +kernel))) (AB (BL R hr AD (pv 0) AV (oks (by decide +kernel)))
  (AC (AJ (DL AF)))) AK)
  (AB (AZ 1 VD (DL AF))
  (AC (B8 bh (CS G2)
  (AB (AZ 2 VD (B5 R (pv 0)))
  (AB (AY (D3.call hr AD (AA (pv 1) (AA (GZ D2 hr AD (pv 0)) (AA (pv 2) AF)))))
  (AB (AU (DT (BK R hr AD (pv 0) AV (oks (by decide +kernel)))) (AC (AJ (pv 1))) AK)
  (AC (BL R hr AD (pv 0) AV (oks (by decide +kernel))))))))))),?_⟩
 and_intros
 unfold mGr at k;refine⟨_,rfl,r,ta,cs,e,Dg,rfl,Rr,λH1 s1=>?_⟩;have R1:=Rr.same s1;cases h1:see "." Dg with
 |true=>
  rw[Dm h1] at k;refine BS ⟨_,rfl,r,ta,cs,e,Dg,rfl,R1,?_⟩;cases hs:sk (".":Str).cps.toList Dg with
  |none=>simp only[hs] at k;exact AL rfl k
  |some x=>
   obtain⟨_,t⟩:=x;simp only[hs] at k;refine AM rfl λH2 R2 s2=>⟨du _,λsa nsa=>?_⟩
   have sv:Same H2 (upd H2 sa (.lst [])):=Same.upd nsa;have s12:Sb r H H2:=s1.sb.trans s2;refine k _ sa (R2.same sv) (s12.trans sv.sb) ?_ ⟨[],upd_same,.nil⟩;cases hq:H sa with
   |none=>rfl
   |some o=>
    by_cases q:sa=r
    ·obtain⟨dr,p,ir⟩:=R2.ins;rw[q,ir] at nsa;cases nsa
    ·rw[s12 sa o hq q] at nsa;cases nsa
 |false=>
  rw[Dn (by rw[h1];decide)] at k;refine BH ⟨du _,λsa nsa1=>?_⟩;have nsa:H sa=none:=by
   cases hq:H sa with
   |none=>rfl
   |some o=>rw[s1 sa o hq] at nsa1;cases nsa1
  have sv:Same H1 (upd H1 sa (.lst [])):=Same.upd nsa1;have ttx:ta≠sa\/KTx K ta (cs.map cV):=HR Rr.tx nsa;obtain⟨M,hM⟩:∃M,M=mGl (Dg.length+1) [] Dg:=⟨_,rfl⟩
  rw[←hM] at k;have hr0:=Rr.rl;refine⟨λm σ H'=>Ex4 λ(Dh:List UInt8) (acc:List Stop) (g:Nat) (r2:Option V)=>σ=[some (.ref r),some (.ref sa),r2]/\Sb r H H'/\Rd K C H' r ta cs e Dh/\LT K H' sa (acc.map sL)/\M=mGl g acc Dh/\Dh.length<g/\acc.length+Dh.length<=Dg.length/\m=Dh.length,
   ⟨Dg.length,Dg,[],Dg.length+1,none,rfl,(s1.trans sv).sb,R1.same sv,⟨[],upd_same,.nil⟩,hM,by omega,by simp,rfl⟩,?_⟩
  rintro m σ H2 ⟨Dh,acc,g,r2,rfl,s2,R2,L2,em,hg,ha,rfl⟩;obtain⟨g,rfl⟩:∃g',g=g'+1:=⟨g - 1,by omega⟩
  rw[mGl] at em;refine⟨_,rfl,DZ ?_⟩
  and_intros
  refine⟨_,rfl,r,ta,cs,e,Dh,rfl,R2,λst=>?_⟩;obtain⟨dr2,p2,ir2⟩:=R2.ins;refine⟨_,rfl,_,rfl,r,ta,cs,e,Dh,rfl,R2,?_⟩;cases hb:mGS Dh with
  |none=>simp only[hb] at em;rw[em] at k;exact EG (by show sT (mGS Dh)=_;rw[hb];rfl) k
  |some x=>
   obtain⟨s,u⟩:=x;simp only[hb] at em;refine EH (by show sT (mGS Dh)=_;rw[hb];rfl) λH3 pa R3 s3 hp=>⟨_,rfl,?_⟩
   have L3:=L2.sb s3 ir2;have hl:=QT hb;refine⟨sa,pa,acc,s,st,rfl,L3,hp,by omega,?_⟩;cases ho:DB acc s with
   |false=>
    rw[Dn (by rw[ho];decide)] at em;rw[em] at k;exact BH (k st)
   |true=>
    rw[Dm ho] at em;refine BS λH4 L4 s4=>?_;have q3:Sb r H H3:=s2.trans s3;have q4:Sb r H H4:=λb' o eb hb'=>s4 b' o (q3 b' o eb hb') (AG eb nsa);have R4:Rd K C H4 r ta cs e u:=by
     obtain⟨as,a1,_⟩:=L3;exact R3.app a1 ttx s4
    refine⟨_,rfl,r,ta,cs,e,u,rfl,R4,λH5 s5=>?_⟩;have R5:=R4.same s5;have L5:LT K H5 sa ((acc++[s]).map sL):=(Same.kp s5).lt L4;cases hs:see " " u with
    |false=>
     rw[Dn (by rw[hs];decide)] at em;rw[em] at k;exact BS ⟨_,rfl,k H5 sa R5 (q4.trans s5.sb) nsa L5⟩
    |true=>
     rw[Dm hs] at em;refine BH ⟨_,rfl,r,ta,cs,e,u,rfl,R5,?_⟩;cases hk:sk (" ":Str).cps.toList u with
     |none=>simp only[hk] at em;rw[em] at k;exact AL rfl k
     |some x=>
      obtain⟨_,v⟩:=x;simp only[hk] at em;obtain⟨dr5,p5,ir5⟩:=R5.ins;have hl1:v.length+1=u.length:=BN hk;refine AM rfl λH6 R6 s6=>⟨v.length,by omega,v,acc++[s],g,_,rfl,(q4.trans s5.sb).trans s6,R6,L5.sb s6 ir5,em,by omega,?_,rfl⟩
      rw[bp];simp;omega
def mSt (kd:Nat) (l:List UInt8):Option (List Stop×List UInt8):=if kd=0 then mFr l else if kd=1 then mIt l else mGr l
def gY (K:aa) (C CT:ag):Sp:=λvs H Q E=>Ex6 λ(r ta:ag) (cs:List UInt8) (e:Nat) (Dg:List UInt8) (kd:Nat)=>vs=[.ref r,.int (kd:Nat)]/\Rd K C H r ta cs e Dg/\cs.length<=100000/\U0 K C CT r ta cs e H Q E (mSt kd Dg)
theorem kM:FnScope ["reader","kind"] ["reader","kind"] (AH GV):={}
theorem kN (F:Fun K "read_stops" "read_stops" GV f fd) (g0:GI mg "FRENCH" 0) (g1:GI mg "ITALIAN" 1)
 (D1:Def P w K mg base 6 "read_french_stops" ["reader"] (YU K C CT mFr)) (D2:Def P w K mg base 6 "read_italian_stops" ["reader"] (YU K C CT mIt)) (D3:Def P w K mg base 7 "read_german_stops" ["reader"] (YU K C CT mGr)):
 FnOk P w K mg base (CX1 P w) 8 f fd ["reader","kind"] (gY K C CT):=by
 refine F.okx kM λDk A outer s H vs Q E hr h=>?_;obtain⟨r,ta,cs,e,Dg,kd,rfl,Rr,hcs,k⟩:=h;refine⟨_,(AB (AU (AN CY (pv 1) (BZ g0) (AQ _)) (AC (AJ (D1.call hr AD (AA (pv 0) AF)))) AK)
  (AB (AU (AN CY (pv 1) (BZ g1) (AQ _)) (AC (AJ (D2.call hr AD (AA (pv 0) AF)))) AK)
  (AC (AJ (D3.call hr AD (AA (pv 0) AF)))))),?_⟩
 and_intros
 unfold mSt at k;refine⟨V.int (kd:Nat),rfl,rfl,_,rfl,B4 (λh0=>?_) (λh0=>?_)⟩
 ·have e0:kd=0:=by
   have q:=of_decide_eq_true h0;injection q with q;omega
  rw[Dm e0] at k;exact⟨_,rfl,r,ta,cs,e,Dg,rfl,Rr,hcs,k⟩
 ·have e0:¬kd=0:=λq=>h0 (decide_eq_true (by rw[q];rfl));rw[Dn e0] at k;refine⟨V.int (kd:Nat),rfl,rfl,_,rfl,B4 (λh1=>?_) (λh1=>?_)⟩
  ·have e1:kd=1:=by
    have q:=of_decide_eq_true h1;injection q with q;omega
   rw[Dm e1] at k;exact⟨_,rfl,r,ta,cs,e,Dg,rfl,Rr,hcs,k⟩
  ·have e1:¬kd=1:=λq=>h1 (decide_eq_true (by rw[q];rfl));rw[Dn e1] at k;exact⟨_,rfl,r,ta,cs,e,Dg,rfl,Rr,hcs,k⟩
end
open PySem PySem.Spec PyProof.Rows L2
def lnf (n:Int) (sa:ag):List (Str×V):=[("length",.int n),("stops",.ref sa)]
theorem W2 (n:Int) (sa:ag):(lnf n sa).lookup ("length":Str)=some (.int n):=rfl
theorem W3 (n:Int) (sa:ag):(lnf n sa).lookup ("stops":Str)=some (.ref sa):=rfl
theorem bC (n:Int) (sa:ag) {m:Str} (h1:(m=="length")=false) (h2:(m=="stops")=false):(lnf n sa).lookup m=none:=by
 unfold lnf;simp only[jk,h1,h2]
structure LnC (K:aa) (CL:ag):Prop where
 cl:Cls K CL
 nl:NoAttr K CL "length"
 ns:NoAttr K CL "stops"
def kO (CL:ag):Sp:=λvs H Q _=>Ex4 λ(x dx sa:ag) (n:Int)=>vs=[.ref x,.int n,.ref sa]/\H x=some (.ins CL dx [])/\∀H',H' x=some (.ins CL dx (lnf n sa))->Sb x H H'->Q .non H'
def bD (CL:ag):Sp:=λvs H Q _=>Ex4 λ(x dx sa:ag) (n:Int)=>vs=[.ref x]/\H x=some (.ins CL dx (lnf n sa))/\Q (.bl (decide (n=0))) H
def hd1 (z:Str):Str:=⟨#[z.cps.toList.headD 0]⟩
def mKd:List Str->Nat->List UInt8->Option (Nat×List UInt8)
 |[],_,_=>none
 |z::zs,i,l=>if see (hd1 z) l=true then(match sk z.cps.toList l with
  |none=>none
  |some (_,t)=>some (i,t)) else mKd zs (i+1) l
def kws:List Str:=["french\n","italian\n","german\n"]
def zL:Str:="xtseqhw"
def lens:List Int:=[1,2,4,8,16,32,64]
def mLn (before:Nat) (l:List UInt8):Option (Nat×List UInt8):=if see " " l=true then(if before=0 then none else match sk (" ":Str).cps.toList l with
 |none=>none
 |some (_,t)=>some (before,t))
 else match pk zL l with
  |none=>none
  |some (i,t)=>if 0<i/\see "." t=true then(match sk (".":Str).cps.toList t with
   |none=>none
   |some (_,u)=>match sk (" ":Str).cps.toList u with
    |none=>none
    |some (_,v)=>if 2 ^ i+2 ^ i / 2=before then none else some (2 ^ i+2 ^ i / 2,v))
   else match sk (" ":Str).cps.toList t with
    |none=>none
    |some (_,v)=>if 2 ^ i=before then none else some (2 ^ i,v)
def gZ (K:aa) (C CT:ag):Sp:=λvs H Q E=>Ex6 λ(r ta:ag) (cs:List UInt8) (e:Nat) (Dg:List UInt8) (b:Nat)=>vs=[.ref r,.int (b:Nat)]/\Rd K C H r ta cs e Dg/\Got K C CT r ta cs e H Q E DS (mLn b Dg)
theorem eX (h:i<7):(lens.map V.int)[i]? =some (.int ((2 ^ i:Nat):Int)):=by
 match i,h with
 |0,_=>rfl
 |1,_=>rfl
 |2,_=>rfl
 |3,_=>rfl
 |4,_=>rfl
 |5,_=>rfl
 |6,_=>rfl
section
variable {P:bb} {w:cb} {K:aa} {mg:Str->Option ah} {base:cr} {C CL CT:ag} {dz fz:Str}
theorem qC:FnScope ["self","length","stops"] ["self","length","stops"] (AH HM):={}
theorem qD (F:Fun K "__init__" "Line.__init__" HM f fd) (T:LnC K CL):FnOk P w K mg base (CX1 P w) 1 f fd ["self","length","stops"] (kO CL):=by
 refine F.okx qC λDk A outer s H vs Q E hr h=>?_;obtain⟨x,dx,sa,n,rfl,hx,k⟩:=h;refine⟨_,(AB (C5 (pv 0) (pv 1) rfl)
  (AC (C5 (pv 0) (pv 2) rfl))),?_⟩
 and_intros
 refine⟨_,rfl,_,rfl,x,CL,dx,[],rfl,hx,T.cl,T.nl,(by decide),?_⟩;refine⟨_,rfl,_,rfl,x,CL,dx,_,rfl,upd_same,T.cl,T.ns,(by show 1<1000;decide),?_⟩;exact k _ upd_same λb o e hb=>by rw[AE hb,AE hb];exact e
theorem qE:FnScope ["self"] ["self"] (AH GA):={}
theorem qF (F:Fun K "is_bar" "Line.is_bar" GA f fd) (T:LnC K CL):FnOk P w K mg base (CX1 P w) 1 f fd ["self"] (bD CL):=by
 refine F.okx qE λDk A outer s H vs Q E hr h=>?_;obtain⟨x,dx,sa,n,rfl,hx,k⟩:=h;refine⟨_,(AC (AJ (DI CY (AT (pv 0) rfl) AI (AQ _)))),?_⟩
 subst_eqs
 refine⟨_,rfl,x,CL,dx,_,_,rfl,hx,T.cl,T.nl,W2 _ _,rfl,?_⟩;have e0:decide (V.int n=V.int 0)=decide (n=0):=by
  rw[decide_eq_decide];exact⟨λq=>by injection q,λq=>by rw[q]⟩
 show Q (V.bl (decide (V.int n=V.int 0))) H;rw[e0];exact k
theorem bE:FnScope ["reader","kind","word"] ["reader"] (AH HN):={}
theorem kP (h:z∈kws):OkS (hd1 z)/\OkS z/\z.length<=100/\z.cps.toList[0]? =some (z.cps.toList.headD 0):=by
 have:z="french\n"\/z="italian\n"\/z="german\n":=by simpa [kws] using h
 rcases this with rfl|rfl|rfl
 ·exact⟨oks (by decide +kernel),oks (by decide +kernel),by decide +kernel,rfl⟩
 ·exact⟨oks (by decide +kernel),oks (by decide +kernel),by decide +kernel,rfl⟩
 ·exact⟨oks (by decide +kernel),oks (by decide +kernel),by decide +kernel,rfl⟩
theorem qG (F:Fun K "read_kind" "read_kind" HN f fd) (B:Blt mg) (R:RdE P w K mg base C CT dz) (gk:GT K mg "KIND_WORDS" (kws.map V.str)):FnOk P w K mg base (CX1 P w) 5 f fd ["reader"] (G0 K C CT (mKd kws 0) DS):=by
 refine F.okx bE λDk A outer s H vs Q E hr h=>?_;obtain⟨r,ta,cs,e,Dg,rfl,Rr,k⟩:=h;refine⟨_,(AB (BR bh rfl (SE (by rfl) B.enum (AA (O9 gk) AF)) (G3 rfl (BT (C0 1 bE) (BT (C0 2 bE) FO)))
  (AC (AU (CS (R.se.call (pv 0) hr AD (AA (BI i8 (pv 2) AI (λ_ _=>rfl)) AF))) (AB (AY (R.sk.call (pv 0) hr AD (AA (pv 2) AF)))
  (AC (AJ (pv 1)))) AK)))
  (AC (BF R.X1 hr AD rfl (B5 R (pv 0))))),?_⟩
 and_intros
 intro ka hka;obtain⟨M,hM⟩:∃M,M=mKd kws 0 Dg:=⟨_,rfl⟩
 have k:Got K C CT r ta cs e H Q E DS M:=by rw[hM];exact k
 refine⟨ka,kws.map V.str,rfl,hka _,E3 (n:=3) (λi σ H'=>Same H H'/\(Ex2 λr1 r2=>σ=[some (.ref r),r1,r2])/\i<=3/\M=mKd (kws.drop i) i Dg) ⟨Same.refl _,⟨none,none,rfl⟩,by omega,hM⟩ ?_ ?_ ?_ ?_⟩
 ·rintro i σ H' hi _;have Dl:i<kws.length:=hi;exact⟨kws.map V.str,.str kws[i],hka H',by rw[au,aj Dl];rfl⟩
 ·rintro σ H' _;exact⟨kws.map V.str,hka H',rfl⟩
 ·rintro i v σ H1 H2 hi ⟨s1,⟨r1,r2,rfl⟩,_,em⟩ ⟨T,xv,rfl,nT,rfl,hxv⟩;have Dl:i<kws.length:=hi;have hxv':=hxv _ (hka H1);rw[au,aj Dl] at hxv';cases hxv';obtain⟨z,hz⟩:∃z,z=kws[i]:=⟨_,rfl⟩
  rw[←hz];obtain⟨o1,o2,o3,o4⟩:=kP (z:=z) (by rw[hz];exact jb _);have ed:kws.drop i=z::kws.drop (i+1):=by rw[gy Dl,hz]
  rw[ed,mKd] at em;have s2:Same H (upd H1 T (.tup [.int (i:Nat),.str z])):=s1.trans (Same.upd nT);have R2:=Rr.same s2;obtain⟨dr,p,ir⟩:=R2.ins;refine⟨T,_,rfl,SqT.of upd_same,rfl,_,_,rfl,_,_,rfl,rfl,?_⟩;refine⟨V.ref r,rfl,r,dr,_,rfl,ir,WM _ _ _,V.str z,rfl,z,0,_,rfl,rfl,(by rw[cf];omega),DU (j:=0) o4,r,ta,cs,e,Dg,hd1 z,rfl,R2,o1,λH3 s3=>⟨_,rfl,?_⟩⟩;have R3:=R2.same s3;cases hs:see (hd1 z) Dg with
  |false=>
   rw[Dn (by rw[hs];decide)] at em;exact BH ⟨s2.trans s3,⟨_,_,rfl⟩,by omega,em⟩
  |true=>
   rw[Dm hs] at em;obtain⟨dr3,p3,ir3⟩:=R3.ins;refine BS ⟨V.ref r,rfl,r,dr3,_,rfl,ir3,QM _ _ _,V.str z,rfl,r,ta,cs,e,Dg,z,rfl,R3,o2,?_⟩;cases hk:sk z.cps.toList Dg with
   |none=>rw[hk] at em;rw[em] at k;exact AL rfl k
   |some x=>
    obtain⟨_,t⟩:=x;rw[hk] at em;rw[em] at k;exact AM rfl λH4 R4 s4=>⟨V.int (i:Nat),rfl,k H4 R4 ((s2.trans s3).sb.trans s4)⟩
 ·rintro σ H1 ⟨s1,⟨r1,r2,rfl⟩,_,em⟩;have e3:kws.drop 3=[]:=rfl;rw[e3,mKd] at em;rw[em] at k;exact⟨V.ref r,rfl,r,ta,cs,e,Dg,rfl,Rr.same s1,λz=>⟨z,rfl,k z⟩⟩
theorem sc_rl:FnScope ["reader","before","start","length"] ["reader","before"] (AH C9):={}
theorem qH (F:Fun K "read_length" "read_length" C9 f fd) (R:RdE P w K mg base C CT dz) (gl:GS mg "LENGTH_SIGNS" zL) (gt:GT K mg "LENGTHS" (lens.map V.int)):FnOk P w K mg base (CX1 P w) 5 f fd ["reader","before"] (gZ K C CT):=by
 refine F.okx sc_rl λDk A outer s H vs Q E hr h=>?_;obtain⟨r,ta,cs,e,Dg,b,rfl,Rr,k⟩:=h;refine⟨_,(AB (AZ 2 sc_rl (B5 R (pv 0)))
  (AB (AU (BK R hr AD (pv 0) AV (oks (by decide +kernel)))
  (AB (AU (AN CY (pv 1) AI (AQ _)) (AC (BF R.X1 hr AD rfl (pv 2))) AK)
  (AB (BL R hr AD (pv 0) AV (oks (by decide +kernel)))
  (AC (AJ (pv 1))))) AK)
  (AB (AZ 3 sc_rl (BI (FU K) (O9 gt) (E4 R hr AD (pv 0) (FH gl) (oks (by decide +kernel))) (λ_ _=>rfl)))
  (AB (AU (GO (AN EZ (pv 3) AI (AQ _)) (E1 (BK R hr AD (pv 0) AV (oks (by decide +kernel))))).pt
  (AB (BL R hr AD (pv 0) AV (oks (by decide +kernel)))
  (AC (IR (i:=3) sc_rl.nd rfl (vT rfl) (BC MD (pv 3) AI) IS))) AK)
  (AB (BL R hr AD (pv 0) AV (oks (by decide +kernel)))
  (AB (AU (AN CY (pv 3) (pv 1) (AQ _)) (AC (BF R.X1 hr AD rfl (pv 2))) AK)
  (AC (AJ (pv 3))))))))),?_⟩
 and_intros
 unfold mLn at k;refine⟨_,rfl,r,ta,cs,e,Dg,rfl,Rr,λst=>?_⟩;refine⟨_,rfl,r,ta,cs,e,Dg,rfl,Rr,λH1 s1=>?_⟩;have R1:=Rr.same s1;cases h1:see " " Dg with
 |true=>
  rw[Dm h1] at k;refine BS ⟨V.int (b:Nat),rfl,rfl,_,rfl,B4 (λh0=>?_) (λh0=>?_)⟩
  ·have e0:b=0:=by
    have q:=of_decide_eq_true h0;injection q with q;omega
   rw[Dm e0] at k;exact⟨V.int st,rfl,st,rfl,k st⟩
  ·have e0:¬b=0:=λq=>h0 (decide_eq_true (by rw[q];rfl));rw[Dn e0] at k;refine⟨_,rfl,r,ta,cs,e,Dg,rfl,R1,?_⟩;cases hs:sk (" ":Str).cps.toList Dg with
   |none=>rw[hs] at k;exact AL rfl k
   |some x=>
    obtain⟨_,t⟩:=x;rw[hs] at k;exact AM rfl λH2 R2 s2=>⟨V.int (b:Nat),rfl,k H2 R2 (s1.sb.trans s2)⟩
 |false=>
  rw[Dn (by rw[h1];decide)] at k;refine BH λla hla=>⟨_,rfl,r,ta,cs,e,Dg,rfl,R1,?_⟩
  cases hp:pk zL Dg with
  |none=>simp only[hp] at k;exact AL rfl k
  |some x=>
   obtain⟨i,t⟩:=x;simp only[hp] at k;have hi:i<7:=(EY hp).2;refine AM rfl λH2 R2 s2=>⟨la,_,_,_,rfl,rfl,hla _,DU (eX hi),?_⟩
   have sb2:Sb r H H2:=s1.sb.trans s2;have tail:∀(n:Nat) (H3:Hp) (t':List UInt8),Sb r H H3->Rd K C H3 r ta cs e t'->Got K C CT r ta cs e H Q E DS (match sk (" ":Str).cps.toList t' with
    |none=>none
    |some (_,v)=>if n=b then none else some (n,v))->
    (AW (NO K C CT E (BP 0) " ") (AW (TZ (RQ (tOp rEq (BP 3) (BP 1))) (KU CT E (BP 2)) V0) (RN (BP 3)))) { nx:=λ_ H'=>Q .non H',rt:=Q } [some (.ref r),some (.int (b:Nat)),some (.int st),some (.int (n:Nat))] H3:=by
    intro n H3 t' s3 R3 k;refine⟨_,rfl,r,ta,cs,e,t',rfl,R3,?_⟩;cases hs:sk (" ":Str).cps.toList t' with
    |none=>rw[hs] at k;exact AL rfl k
    |some x=>
     obtain⟨_,v⟩:=x;simp only[hs] at k;refine AM rfl λH4 R4 s4=>⟨_,rfl,_,rfl,rfl,_,rfl,B4 (λh0=>?_) (λh0=>?_)⟩
     ·have e0:n=b:=by
       have q:=of_decide_eq_true h0;injection q with q;omega
      rw[Dm e0] at k;exact⟨V.int st,rfl,st,rfl,k st⟩
     ·have e0:¬n=b:=λq=>h0 (decide_eq_true (by rw[q]));rw[Dn e0] at k;exact⟨V.int (n:Nat),rfl,k H4 R4 (s3.trans s4)⟩
   refine⟨_,rfl,_,_,rfl,rfl,_,rfl,?_⟩;by_cases h0:0<i
   ·have hgt:decide ((1:Int)<((2 ^ i:Nat):Int))=true:=decide_eq_true (by have:2 ^ 1<=2 ^ i:=mq (by decide) h0;omega);show if decide ((1:Int)<((2 ^ i:Nat):Int))=true then _ else _;rw[hgt];refine BS ⟨_,rfl,r,ta,cs,e,t,rfl,R2,λH3 s3=>?_⟩;have R3:=R2.same s3;cases h2:see "." t with
    |true=>
     rw[Dm ⟨h0,h2⟩] at k;refine BS ⟨_,rfl,r,ta,cs,e,t,rfl,R3,?_⟩;cases hs:sk (".":Str).cps.toList t with
     |none=>simp only[hs] at k;exact AL rfl k
     |some x=>
      obtain⟨_,u⟩:=x;simp only[hs] at k;refine AM rfl λH4 R4 s4=>⟨_,rfl,_,rfl,_,_,rfl,rfl,(show(0:Int)<2/\(2:Int)<1073741824 from by decide),_,_,rfl,rfl,?_⟩
      have en:(((2 ^ i:Nat):Int)+((2 ^ i:Nat):Int) / 2)=((2 ^ i+2 ^ i / 2:Nat):Int):=by omega
      have q:=tail (2 ^ i+2 ^ i / 2) H4 u ((sb2.trans s3.sb).trans s4) R4 k;rw[←en] at q;exact q
    |false=>
     rw[Dn (by rw[h2];rintro ⟨_,q⟩;cases q)] at k;exact BH (tail (2 ^ i) H3 t (sb2.trans s3.sb) R3 k)
   ·have hgt:decide ((1:Int)<((2 ^ i:Nat):Int))=false:=by
     have:i=0:=by omega
     subst this;decide
    rw[Dn (λq=>h0 q.1)] at k;refine YQ hgt (BH (tail (2 ^ i) H2 t sb2 R2 k))
end
open PySem PySem.Spec PyProof.Rows L2
def mPl (kd before:Nat) (l:List UInt8):Option (Ln×List UInt8):=if see "|" l=true then(match sk ("|\n":Str).cps.toList l with
 |none=>none
 |some (_,t)=>some ((0,[]),t))
 else match mLn before l with
  |none=>none
  |some (n,t)=>match mSt kd t with
   |none=>none
   |some (st,u)=>match sk ("\n":Str).cps.toList u with
    |none=>none
    |some (_,v)=>some ((n,st),v)
def mLs (kd:Nat):Nat->List Ln->Nat->List UInt8->Option (List Ln)
 |0,_,_,_=>none
 |f+1,acc,len,l=>if l.isEmpty=true then(if len=0 then none else some acc) else if acc.length=512 then none else match mPl kd len l with
  |none=>none
  |some ((n,st),t)=>mLs kd f (acc++[(n,st)]) (if n=0 then len else n) t
def mPc (cs:List UInt8):Option (List Ln):=match mKd kws 0 cs with
 |none=>none
 |some (kd,t)=>mLs kd (t.length+1) [] 0 t
def LnB (K:aa) (CL al:ag) (H:Hp) (x:ag) (p:Ln):Prop:=Ex2 λdx sa=>sa≠al/\H x=some (.ins CL dx (lnf (p.1:Nat) sa))/\LT K H sa (p.2.map sL)
def LnsA (K:aa) (CL:ag) (H:Hp) (al:ag) (ps:List Ln):Prop:=∃as:List ag,H al=some (.lst (as.map V.ref))/\cg (λx p=>LnB K CL al H x p) as ps
theorem kQ {n:Int} {sa:ag} {p e:Int}:lnf n sa≠rf ta p e:=by
 intro q;have:=congrArg qg q;simp[lnf,rf] at this
theorem LnB.sb {K:aa} {al dx x:ag} {p e:Int} {q:Ln} (h:LnB K CL al H x q) (s:Sb r H H') (ir:H r=some (.ins C dx (rf ta p e))):LnB K CL al H' x q:=by
 obtain⟨dl,sa,hn,h1,h2⟩:=h;exact⟨dl,sa,hn,s _ _ h1 (B6 h1 ir (by intro z;injection z with _ _ z;exact kQ z)),h2.sb s ir⟩
theorem LnB.same {K:aa} {al x:ag} {q:Ln} (h:LnB K CL al H x q) (s:Same H H'):LnB K CL al H' x q:=by
 obtain⟨dl,sa,hn,h1,h2⟩:=h;exact⟨dl,sa,hn,s _ _ h1,(Same.kp s).lt h2⟩
theorem LT.sbl {K:aa} {al:ag} (h:LT K H a ls) (s:Sb al H H') (hal:H al=some (.lst xs)) (n:a≠al):LT K H' a ls:=by
 obtain⟨as,h1,h2⟩:=h;exact⟨as,s _ _ h1 n,AR h2 λ_ _ q=>Sb.nt s hal q⟩
theorem LnB.app {K:aa} {al x:ag} {q:Ln} (h:LnB K CL al H x q) (s:Sb al H H') (hal:H al=some (.lst xs)):LnB K CL al H' x q:=by
 obtain⟨dl,sa,hn,h1,h2⟩:=h;exact⟨dl,sa,hn,s _ _ h1 (B6 h1 hal (by intro z;cases z)),h2.sbl s hal hn⟩
theorem LnsA.same {K:aa} {al:ag} {ps:List Ln} (h:LnsA K CL H al ps) (s:Same H H'):LnsA K CL H' al ps:=let ⟨as,h1,h2⟩:=h;⟨as,s _ _ h1,AR h2 λ_ _ q=>q.same s⟩
theorem LnsA.sb {K:aa} {al dx:ag} {p e:Int} {ps:List Ln} (h:LnsA K CL H al ps) (s:Sb r H H') (ir:H r=some (.ins C dx (rf ta p e))):LnsA K CL H' al ps:=
 let ⟨as,h1,h2⟩:=h;⟨as,s _ _ h1 (B6 h1 ir (by intro z;cases z)),AR h2 λ_ _ q=>q.sb s ir⟩
def kR (K:aa) (CR CL CT r ta:ag) (cs:List UInt8) (e:Nat) (H:Hp) (Q:VK) (E:XK):Option (Ln×List UInt8)->Prop
 |some (p,Dh)=>∀H' x dx sa,Rd K CR H' r ta cs e Dh->Sb r H H'->H sa=none->H' x=some (.ins CL dx (lnf (p.1:Nat) sa))->LT K H' sa (p.2.map sL)->Q (.ref x) H'
 |none=>∀z:Int,E (.ref CT) none (xH [("place",.int z)])
theorem YV {K:aa} {res:Option (Ln×List UInt8)} (h:res=none) (k:∀z:Int,E (.ref CT) none (xH [("place",.int z)])):kR K CR CL CT r ta cs e H Q E res:=by
 rw[h];exact k
theorem YW {K:aa} {res:Option (Ln×List UInt8)} {p:Ln} (h:res=some (p,t)) (k:∀H' x dx sa,Rd K CR H' r ta cs e t->Sb r H H'->H sa=none->H' x=some (.ins CL dx (lnf (p.1:Nat) sa))->LT K H' sa (p.2.map sL)->Q (.ref x) H'):kR K CR CL CT r ta cs e H Q E res:=by
 rw[h];exact k
def qI (K:aa) (C CL CT:ag):Sp:=λvs H Q E=>Ex7 λ(r ta:ag) (cs:List UInt8) (e:Nat) (Dg:List UInt8) (kd b:Nat)=>vs=[.ref r,.int (kd:Nat),.int (b:Nat)]/\Rd K C H r ta cs e Dg/\cs.length<=100000/\kR K C CL CT r ta cs e H Q E (mPl kd b Dg)
theorem bF {o:HO} (s:Sb r H H') (hr:H' r=some o) (n:H' a=none):H a=none:=by
 cases hq:H a with
 |none=>rfl
 |some o'=>
  by_cases q:a=r
  ·rw[q,hr] at n;cases n
  ·rw[s a o' hq q] at n;cases n
section
variable {P:bb} {w:cb} {K:aa} {mg:Str->Option ah} {base:cr} {C CL CT:ag} {dz fz:Str}
theorem bG:FnScope ["reader","kind","before","length","stops"] ["reader","kind","before"] (AH DR):={}
theorem qJ (F:Fun K "read_line" "read_line" DR f fd) (R:RdE P w K mg base C CT dz) (ML:Mkr P w K mg base 1 CL "Line" ["self","length","stops"] (kO CL))
 (D1:Def P w K mg base 5 "read_length_pieces" ["reader","before"] (gZ K C CT)) (D2:Def P w K mg base 8 "read_stops" ["reader","kind"] (gY K C CT)):FnOk P w K mg base (CX1 P w) 9 f fd ["reader","kind","before"] (qI K C CL CT):=by
 refine F.okx bG λDk A outer s H vs Q E hr h=>?_;obtain⟨r,ta,cs,e,Dg,kd,b,rfl,Rr,hcs,k⟩:=h;refine⟨_,(AB (AU (BK R hr AD (pv 0) AV (oks (by decide +kernel))) (AB (BL R hr AD (pv 0) AV (oks (by decide +kernel)))
  (AC (AJ (ML.call hr AD (AA AI (AA (DL AF) AF)))))) AK)
  (AB (AZ 3 bG (D1.call hr AD (AA (pv 0) (AA (pv 2) AF))))
  (AB (AZ 4 bG (D2.call hr AD (AA (pv 0) (AA (pv 1) AF))))
  (AB (BL R hr AD (pv 0) AV (oks (by decide +kernel)))
  (AC (AJ (ML.call hr AD (AA (pv 3) (AA (pv 4) AF))))))))),?_⟩
 and_intros
 unfold mPl at k;refine⟨_,rfl,r,ta,cs,e,Dg,rfl,Rr,λH1 s1=>?_⟩;have R1:=Rr.same s1;cases h1:see "|" Dg with
 |true=>
  rw[Dm h1] at k;refine BS ⟨_,rfl,r,ta,cs,e,Dg,rfl,R1,?_⟩;cases hs:sk ("|\n":Str).cps.toList Dg with
  |none=>simp only[hs] at k;exact AL rfl k
  |some x=>
   obtain⟨_,t⟩:=x;simp only[hs] at k;refine AM rfl λH2 R2 s2=>⟨du _,λsa nsa x dx nx nd hne=>⟨x,dx,sa,0,rfl,upd_same,λH3 h3 s3=>⟨rfl,?_⟩⟩⟩
   have s02:Sb r H H2:=s1.sb.trans s2;obtain⟨dr,p,ir⟩:=R2.ins;have sv:Same H2 (upd H2 sa (.lst [])):=Same.upd nsa;have sm:Same (upd H2 sa (.lst [])) H3:=B0 nx nd s3 Sb.refl;refine k H3 x dx sa ((R2.same sv).same sm) (s02.trans (sv.trans sm).sb) (bF s02 ir nsa) h3 ⟨[],sm _ _ upd_same,.nil⟩
 |false=>
  rw[Dn (by rw[h1];decide)] at k;refine BH ⟨_,rfl,_,rfl,r,ta,cs,e,Dg,b,rfl,R1,?_⟩;cases hl:mLn b Dg with
  |none=>simp only[hl] at k;exact AL rfl k
  |some x=>
   obtain⟨n,t⟩:=x;simp only[hl] at k;refine AM rfl λH2 R2 s2=>⟨_,rfl,_,rfl,r,ta,cs,e,t,kd,rfl,R2,hcs,?_⟩
   have s02:Sb r H H2:=s1.sb.trans s2;obtain⟨dr2,p2,ir2⟩:=R2.ins;cases hm:mSt kd t with
   |none=>simp only[hm] at k;exact K3 rfl k
   |some x=>
    obtain⟨l,u⟩:=x;simp only[hm] at k;refine K4 rfl λH3 sa R3 s3 nsa L3=>⟨_,rfl,r,ta,cs,e,u,rfl,R3,?_⟩
    obtain⟨dr3,p3,ir3⟩:=R3.ins;cases hs:sk ("\n":Str).cps.toList u with
    |none=>simp only[hs] at k;exact AL rfl k
    |some x=>
     obtain⟨_,v⟩:=x;simp only[hs] at k;refine AM rfl λH4 R4 s4=>⟨_,rfl,_,rfl,λx dx nx nd hne=>⟨x,dx,sa,n,rfl,upd_same,λH5 h5 s5=>⟨rfl,?_⟩⟩⟩
     have L4:=L3.sb s4 ir3;have sm:Same H4 H5:=B0 nx nd s5 Sb.refl;exact k H5 x dx sa (R4.same sm) (((s02.trans s3).trans s4).trans sm.sb) (bF s02 ir2 nsa) h5 ((Same.kp sm).lt L4)
end
theorem W4 {b:Nat} {l:List UInt8} (h:mLn b l=some (n,t)):t.length<l.length:=by
 unfold mLn at h;split at h
 ·split at h
  ·cases h
  ·cases hs:sk (" ":Str).cps.toList l with
   |none=>rw[hs] at h;cases h
   |some x=>
    obtain⟨_,y⟩:=x;rw[hs] at h;cases h;have:t.length+1=l.length:=BN hs;omega
 ·cases hp:pk zL l with
  |none=>rw[hp] at h;cases h
  |some x=>
   obtain⟨i,y⟩:=x;have h1:=(EY hp).1;simp only[hp] at h;split at h
   ·cases hs:sk (".":Str).cps.toList y with
    |none=>rw[hs] at h;cases h
    |some x=>
     obtain⟨_,u⟩:=x;have h2:u.length+1=y.length:=BN hs;simp only[hs] at h;cases hs2:sk (" ":Str).cps.toList u with
     |none=>rw[hs2] at h;cases h
     |some x=>
      obtain⟨_,v⟩:=x;have h3:v.length+1=u.length:=BN hs2;simp only[hs2] at h;split at h
      ·cases h
      ·cases h;omega
   ·cases hs2:sk (" ":Str).cps.toList y with
    |none=>rw[hs2] at h;cases h
    |some x=>
     obtain⟨_,v⟩:=x;have h3:v.length+1=y.length:=BN hs2;simp only[hs2] at h;split at h
     ·cases h
     ·cases h;omega
theorem QU {m:List UInt8->Option (Nat×List UInt8)} (hm:∀{l t n},m l=some (n,t)->t.length<l.length):∀{f:Nat} {acc s:List Stop} {l t:List UInt8},mBs m f acc l=some (s,t)->t.length<=l.length
 |0,_,_,_,_,h=>by rw[mBs] at h;cases h
 |f+1,acc,s,l,t,h=>by
  rw[mBs] at h;split at h
  ·cases hs:sk (" ":Str).cps.toList l with
   |none=>rw[hs] at h;cases h
   |some x=>
    obtain⟨_,y⟩:=x;have h2:y.length+1=l.length:=BN hs;simp only[hs] at h;cases hq:m y with
    |none=>rw[hq] at h;cases h
    |some x=>
     obtain⟨b,u⟩:=x;have h3:=hm hq;simp only[hq] at h;split at h
     ·have:=QU hm h;omega
     ·cases h
  ·cases h;exact aw _
theorem W5:∀{f:Nat} {acc s:List Stop} {l t:List UInt8},mGl f acc l=some (s,t)->t.length<=l.length
 |0,_,_,_,_,h=>by rw[mGl] at h;cases h
 |f+1,acc,s,l,t,h=>by
  rw[mGl] at h;cases hq:mGS l with
  |none=>rw[hq] at h;cases h
  |some x=>
   obtain⟨b,u⟩:=x;have h3:=QT hq;simp only[hq] at h;split at h
   ·split at h
    ·cases hs:sk (" ":Str).cps.toList u with
     |none=>rw[hs] at h;cases h
     |some x=>
      obtain⟨_,y⟩:=x;have h2:y.length+1=u.length:=BN hs;simp only[hs] at h;have:=W5 h;omega
    ·cases h;omega
   ·cases h
theorem W6 {kd:Nat} {l:List UInt8} {s:List Stop} (h:mSt kd l=some (s,t)):t.length<=l.length:=by
 unfold mSt at h;split at h
 ·unfold mFr at h;cases hn:B7 zF [1,2,3,4,5,6] l with
  |none=>rw[hn] at h;cases h
  |some x=>
   obtain⟨q,y⟩:=x;have h1:=(GL hn).1;simp only[hn] at h;have:=QU QS h;omega
 ·split at h
  ·unfold mIt at h;cases hn:B7 zI [6,5,4,3,2,1] l with
   |none=>rw[hn] at h;cases h
   |some x=>
    obtain⟨q,y⟩:=x;have h1:=(GL hn).1;simp only[hn] at h;have:=QU MV h;omega
  ·unfold mGr at h;split at h
   ·cases hs:sk (".":Str).cps.toList l with
    |none=>rw[hs] at h;cases h
    |some x=>
     obtain⟨_,y⟩:=x;have h2:y.length+1=l.length:=BN hs;simp only[hs] at h;cases h;omega
   ·exact W5 h
theorem eY {kd b:Nat} {l:List UInt8} {p:Ln} (h:mPl kd b l=some (p,t)):t.length<l.length:=by
 unfold mPl at h;split at h
 ·cases hs:sk ("|\n":Str).cps.toList l with
  |none=>rw[hs] at h;cases h
  |some x=>
   obtain⟨_,y⟩:=x;have h2:y.length+2=l.length:=BN hs;simp only[hs] at h;cases h;omega
 ·cases hn:mLn b l with
  |none=>rw[hn] at h;cases h
  |some x=>
   obtain⟨n,y⟩:=x;have h1:=W4 hn;simp only[hn] at h;cases hm:mSt kd y with
   |none=>rw[hm] at h;cases h
   |some x=>
    obtain⟨st,u⟩:=x;have h2:=W6 hm;simp only[hm] at h;cases hs:sk ("\n":Str).cps.toList u with
    |none=>rw[hs] at h;cases h
    |some x=>
     obtain⟨_,v⟩:=x;have h3:v.length+1=u.length:=BN hs;simp only[hs] at h;cases h;omega
open PySem PySem.Spec PyProof.Rows L2
def kT (K:aa) (CL CT:ag) (H:Hp) (Q:VK) (E:XK):Option (List Ln)->Prop
 |some ps=>∀H' al,Same H H'->LnsA K CL H' al ps->Q (.ref al) H'
 |none=>∀z:Int,E (.ref CT) none (xH [("place",.int z)])
theorem QV {K:aa} {res:Option (List Ln)} (k:kT K CL CT H Q E res) (h:res=none):∀z:Int,E (.ref CT) none (xH [("place",.int z)]):=by
 rw[h] at k;exact k
theorem kU {K:aa} {res:Option (List Ln)} {ps:List Ln} (k:kT K CL CT H Q E res) (h:res=some ps):∀H' al,Same H H'->LnsA K CL H' al ps->Q (.ref al) H':=by
 rw[h] at k;exact k
def qK (K:aa) (CL CT:ag):Sp:=λvs H Q E=>Ex2 λ(ta:ag) (cs:List UInt8)=>vs=[.ref ta]/\SqL K H ta (cs.map cV)/\cs.length<=100000/\kT K CL CT H Q E (mPc cs)
theorem bH (n:Int) (sa:ag):(lnf n sa).lookup ("is_bar":Str)=none:=bC _ _ (by decide +kernel) (by decide +kernel)
def WPc (K:aa) (C CL:ag) (ta r al:ag) (cs:List UInt8) (kd:Nat) (H:Hp) (M:Option (List Ln)) (m:Nat) (σ:L2.St) (H':Hp):Prop:=
 Ex5 λ(Dg:List UInt8) (acc:List Ln) (len g:Nat) (r5:Option V)=>σ=[some (.ref ta),some (.ref r),some (.int (kd:Nat)),some (.ref al),some (.int (len:Nat)),r5]/\Same H H'/\Rd K C H' r ta cs cs.length Dg/\LnsA K CL H' al acc/\acc.length<=512/\
  M=mLs kd g acc len Dg/\Dg.length<g/\m=Dg.length
section
variable {P:bb} {w:cb} {K:aa} {mg:Str->Option ah} {base:cr} {C CL CT:ag} {dz fz:Str}
theorem NZ:FnScope ["text","reader","kind","lines","length","line"] ["text"] (AH GU):={}
theorem qL (F:Fun K "read_piece" "read_piece" GU f fd) (B:Blt mg) (R:RdE P w K mg base C CT dz) (T:LnC K CL) (gm:GI mg "MOST_LINES" 512) (MB:Mth P w K mg base 1 CL "is_bar" ["self"] (bD CL))
 (D1:Def P w K mg base 5 "read_kind" ["reader"] (G0 K C CT (mKd kws 0) DS)) (D2:Def P w K mg base 9 "read_line_pieces" ["reader","kind","before"] (qI K C CL CT)):FnOk P w K mg base (CX1 P w) 10 f fd ["text"] (qK K CL CT):=by
 refine F.okx NZ λDk A outer s H vs Q E hr h=>?_;obtain⟨ta,cs,rfl,tx,hcs,k⟩:=h;refine⟨_,(AB (AZ 1 NZ (R.mkr.call hr AD (AA (pv 0) (AA AI (AA (AX AO (by rfl) B.len cy (AA (pv 0) AF)) AF)))))
  (AB (AZ 2 NZ (KY D1 hr AD (pv 1)))
  (AB (AZ 3 NZ (DL AF))
  (AB (AZ 4 NZ AI)
  (AB (B8 bh (DT (J4 R hr AD (pv 1)))
  (AB (AU (AN CY (AX AO (by rfl) B.len cy (AA (pv 3) AF)) (BZ gm) (AQ _)) (AC (BF R.X1 hr AD rfl (B5 R (pv 1)))) AK)
  (AB (AZ 5 NZ (D2.call hr AD (AA (pv 1) (AA (pv 2) (AA (pv 4) AF)))))
  (AB (AU (DT (CS (MB.call0 (pv 5) hr AD))) (AC (AZ 4 NZ (AT (pv 5) rfl))) AK)
  (AC (AY (G7 dw fb ff CQ (pv 3) (AA (pv 5) AF))))))))
  (AB (AU (AN CY (pv 4) AI (AQ _)) (AC (BF R.X1 hr AD rfl (AX AO (by rfl) B.len cy (AA (pv 0) AF)))) AK)
  (AC (AJ (pv 3))))))))),?_⟩
 and_intros
 refine⟨V.ref ta,rfl,V.ref ta,rfl,ta,_,rfl,.inl tx,λr dr nr nd hne=>⟨r,dr,ta,0,_,rfl,upd_same,λH1 h1 s1=>⟨rfl,?_⟩⟩⟩;have sm1:Same H H1:=B0 nr nd s1 Sb.refl;have fin:∀{H2:Hp},Sb r H1 H2->Same H H2:=λs2=>B0 nr nd s1 s2;have R1:Rd K C H1 r ta cs cs.length cs:=by
  refine⟨⟨dr,0,?_,?_,du _⟩,sm1.seq tx,aw _⟩
  ·rw[h1,ai];rfl
  ·rw[ez];rfl
 unfold mPc at k;refine⟨V.ref r,rfl,r,ta,cs,cs.length,cs,rfl,R1,?_⟩;cases hl:mKd kws 0 cs with
 |none=>exact AL rfl (QV k (by rw[hl]))
 |some x=>
  obtain⟨kd,t⟩:=x;simp only[hl] at k;refine AM rfl λH2 R2 s2=>⟨du _,λal nal=>?_⟩
  have sm2:=fin s2;obtain⟨M,hM⟩:∃M,M=mLs kd (t.length+1) [] 0 t:=⟨_,rfl⟩
  rw[←hM] at k;have sv:Same H2 (upd H2 al (.lst [])):=Same.upd nal;have nal0:H al=none:=by
   cases hq:H al with
   |none=>rfl
   |some o=>rw[sm2 al o hq] at nal;cases nal
  have ttx:ta≠al\/KTx K ta (cs.map cV):=HR tx nal0;have nrb:∀{H':Hp} {b:ag} {o:HO},H b=some o->b≠r:=λe=>AG e nr;refine⟨WPc K C CL ta r al cs kd H M,⟨t.length,t,[],0,t.length+1,none,rfl,sm2.trans sv,R2.same sv,⟨[],upd_same,.nil⟩,by simp,hM,by omega,rfl⟩,?_⟩;rintro m σ H3 ⟨Dg,acc,len,g,r5,rfl,s3,R3,L3,hacc,em,hg,rfl⟩;obtain⟨g,rfl⟩:∃g',g=g'+1:=⟨g - 1,by omega⟩
  rw[mLs] at em;refine⟨V.ref r,rfl,r,ta,cs,cs.length,Dg,rfl,R3,?_⟩;rcases vV Dg.isEmpty with he|he
  ·rw[Dm he] at em;refine YQ (c:=!Dg.isEmpty) (by rw[he];rfl) ⟨_,rfl,rfl,_,rfl,B4 (λh0=>?_) (λh0=>?_)⟩
   ·have e0:len=0:=by
     have q:=of_decide_eq_true h0;injection q with q;omega
    rw[Dm e0] at em;exact⟨V.ref ta,rfl,ta,_,rfl,.inl (s3.seq tx),_,rfl,QV k em _⟩
   ·have e0:¬len=0:=λq=>h0 (decide_eq_true (by rw[q];rfl));rw[Dn e0] at em;exact⟨V.ref al,rfl,kU k em H3 al s3 L3⟩
  ·rw[Dn (by rw[he];decide)] at em;refine j7 (c:=!Dg.isEmpty) (by rw[he];rfl) ?_;obtain⟨as,a1,a2⟩:=id L3;have la:as.length=acc.length:=cn a2;refine⟨_,λ_ _ q=>q,V.ref al,rfl,al,_,rfl,.inl (SqL.of a1),rfl,_,rfl,B4 (λh0=>?_) (λh0=>?_)⟩
   ·have e0:acc.length=512:=by
     have q:=of_decide_eq_true h0;injection q with q;rw[ai] at q;omega
    rw[Dm e0] at em;exact⟨V.ref r,rfl,r,ta,cs,cs.length,Dg,rfl,R3,λz=>⟨z,rfl,QV k em z⟩⟩
   ·have e0:¬acc.length=512:=λq=>h0 (decide_eq_true (by rw[ai,la,q];rfl));rw[Dn e0] at em;refine⟨V.ref r,rfl,V.int (kd:Nat),rfl,V.int (len:Nat),rfl,r,ta,cs,cs.length,Dg,kd,len,rfl,R3,hcs,?_⟩;obtain⟨dr3,p3,ir3⟩:=R3.ins;cases hm:mPl kd len Dg with
    |none=>simp only[hm] at em;exact YV rfl (QV k em)
    |some x=>
     obtain⟨⟨n,st⟩,u⟩:=x;simp only[hm] at em;have Dl:=eY hm;refine YW rfl λH4 x dx sa R4 s4 nsa h4 Lx=>?_;have L4:=L3.sb s4 ir3;obtain⟨as4,b1,b2⟩:=id L4;have lb:as4.length=acc.length:=cn b2;have nsal:sa≠al:=λq=>by rw[q,a1] at nsa;cases nsa
     have s04:Same H H4:=λb o e=>s4 b o (s3 b o e) (AG e nr);have tail:∀len':Nat,M=mLs kd g (acc++[(n,st)]) len' u->(LB (tBM K "list" MG (BP 3) (B9 (BP 5) EQ))) { nx:=λσ' H'=>∃m',m'<Dg.length/\WPc K C CL ta r al cs kd H M m' σ' H',rt:=Q } [some (.ref ta),some (.ref r),some (.int (kd:Nat)),some (.ref al),some (.int (len':Nat)),some (.ref x)] H4:=by
      intro len' em';refine⟨V.ref al,rfl,.inl ⟨rfl,_,SqL.of b1⟩,V.ref x,rfl,al,_,_,rfl,rfl,b1,?_,?_⟩
      ·rw[ai,lb,cf];omega
      ·have su:Sb al H4 (upd H4 al (.lst (as4.map V.ref++[.ref x]))):=λb o eb hb=>by rw[AE hb];exact eb
       refine⟨u.length,Dl,u,acc++[(n,st)],len',g,_,rfl,?_,R4.app b1 ttx su,⟨as4++[x],by rw[upd_same,dh];rfl,?_⟩,?_,em',by omega,rfl⟩
       ·exact λb o e=>su b o (s04 b o e) (AG e nal0)
       ·exact FV (F:=λx p=>LnB K CL al _ x p) (LnB.app (q:=(n,st)) ⟨dx,sa,nsal,h4,Lx⟩ su b1) (AR b2 λ_ _ q=>q.app su b1)
       ·rw[bp];simp;omega
     refine⟨V.ref x,rfl,x,dx,_,rfl,h4,bH _ _,x,dx,sa,(n:Nat),rfl,h4,_,rfl,?_⟩;by_cases hn:n=0
     ·rw[Dm hn] at em;refine YQ (c:=!decide (((n:Nat):Int)=0)) (by rw[hn];rfl) (tail len em)
     ·rw[Dn hn] at em;refine j7 (c:=!decide (((n:Nat):Int)=0)) (by rw[decide_eq_false (by omega)];rfl) ⟨V.ref x,rfl,x,CL,dx,_,_,rfl,h4,T.cl,T.nl,W2 _ _,tail n em⟩
end
open PySem PySem.Spec PyProof.Rows L2
def plc (fr co ba:List (List Int)) (s:Stop):Bool:=if s.course<=co.length then decide (s.fret<=fr.length) else decide (s.course<=co.length+ba.length)&&decide (s.fret=0)
def EO (pl:Stop->Bool):Nat->List Ln->Option (Nat×Nat)
 |_,[]=>none
 |i,(_,st)::r=>match st.find? λs=>!pl s with
  |some s=>some (i,s.course)
  |none=>EO pl (i+1) r
def mfs (l c:Int):List (Str×V):=[("answer",.int (-3)),("line",.int l),("course",.int c)]
def qM (CM:ag) (H:Hp) (Q:VK) (E:XK):Option (Nat×Nat)->Prop
 |none=>∀H',Same H H'->Q .non H'
 |some (l,c)=>E (.ref CM) none (xH (mfs (l:Nat) (c:Nat)))
def g8 (K:aa) (CI CL CM:ag):Sp:=λvs H Q E=>Ex9 λ(ia af ac ab al:ag) (fr co ba:List (List Int)) (ps:List Ln)=>vs=[.ref ia,.ref al]/\InA K CI H ia af ac ab fr co ba/\LnsA K CL H al ps/\qM CM H Q E (EO (plc fr co ba) 0 ps)
def qN (K:aa) (C2:ag):Sp:=λvs H Q E=>Ex4 λ(ia ta:ag) (xs ys:List V)=>vs=[.ref ia,.ref ta]/\SqL K H ia xs/\SqL K H ta ys/\(if 4096<xs.length\/65536<ys.length then E (.ref C2) none (xH [("answer",.int (-2))]) else Q .non H)
theorem kW (af ac ab:ag):(ifs af ac ab).lookup ("has_place":Str)=none:=US _ _ _ (by decide +kernel) (by decide +kernel) (by decide +kernel)
theorem kX {CM:ag} {res:Option (Nat×Nat)} (k:qM CM H Q E res) (h:res=none):∀H',Same H H'->Q .non H':=by rw[h] at k;exact k
theorem K5 {pl:Stop->Bool}:∀{ps:List Ln} {i j:Nat},j<=ps.length->(∀(m:Nat) (p:Ln),m<j->ps[m]? =some p->(p.2.find? λs=>!pl s)=none)->EO pl i ps=EO pl (i+j) (ps.drop j)
 |ps,i,0,_,_=>by rw[List.drop_zero];rfl
 |[],i,j+1,h,_=>by simp at h
 |(n,st)::ps,i,j+1,h,hq=>by
  have h0:=hq 0 (n,st) (by omega) rfl;rw[EO,h0];have:=K5 (pl:=pl) (ps:=ps) (i:=i+1) (j:=j) (by simpa using h) λm p hm hp=>hq (m+1) p (by omega) (by simpa using hp);rw[xI,show i+(j+1)=i+1+j by omega];exact this
theorem QW {e:Expr} {ta:TE} {fld:Str} (K:aa) (he:PE X e ta) (h:X.K=K:=by rfl) (hb:jy e fld X.env (eval e X.env)=eval e X.env:=by rfl):PE X (.Attribute e fld pos) (OG K ta fld):=h▸AT he hb
section
variable {P:bb} {w:cb} {K:aa} {mg:Str->Option ah} {base:cr} {C CI CL CM CT:ag} {dz fz:Str}
theorem W7:FnScope ["instrument","lines","number","line","stop"] ["instrument","lines"] (AH HJ):={}
theorem qO (F:Fun K "check_fit" "check_fit" HJ f fd) (B:Blt mg) (T:InC K CI) (TL:LnC K CL) (MH:Mth P w K mg base 2 CI "has_place" ["self","course","fret"] (pW K CI)) (XM:XMr P w K mg base 2 CM "Misfit" ["self","line","course"] (jP CM)):
 FnOk P w K mg base (CX1 P w) 4 f fd ["instrument","lines"] (g8 K CI CL CM):=by
 refine F.okx W7 λDk A outer s H vs Q E hr h=>?_;obtain⟨ia,af,ac,ab,al,fr,co,ba,ps,rfl,I,L,k⟩:=h;refine⟨_,(AC (BR bh rfl (MJ (by rfl) B.enum (AA (pv 1) AF)) (G3 rfl (BT (C0 2 W7) (BT (C0 3 W7) FO)))
  (AC (BR bh rfl (CW (AT (pv 3) rfl)) (C0 4 W7)
   (AC (AU (DT (CS (MH.call (pv 0) hr AD (AA (BI (FU K) (pv 4) AI (λ_ _=>rfl)) (AA (BI (FU K) (pv 4) AI (λ_ _=>rfl)) AF)))))
    (AC (HC AD rfl (XM.call hr.u AD (AA (pv 2) (AA (BI (FU K) (pv 4) AI (λ_ _=>rfl)) AF))))) AK)))))),?_⟩
 subst_eqs
 obtain⟨as,a1,a2⟩:=id L;have la:as.length=ps.length:=cn a2;obtain⟨M,hM⟩:∃M,M=EO (plc fr co ba) 0 ps:=⟨_,rfl⟩
 rw[←hM] at k;obtain⟨dx,i1⟩:=I.at_;refine⟨V.ref al,rfl,al,_,rfl,SqL.of a1,E3 (n:=ps.length) (λi σ H'=>Same H H'/\(Ex3 λr2 r3 r4=>σ=[some (.ref ia),some (.ref al),r2,r3,r4])/\∀(m:Nat) (p:Ln),m<i->ps[m]? =some p->(p.2.find? λs=>!plc fr co ba s)=none) ⟨Same.refl _,⟨none,none,none,rfl⟩,λm p hm=>by omega⟩ ?_ ?_ ?_ ?_⟩
 ·rintro i σ H' hi ⟨s1,_⟩;exact⟨_,.ref (as[i]'(by omega)),SqL.of (s1 _ _ a1),by rw[au,aj (by omega)];rfl⟩
 ·rintro σ H' ⟨s1,_⟩;exact⟨_,SqL.of (s1 _ _ a1),by rw[ai,la];exact aw _⟩
 ·rintro i v σ H1 H2 hi ⟨s1,⟨r2,r3,r4,rfl⟩,hall⟩ ⟨T',xv,rfl,nT,rfl,hxv⟩;have hxv':=hxv _ (SqL.of (s1 _ _ a1));rw[au] at hxv';cases ea:as[i]? with
  |none=>rw[ea] at hxv';cases hxv'
  |some x=>
   rw[ea] at hxv';cases hxv';obtain⟨p,hp,dl,sa,_,hx,Ls⟩:=BD a2 ea;obtain⟨n,st⟩:=p;have s2:Same H (upd H1 T' (.tup [.int (i:Nat),.ref x])):=s1.trans (Same.upd nT);have hx2:=s2 _ _ hx;have Ls2:=(Same.kp s2).lt Ls;obtain⟨bs,b1,b2⟩:=id Ls2;have lb:bs.length=st.length:=by rw[cn b2,ai]
   have Dl:i<ps.length:=hi;have eM:M=EO (plc fr co ba) i ((n,st)::ps.drop (i+1)):=by
    rw[hM,K5 (i:=0) (j:=i) (by omega) hall,ke,gy Dl,(az.mp hp).2]
   refine⟨T',_,rfl,SqT.of upd_same,rfl,_,_,rfl,_,_,rfl,rfl,?_⟩;refine⟨V.ref x,rfl,x,CL,dl,_,_,rfl,hx2,TL.cl,TL.ns,W3 _ _,sa,rfl,⟨_,SqL.of b1⟩,CO (K:=K) (a:=sa) (xs:=bs.map V.ref) (λj σ H'=>Same (upd H1 T' (.tup [.int (i:Nat),.ref x])) H'/\(∃r4,σ=[some (.ref ia),some (.ref al),some (.int (i:Nat)),some (.ref x),r4])/\∀s∈st.take j,plc fr co ba s=true) ⟨Same.refl _,⟨_,rfl⟩,by simp⟩ ?_ ?_ ?_⟩
   ·rintro j σ H' _ ⟨s3,_⟩;exact SqL.of (s3 _ _ b1)
   ·rintro j y σ H3 hj ⟨s3,⟨r4,rfl⟩,ha⟩
    subst_eqs
    rw[au] at hj;cases eb:bs[j]? with
    |none=>rw[eb] at hj;cases hj
    |some b=>
     rw[eb] at hj;cases hj;obtain⟨q,hq,hb⟩:=BD b2 eb;rw[au] at hq;cases es:st[j]? with
     |none=>rw[es] at hq;cases hq
     |some s=>
      rw[es] at hq;cases hq;have s23:=s2.trans s3;have I3:=I.kp (Same.kp s23);have i3:=s23 _ _ i1;have hb3:=s3.tup hb;refine⟨V.ref ia,rfl,ia,dx,_,rfl,i3,kW _ _ _,V.ref b,rfl,b,_,0,V.int (s.course:Nat),rfl,rfl,hb3,rfl,V.ref b,rfl,b,_,1,V.int (s.fret:Nat),rfl,rfl,hb3,rfl,ia,af,ac,ab,fr,co,ba,(s.course:Nat),(s.fret:Nat),rfl,I3,_,rfl,?_⟩;have ep:(if((s.course:Nat):Int)<=co.length then decide (((s.fret:Nat):Int)<=fr.length) else decide (((s.course:Nat):Int)<=((co.length+ba.length:Nat):Int))&&decide (((s.fret:Nat):Int)=0))=plc fr co ba s:=by
       unfold plc;by_cases hc:s.course<=co.length
       ·rw[Dm hc,Dm (by omega),decide_eq_decide];omega
       ·rw[Dn hc,Dn (by omega)];congr 1
        ·rw[decide_eq_decide];omega
        ·rw[decide_eq_decide];omega
      rw[ep];cases hpl:plc fr co ba s with
      |true=>
       refine BH ⟨s3,⟨_,rfl⟩,λs' hs'=>?_⟩;rw[dq,es] at hs';rcases bu.mp hs' with hs'|hs'
       ·exact ha s' hs'
       ·have:s'=s:=by simpa using hs'
        rw[this];exact hpl
      |false=>
       have ef:(st.find? λs=>!plc fr co ba s)=some s:=by
        have hj':j<st.length:=(az.mp es).1;have ed:st=st.take j++s::st.drop (j+1):=by
         rw[←(az.mp es).2, ←gy hj',iu]
        rw[ed,qd];have e0:((st.take j).find? λs=>!plc fr co ba s)=none:=by
         rw[lv];intro s' hs';rw[ha s' hs'];decide
        rw[e0,Option.none_or,List.find?_cons_of_pos (by rw[hpl];rfl)]
       rw[eM,EO,ef] at k;refine BS ⟨V.int (i:Nat),rfl,V.ref b,rfl,b,_,0,V.int (s.course:Nat),rfl,rfl,hb3,rfl,(by show 2<=100;decide),λa ha'=>⟨a,(i:Nat),(s.course:Nat),rfl,upd_same,λH4 ⟨⟨d,dn,d0,e1,e2⟩,_⟩=>⟨rfl,a,CM,_,rfl,⟨d,dn,e1,e2⟩,XM.2.1,k⟩⟩⟩
   ·rintro σ H3 ⟨s3,⟨r4,rfl⟩,ha⟩;refine⟨s2.trans s3,⟨_,_,_,rfl⟩,λm q hm hq=>?_⟩;by_cases hmi:m=i
    ·subst hmi;rw[hp] at hq;cases hq;rw[ai,lb,ez] at ha;rw[lv];intro s' hs';rw[ha s' hs'];decide
    ·exact hall m q (by omega) hq
 ·rintro σ H1 ⟨s1,⟨r2,r3,r4,rfl⟩,hall⟩;refine kX k ?_ H1 s1;rw[hM,K5 (i:=0) (j:=ps.length) (aw _) hall,wb];rfl
theorem qP:FnScope ["i","t"] ["i","t"] (AH GB):={}
theorem qQ {C2:ag} (F:Fun K "check_sizes" "check_sizes" GB f fd) (B:Blt mg) (g1:GI mg "MOST_INSTRUMENT_BYTES" 4096) (g2:GI mg "MOST_PIECE_BYTES" 65536) (X2:XMr P w K mg base 2 C2 "TooLong" ["self"] (JZ C2 (-2))):
 FnOk P w K mg base (CX1 P w) 4 f fd ["i","t"] (qN K C2):=by
 refine F.okx qP λDk A outer s H vs Q E hr h=>?_;obtain⟨ia,ta,xs,ys,rfl,hx,hy,k⟩:=h;refine⟨_,(AC (AU (OR (AN EZ (AX AO (by rfl) B.len cy (AA (pv 0) AF)) (BZ g1) (AQ _)) (KF (AN EZ (AX AO (by rfl) B.len cy (AA (pv 1) AF)) (BZ g2) (AQ _)))).pt
  (AC (HC AD rfl (X2.call0 hr.u AD))) AK)),?_⟩
 subst_eqs
 have fail:(4096<xs.length\/65536<ys.length)->∀H',(Z5 K E (NF C2 (JZ C2 (-2)) E EQ)) { nx:=λ_ H'=>Q .non H',rt:=Q } [some (.ref ia),some (.ref ta)] H':=λhq H'=>by
  rw[Dm hq] at k;refine⟨by show 0<=100;decide,λa ha=>⟨a,rfl,upd_same,λH4 ⟨⟨d,dn,d0,e1,e2⟩,_⟩=>⟨rfl,a,C2,_,rfl,⟨d,dn,e1,e2⟩,X2.2.1,k⟩⟩⟩
 refine⟨V.ref ia,rfl,ia,xs,rfl,.inl hx,_,_,rfl,rfl,_,rfl,B4 (λh0=>?_) (λh0=>?_)⟩
 ·have q:4096<xs.length:=by
   have:(4096:Int)<(xs.length:Int):=by simpa using h0
   omega
  exact BS (fail (.inl q) _)
 ·have q:¬4096<xs.length:=by
   have:¬(4096:Int)<(xs.length:Int):=by simpa using h0
   omega
  refine⟨V.ref ta,rfl,ta,ys,rfl,.inl hy,_,_,rfl,rfl,_,rfl,B4 (λh1=>?_) (λh1=>?_)⟩
  ·have q2:65536<ys.length:=by
    have:(65536:Int)<(ys.length:Int):=by simpa using h1
    omega
   exact fail (.inr q2) _
  ·have q2:¬65536<ys.length:=by
    have:¬(65536:Int)<(ys.length:Int):=by simpa using h1
    omega
   rw[Dn (by rintro (z|z);exact q z;exact q2 z)] at k;exact k
end
end Lt
end
section
namespace L2
open PySem PySem.Spec PyProof.Rows
theorem SU {X:Cx} {x:Str} {Ch:ag} {np pos:Pos} {b0:dm} {suite:List dm} {Dg:List ExceptHandler} {tb:ag->TS} {tr:TH} (hg:Gl X x) (hm:X.mg x=some (.ref Ch)) (hs:∀a,X.Ok->PSs (X.hd a) (b0::suite) (tb a)) (hr:PH X Dg tr) (hd:(x==("__debug__":Str))=false:=by decide):
 PH X (.ExceptHandler (some (.Name x np)) none (b0::suite) pos::Dg) (gL X.K Ch tb tr):=by
 intro Df s σ H D a C fs cx I n h;exact eG hg hm (λa=>hs a I.ok) hr hd Df s σ H D a C fs cx I n h
end L2
namespace Lt
open PySem PySem.Spec PyProof.Rows L2
variable {f a C CR CT r ta CI CL CN:ag} {fd:fv} {X:Cx} {x:List Int} {i n e p q:Nat} {pos:Pos} {z dz fz:Str} {xs:List V} {H H' H1:Hp} {E:XK} {cs t ci ct:List UInt8} {α β:Type} {Q:VK} {ls fr co ba:List (List Int)} {P:bb} {w:cb} {h:cr} {ps:List Str}
theorem Z1 {fs gs:List (Str×V)} (h:xH fs=xH gs):fs=gs:=by
 have:=congrFun h 0;unfold xH at this;simp at this;exact this
def qR (K:aa) (CI C6:ag) (H:Hp) (Q:VK) (E:XK):Option St3->Prop
 |some (fr,co,ba)=>∀H' ia af ac ab,Same H H'->InA K CI H' ia af ac ab fr co ba->Q (.ref ia) H'
 |none=>∀b:ag,E (.ref C6) (some b) (xH [("answer",.int (-6))])
def qS (K:aa) (CI C6:ag) (dz fz:Str):Sp:=λvs H Q E=>Ex2 λ(ta:ag) (cs:List UInt8)=>vs=[.ref ta]/\SqL K H ta (cs.map cV)/\qR K CI C6 H Q E (J6 dz fz cs)
def qT (K:aa) (CL C8:ag) (H:Hp) (Q:VK) (E:XK):Option (List Ln)->Prop
 |some ps=>∀H' al,Same H H'->LnsA K CL H' al ps->Q (.ref al) H'
 |none=>∀b:ag,E (.ref C8) (some b) (xH [("answer",.int (-8))])
def qU (K:aa) (CL C8:ag):Sp:=λvs H Q E=>Ex2 λ(ta:ag) (cs:List UInt8)=>vs=[.ref ta]/\SqL K H ta (cs.map cV)/\cs.length<=100000/\qT K CL C8 H Q E (mPc cs)
theorem bI {e:Expr} {ta:TE} {fld:Str} (K:aa) (he:PE X e ta) (h:X.K=K:=by rfl) (hb:jy e fld X.env (eval e X.env)=eval e X.env:=by rfl):PE X (.Attribute e fld pos) (WD K ta fld):=h▸eF he hb
section
variable {P:bb} {w:cb} {K:aa} {mg:Str->Option ah} {base:cr} {C CI CL CM CT C6 C8:ag} {dz fz:Str}
theorem qV:FnScope ["text"] ["text"] (AH EU):={}
theorem qW (F:Fun K "instrument_of" "instrument_of" EU f fd) (hmT:mg "TextFault"=some (.ref CT)) (hx:oe K (.ref CT) (.ref CT)=some true) (D1:Def P w K mg base 12 "read_instrument" ["text"] (gW K CI CT dz fz))
 (X6:XMr P w K mg base 2 C6 "NoInstrument" ["self"] (JZ C6 (-6))):FnOk P w K mg base (CX1 P w) 13 f fd ["text"] (qS K CI C6 dz fz):=by
 refine F.okx qV λDk A outer s H vs Q E hr h=>?_;obtain⟨ta,cs,rfl,tx,k⟩:=h;refine⟨_,(AC (UF (Eb:=λv cx _=>v= .ref CT/\cx=none/\J6 dz fz cs=none) rfl rfl (λpn E' o=>(AC (AJ (D1.call hr o (AA (pv 0) AF)))))
  (SU (by rfl) hmT (λa ok=>(AC (JT (b:=a) (Out.hd AD ok rfl rfl) rfl (X6.call0 (hr.u.mark _) (Out.hd AD ok rfl rfl))))) UE))),?_⟩
 subst_eqs
 refine⟨⟨V.ref ta,rfl,ta,cs,rfl,tx,?_⟩,λa C' fs cx σ' H1 nt eb hl=>?_⟩
 ·cases hm:J6 dz fz cs with
  |none=>exact λz=>⟨rfl,rfl,rfl⟩
  |some x=>
   obtain⟨fr,co,ba⟩:=x;rw[hm] at k;exact k
 ·obtain⟨eC,rfl,hm⟩:=eb;have eC':C'=CT:=by injection eC
  subst eC';refine⟨true,hx,λ_ H2 n2=>?_,λq=>by cases q⟩;obtain⟨T,dd,n1,n3,n4,ea,ed,et⟩:=n2;refine⟨by show 0<=100;decide,λa' ha'=>⟨a',rfl,upd_same,λH4 ⟨⟨d,dn,d0,e1,e2⟩,kp⟩=>⟨rfl,a',C6,_,rfl,⟨d,dn,e1,e2⟩,X6.2.1,?_,⟨C',_,_,kp a _ (by rw[AE (AG ea ha')];exact ea) (AG ea ha')⟩,?_⟩⟩⟩
  ·exact cw (AG ea ha')
  ·rw[hm] at k;exact k a
theorem qX:FnScope ["text"] ["text"] (AH JD):={}
theorem qY (F:Fun K "piece_of" "piece_of" JD f fd) (hmT:mg "TextFault"=some (.ref CT)) (hx:oe K (.ref CT) (.ref CT)=some true) (D1:Def P w K mg base 10 "read_piece" ["text"] (qK K CL CT))
 (X8:XMr P w K mg base 2 C8 "NoPiece" ["self"] (JZ C8 (-8))):FnOk P w K mg base (CX1 P w) 13 f fd ["text"] (qU K CL C8):=by
 refine F.okx qX λDk A outer s H vs Q E hr h=>?_;obtain⟨ta,cs,rfl,tx,hcs,k⟩:=h;refine⟨_,(AC (UF (Eb:=λv cx _=>v= .ref CT/\cx=none/\mPc cs=none) rfl rfl (λpn E' o=>(AC (AJ (D1.call hr o (AA (pv 0) AF)))))
  (SU (by rfl) hmT (λa ok=>(AC (JT (b:=a) (Out.hd AD ok rfl rfl) rfl (X8.call0 (hr.u.mark _) (Out.hd AD ok rfl rfl))))) UE))),?_⟩
 subst_eqs
 refine⟨⟨V.ref ta,rfl,ta,cs,rfl,tx,hcs,?_⟩,λa C' fs cx σ' H1 nt eb hl=>?_⟩
 ·cases hm:mPc cs with
  |none=>exact λz=>⟨rfl,rfl,rfl⟩
  |some x=>
   rw[hm] at k;exact k
 ·obtain⟨eC,rfl,hm⟩:=eb;have eC':C'=CT:=by injection eC
  subst eC';refine⟨true,hx,λ_ H2 n2=>?_,λq=>by cases q⟩;obtain⟨T,dd,n1,n3,n4,ea,ed,et⟩:=n2;refine⟨by show 0<=100;decide,λa' ha'=>⟨a',rfl,upd_same,λH4 ⟨⟨d,dn,d0,e1,e2⟩,kp⟩=>⟨rfl,a',C8,_,rfl,⟨d,dn,e1,e2⟩,X8.2.1,?_,⟨C',_,_,kp a _ (by rw[AE (AG ea ha')];exact ea) (AG ea ha')⟩,?_⟩⟩⟩
  ·exact cw (AG ea ha')
  ·rw[hm] at k;exact k a
theorem W8 {kd:Nat}:∀{f:Nat} {acc ps:List Ln} {len:Nat} {l:List UInt8},acc.length<=512->mLs kd f acc len l=some ps->ps.length<=512
 |0,_,_,_,_,_,h=>by rw[mLs] at h;cases h
 |f+1,acc,ps,len,l,ha,h=>by
  rw[mLs] at h;split at h
  ·split at h
   ·cases h
   ·cases h;exact ha
  ·split at h
   ·cases h
   ·cases hm:mPl kd len l with
    |none=>rw[hm] at h;cases h
    |some x=>
     obtain⟨⟨n,st⟩,t⟩:=x;simp only[hm] at h;exact W8 (by rw[bp];simp;omega) h
theorem W9 {ps:List Ln} (h:mPc cs=some ps):ps.length<=512:=by
 unfold mPc at h;cases hk:mKd kws 0 cs with
 |none=>rw[hk] at h;cases h
 |some x=>
  obtain⟨kd,t⟩:=x;simp only[hk] at h;exact W8 (by simp) h
end
open PySem PySem.Spec PyProof.Rows L2
def tbf (ia al:ag):List (Str×V):=[("instrument",.ref ia),("lines",.ref al)]
theorem g9 (ia al:ag):(tbf ia al).lookup ("instrument":Str)=some (.ref ia):=rfl
theorem bJ (ia al:ag):(tbf ia al).lookup ("lines":Str)=some (.ref al):=rfl
structure TbC (K:aa) (CB:ag):Prop where
 cl:Cls K CB
 ni:NoAttr K CB "instrument"
 nl:NoAttr K CB "lines"
structure TbA (K:aa) (CI CL CB:ag) (H:Hp) (x:ag) (s:St3) (ps:List Ln):Prop where
 ex:Ex6 λdx ia af ac ab al=>H x=some (.ins CB dx (tbf ia al))/\InA K CI H ia af ac ab s.1 s.2.1 s.2.2/\LnsA K CL H al ps
 le:ps.length<=512
theorem TbA.same {K:aa} {CB:ag} {x:ag} {s:St3} {ps:List Ln} (T:TbA K CI CL CB H x s ps) (e:Same H H'):TbA K CI CL CB H' x s ps:=
 let ⟨⟨dx,ia,af,ac,ab,al,h1,h2,h3⟩,l⟩:=T;⟨⟨dx,ia,af,ac,ab,al,e _ _ h1,h2.kp (Same.kp e),h3.same e⟩,l⟩
def kY (CB:ag):Sp:=λvs H Q _=>Ex4 λ(x dx ia al:ag)=>vs=[.ref x,.ref ia,.ref al]/\H x=some (.ins CB dx [])/\∀H',H' x=some (.ins CB dx (tbf ia al))->Sb x H H'->Q .non H'
def Rfl (cl:Int->ag) (E:XK) (z:Int):Prop:=∀cx,E (.ref (cl z)) cx (xH [("answer",.int z)])
def mTb (dz fz:Str) (ci ct:List UInt8):Except Int (St3×List Ln):=match J6 dz fz ci with
 |none=>.error (-6)
 |some s=>match mPc ct with
  |none=>.error (-8)
  |some ps=>.ok (s,ps)
def GM (dz fz:Str) (ci ct:List UInt8):Except Int (St3×List Ln):=if 4096<ci.length\/65536<ct.length then .error (-2) else mTb dz fz ci ct
def qZ (K:aa) (CI CL CB:ag) (cl:Int->ag) (H:Hp) (Q:VK) (E:XK):Except Int (St3×List Ln)->Prop
 | .ok (s,ps)=>∀H' x,Same H H'->TbA K CI CL CB H' x s ps->Q (.ref x) H'
 | .error z=>Rfl cl E z
theorem VE {K:aa} {CB:ag} {cl:Int->ag} {r:Except Int (St3×List Ln)} {z:Int} (k:qZ K CI CL CB cl H Q E r) (h:r= .error z):Rfl cl E z:=by rw[h] at k;exact k
def eZ (K:aa) (CI CL CB:ag) (cl:Int->ag) (m:List UInt8->List UInt8->Except Int (St3×List Ln)):Sp:=λvs H Q E=>Ex4 λ(ia ta:ag) (ci ct:List UInt8)=>vs=[.ref ia,.ref ta]/\SqL K H ia (ci.map cV)/\SqL K H ta (ct.map cV)/\ct.length<=100000/\qZ K CI CL CB cl H Q E (m ci ct)
section
variable {P:bb} {w:cb} {K:aa} {mg:Str->Option ah} {base:cr} {CI CL CB:ag} {cl:Int->ag} {dz fz:Str}
theorem kZ:FnScope ["self","instrument","lines"] ["self","instrument","lines"] (AH EC):={}
theorem k6 (F:Fun K "__init__" "Tablature.__init__" EC f fd) (T:TbC K CB):FnOk P w K mg base (CX1 P w) 1 f fd ["self","instrument","lines"] (kY CB):=by
 refine F.okx kZ λDk A outer s H vs Q E hr h=>?_;obtain⟨x,dx,ia,al,rfl,hx,k⟩:=h;refine⟨_,(AB (C5 (pv 0) (pv 1) rfl)
  (AC (C5 (pv 0) (pv 2) rfl))),?_⟩
 and_intros
 refine⟨_,rfl,_,rfl,x,CB,dx,[],rfl,hx,T.cl,T.ni,(by decide),?_⟩;refine⟨_,rfl,_,rfl,x,CB,dx,_,rfl,upd_same,T.cl,T.nl,(by show 1<1000;decide),?_⟩;exact k _ upd_same λb o e hb=>by rw[AE hb,AE hb];exact e
theorem bK:FnScope ["i","t","instrument"] ["i","t"] (AH FG):={}
theorem k8 (F:Fun K "tablature_of" "tablature_of" FG f fd) (M:Mkr P w K mg base 1 CB "Tablature" ["self","instrument","lines"] (kY CB))
 (D2:Def P w K mg base 13 "instrument_of" ["text"] (qS K CI (cl (-6)) dz fz)) (D3:Def P w K mg base 13 "piece_of" ["text"] (qU K CL (cl (-8)))):FnOk P w K mg base (CX1 P w) 14 f fd ["i","t"] (eZ K CI CL CB cl (mTb dz fz)):=by
 refine F.okx bK λDk A outer s H vs Q E hr h=>?_;obtain⟨ia,ta,ci,ct,rfl,hi,ht,hct,k⟩:=h;refine⟨_,(AB (AZ 2 bK (D2.call hr AD (AA (pv 0) AF)))
  (AC (AJ (M.call hr AD (AA (pv 2) (AA (D3.call hr AD (AA (pv 1) AF)) AF)))))),?_⟩
 and_intros
 refine⟨V.ref ia,rfl,ia,ci,rfl,hi,?_⟩;unfold mTb at k;cases hm:J6 dz fz ci with
 |none=>exact λb=>VE k (by rw[hm]) _
 |some x=>
  obtain⟨fr,co,ba⟩:=x;simp only[hm] at k;intro H1 xa af ac ab s1 I1;refine⟨V.ref xa,rfl,V.ref ta,rfl,ta,ct,rfl,s1.seq ht,hct,?_⟩;cases hp:mPc ct with
  |none=>exact λb=>VE k (by rw[hp]) _
  |some ps=>
   simp only[hp] at k;intro H2 al s2 L2 x dx nx nd hne;refine⟨x,dx,xa,al,rfl,upd_same,λH3 h3 s3=>⟨rfl,?_⟩⟩;have s23:Same H2 H3:=B0 nx nd s3 Sb.refl;exact k H3 x ((s1.trans s2).trans s23) ⟨⟨dx,xa,af,ac,ab,al,h3,(I1.kp (Same.kp s2)).kp (Same.kp s23),L2.same s23⟩,W9 hp⟩
theorem k9:FnScope ["i","t"] ["i","t"] (AH ED):={}
theorem lA (F:Fun K "read_tablature" "read_tablature" ED f fd) (D1:Def P w K mg base 4 "check_sizes" ["i","t"] (qN K (cl (-2)))) (D2:Def P w K mg base 14 "tablature_of" ["i","t"] (eZ K CI CL CB cl (mTb dz fz))):
 FnOk P w K mg base (CX1 P w) 15 f fd ["i","t"] (eZ K CI CL CB cl (GM dz fz)):=by
 refine F.okx k9 λDk A outer s H vs Q E hr h=>?_;obtain⟨ia,ta,ci,ct,rfl,hi,ht,hct,k⟩:=h;refine⟨_,(AB (AY (D1.call hr AD (AA (pv 0) (AA (pv 1) AF))))
  (AC (AJ (D2.call hr AD (AA (pv 0) (AA (pv 1) AF)))))),?_⟩
 and_intros
 refine⟨V.ref ia,rfl,V.ref ta,rfl,ia,ta,_,_,rfl,hi,ht,?_⟩;rw[ai,ai];unfold GM at k;by_cases hl:4096<ci.length\/65536<ct.length
 ·rw[Dm hl] at k ⊢;exact VE k rfl _
 ·rw[Dn hl] at k ⊢;exact⟨V.ref ia,rfl,V.ref ta,rfl,ia,ta,ci,ct,rfl,hi,ht,hct,k⟩
end
structure RfC (K:aa) (CR:ag) (cl:Int->ag) (Z:List Int):Prop where
 r:∀z∈Z,oe K (.ref (cl z)) (.ref CR)=some true
 x:∀z∈Z,XCls K (cl z)
 a:∀z∈Z,NoAttr K (cl z) "answer"
open PySem PySem.Spec PyProof.Rows L2
theorem e6 {K:aa} {σ':L2.St} {j:Nat} {fs:List (Str×V)} {cx:Option ag} {fl:ah} {H2:Hp} {z:Int} {D:Ends} {ans:List Int} (hl:j<σ'.length) (n2:Noted H2 a C fs cx fl) (x:XCls K C) (na:NoAttr K C "answer") (l:fs.lookup ("answer":Str)=some (.int z))
 (ha:ans=[z]) (k:∀H' l,H' l=some (.lst (ans.map V.int))->D.rt (.ref l) H'):(RN (i5 (B9 (WD K (BP j) "answer") EQ))) D (σ'.set j (some (.ref a))) H2:=by
 obtain⟨T,dd,n1,n3,n4,eo,ed,et⟩:=n2;have e5:(σ'.set j (some (V.ref a)))[j]? =some (some (V.ref a)):=by rw[oj hl]
 refine⟨V.ref a,e5,a,C,dd,_,_,_,_,rfl,eo,ed,x,na,l,(by rw[cf];show 1<=16777216;decide),λp hp=>?_⟩;refine k _ p ?_;rw[upd_same,ha];rfl
theorem lB {z:Int} (h:GM dz fz ci ct= .error z):z∈([-2, -6, -8]:List Int):=by
 unfold GM mTb at h;split at h
 ·cases h;simp
 ·split at h
  ·cases h;simp
  ·split at h
   ·cases h;simp
   ·cases h
def bL (p:LuteTab.Piece):Prop:=∀n l,LuteTab.Line.moment n l∈p->0<n
def JH (c:Nat) (l:List Stop):Bool:=l.any λ(s:Stop)=>s.course==c
def E5 (ring c:Nat):List Ln->Nat
 |[]=>0
 |(n,l)::r=>if(ring=2/\n=0)\/JH c l=true then 0 else E5 ring c r+1
def mEL (ring:Nat) (ps:List Ln) (line c:Nat):Nat:=if ring=0 then line+1 else line+1+E5 ring c (ps.drop (line+1))
def FJ:Nat->Nat->List Ln->List (Nat×Nat)
 |_,_,[]=>[]
 |i,x,(n,l)::r=>if n=0 then(i,x)::FJ (i+1) x r else FJ (i+1) (x+n) r
theorem QX:∀(p:LuteTab.Piece) (i x:Nat),bL p->FJ i x (p.map BO)=LuteSound.barsFrom i x p
 |[],_,_,_=>rfl
 | .bar::r,i,x,h=>by
   rw[LuteSound.barsFrom, ←QX r _ _ λn l q=>h n l (aq _ q)];rfl
 | .moment n l::r,i,x,h=>by
   have h0:=h n l bc;rw[LuteSound.barsFrom, ←QX r _ _ λn l q=>h n l (aq _ q)];show FJ i x ((n,l)::r.map BO)=_;rw[FJ,Dn (by omega)]
theorem HU:∀(a b:List Ln) (i x:Nat),CP i x (a++b)=CP i x a++CP (i+a.length) (x+uL a a.length) b
 |[],b,i,x=>by simp[CP,UY]
 |(n,l)::a,b,i,x=>by
  rw[qp,CP,HU a b,CP,vP,de,CK];congr 3
  ·omega
  ·show x+n+_=x+(n+_);omega
theorem HV:∀(a b:List Ln) (i x:Nat),FJ i x (a++b)=FJ i x a++FJ (i+a.length) (x+uL a a.length) b
 |[],b,i,x=>by simp[FJ,UY]
 |(n,l)::a,b,i,x=>by
  rw[qp,FJ,FJ,HV a b,HV a b,de,CK];by_cases h:n=0
  ·subst h;rw[Dm rfl,Dm rfl,qp];congr 3
   ·omega
   ·show x+_=x+(0+_);omega
  ·rw[Dn h,Dn h];congr 2
   ·omega
   ·show x+n+_=x+(n+_);omega
theorem GN:∀{ps:List Ln} {i x:Nat} {b:Nat×Nat},b∈FJ i x ps->i<=b.1/\b.1<i+ps.length/\x<=b.2
 |[],i,x,b,h=>by simp[FJ] at h
 |(n,l)::r,i,x,b,h=>by
  rw[FJ] at h;rw[de];split at h
  ·rcases bq.mp h with rfl|h
   ·exact⟨aw _,by omega,aw _⟩
   ·have:=GN h;omega
  ·have:=GN h;omega
def agn (c u:Nat) (k:List Sk):Nat:=match k.find? λ(q:Sk)=>q.halt_.course==c with
 |some q=>q.begins
 |none=>u
theorem SV (c i x y:Nat) (l:List Stop):(l.map λ(s:Stop)=>(⟨i,x,y,s⟩:Sk)).find? (λ(q:Sk)=>q.halt_.course==c)=(l.find? λs=>s.course==c).map λs=>(⟨i,x,y,s⟩:Sk):=by
 rw[z4];rfl
theorem bM (c:Nat):∀(r:List Ln) (i x:Nat),agn c (x+uL r r.length) (CP i x r)=x+uL r (E5 1 c r)
 |[],i,x=>by simp[agn,CP,E5,UY]
 |(n,l)::r,i,x=>by
  have ih:=bM c r (i+1) (x+n);rw[E5];unfold agn;rw[CP,qd,SV];by_cases h:JH c l=true
  ·rw[Dm (.inr h),EK];unfold JH at h;rw[jw] at h;cases hf:l.find? λs=>s.course==c with
   |none=>
    obtain⟨s,h1,h2⟩:=h;exact absurd h2 (lv.mp hf s h1)
   |some s=>rfl
  ·rw[Dn (by rintro (⟨q,_⟩|q);cases q;exact h q),CK];cases hf:l.find? λs=>s.course==c with
   |some s=>
    refine absurd ?_ h;unfold JH;rw[jw];exact⟨s,vF hf,zh (p:=λ(s:Stop)=>s.course==c) hf⟩
   |none=>
    rw[de,CK];show agn c (x+(n+uL r r.length)) (CP (i+1) (x+n) r)=x+(n+uL r (E5 1 c r));rw[←uy,ih,uy]
theorem XA (ring c:Nat):∀r:List Ln,E5 ring c r<=r.length
 |[]=>aw _
 |(n,l)::r=>by
  rw[E5,de];have:=XA ring c r;split<;>omega
def QY (a:Nat) (b:List (Nat×Nat)):Nat:=match b.head? with
 |some q=>min q.2 a
 |none=>a
theorem bN (c:Nat):∀(r:List Ln) (i x:Nat),PcK r->QY (x+uL r (E5 1 c r)) (FJ i x r)=x+uL r (E5 2 c r)
 |[],i,x,_=>by simp[QY,FJ,E5]
 |(n,l)::r,i,x,k=>by
  have ih:=bN c r (i+1) (x+n) k.tail;by_cases h0:n=0
  ·subst h0;rw[FJ,Dm rfl,E5,E5,Dm (show((2:Nat)=2/\0=0)\/JH c l=true from .inl ⟨rfl,rfl⟩),EK];show min x _=x+0;omega
  ·rw[FJ,Dn h0,E5,E5];by_cases h:JH c l=true
   ·rw[Dm (.inr h),Dm (.inr h),EK];unfold QY;cases hb:(FJ (i+1) (x+n) r).head? with
    |none=>rfl
    |some q=>
     have:=GN (List.mem_of_mem_head? hb);show min q.2 (x+0)=x+0;omega
   ·rw[Dn (by rintro (⟨q,_⟩|q);cases q;exact h q),Dn (by rintro (⟨_,q⟩|q);exact h0 q;exact h q),CK,CK];show QY (x+(n+_)) _=x+(n+_);rw[←uy,ih,uy]
theorem QZ (ps:List Ln) (i j:Nat):uL ps (i+j)=uL ps i+uL (ps.drop i) j:=by
 unfold uL;rw[List.take_add,dh,zg]
theorem XB {p:LuteTab.Piece} {s:Sk} {ring:Nat} (hm:bL p) (k:PcK (p.map BO)) (hs:s∈LuteSound.struck p) (hr:ring<=2):
 LuteSound.ends p ring s=uL (p.map BO) (mEL ring (p.map BO) s.line s.halt_.course):=by
 unfold LuteSound.struck at hs;rw[←D7] at hs;have h:=QR hs;unfold LuteSound.ends mEL;by_cases h0:ring=0
 ·rw[Dm h0,Dm h0];exact h.end_
 rw[Dn h0,Dn h0];generalize hps:p.map BO=ps at*;have Dl:s.line+1<=ps.length:=h.lt;have ZY:(ps.take (s.line+1)).length=s.line+1:=by rw[eq];omega
 have utk:uL (ps.take (s.line+1)) (s.line+1)=uL ps (s.line+1):=by unfold uL;rw[xk,Bt]
 have e0:ps=ps.take (s.line+1)++ps.drop (s.line+1):=(iu _ _).symm;have ea:LuteSound.again p s=uL ps (s.line+1)+uL (ps.drop (s.line+1)) (E5 1 s.halt_.course (ps.drop (s.line+1))):=by
  unfold LuteSound.again LuteSound.struck;rw[←D7,NW,hps, ←bM s.halt_.course (ps.drop (s.line+1)) (s.line+1) (uL ps (s.line+1)), ←QZ,fw,show s.line+1+(ps.length - (s.line+1))=ps.length by omega];have e1:(CP 0 0 ps).find? (λ(q:Sk)=>decide (s.line<q.line)&&q.halt_.course==s.halt_.course)=(CP (s.line+1) (uL ps (s.line+1)) (ps.drop (s.line+1))).find? λ(q:Sk)=>q.halt_.course==s.halt_.course:=by
   conv=>lhs;rw[e0,HU,ZY,utk,ke,ke]
   rw[qd];have n1:(CP 0 0 (ps.take (s.line+1))).find? (λ(q:Sk)=>decide (s.line<q.line)&&q.halt_.course==s.halt_.course)=none:=by
    rw[lv];intro q hq;have:=(QR hq).lt;rw[ZY] at this;rw[decide_eq_false (by omega)];simp
   rw[n1];show Cs _ _=_;have:∀(l:List Sk),(∀q∈l,s.line<q.line)->l.find? (λ(q:Sk)=>decide (s.line<q.line)&&q.halt_.course==s.halt_.course)=l.find? λ(q:Sk)=>q.halt_.course==s.halt_.course:=by
    intro l;induction l with
    |nil=>intro _;rfl
    |cons a b ih=>
     intro hh;rw[js,js,ih λq hq=>hh q (aq _ hq),decide_eq_true (hh a bc),jz]
   refine this _ λq hq=>?_;obtain⟨j,_,h1,_⟩:=mem_mStr.mp hq;omega
  rw[e1];rfl
 by_cases h1:ring=1
 ·subst h1;rw[Dm rfl,ea,QZ ps (s.line+1)]
 ·have h2:ring=2:=by omega
  subst h2;rw[Dn h1,QZ ps (s.line+1), ←bN s.halt_.course (ps.drop (s.line+1)) (s.line+1) (uL ps (s.line+1)) (k.drop _), ←ea];have e2:(LuteSound.barsFrom 0 0 p).find? (λ(b:Nat×Nat)=>decide (s.line<b.1))=(FJ (s.line+1) (uL ps (s.line+1)) (ps.drop (s.line+1))).head?:=by
   rw[←QX p 0 0 hm,hps]
   conv=>lhs;rw[e0,HV,ZY,utk,ke,ke]
   rw[qd];have n1:(FJ 0 0 (ps.take (s.line+1))).find? (λ(b:Nat×Nat)=>decide (s.line<b.1))=none:=by
    rw[lv];intro q hq;have:=GN hq;rw[ZY] at this;simp;omega
   rw[n1];show Cs _ _=_;cases hb:FJ (s.line+1) (uL ps (s.line+1)) (ps.drop (s.line+1)) with
   |nil=>rfl
   |cons a b=>
    have:=GN (show a∈FJ (s.line+1) (uL ps (s.line+1)) (ps.drop (s.line+1)) by rw[hb];exact bc);rw[js,decide_eq_true (by omega)];rfl
  rw[e2];rfl
theorem YX {ps:List Ln} {st:List Stop} (h:ps[i]? =some (n,st)):CP 0 0 (ps.take (i+1))=CP 0 0 (ps.take i)++st.map λ(s:Stop)=>(⟨i,uL ps i,uL ps i+n,s⟩:Sk):=by
 have hi:=(az.mp h).1;have el:(ps.take i).length=i:=by rw[eq];omega
 have eu:uL (ps.take i) i=uL ps i:=by unfold uL;rw[xk,Bt]
 rw[dq,h,HU,el,eu];simp[CP]
def mPA {α:Type} (lt:α->Bool) (d:α) (r:List α):Nat->Nat->Nat->Nat
 |0,low,_=>low
 |f+1,low,high=>if low<high then(if lt (r.getD ((low+high) / 2) d)=true then mPA lt d r f ((low+high) / 2+1) high else mPA lt d r f low ((low+high) / 2)) else low
def LJ {α:Type} (r:List α) (n:Nat) (x:α):List α:=r.take n++x::r.drop n
def FK {α:Type} [DecidableEq α] (lt:α->α->Bool) (d:α) (r:List α) (x:α):List α:=if x∈r then r else LJ r (mPA (λy=>lt y x) d r (r.length+1) 0 r.length) x
def PQ {α:Type} [DecidableEq α] (lt:α->α->Bool) (d:α) (xs:List α):List α:=xs.foldl (FK lt d) []
section
variable {α:Type} [DecidableEq α] {lt:α->α->Bool} {d:α} {S:α->Prop}
structure Ord {α:Type} (lt:α->α->Bool) (S:α->Prop):Prop where
 irr:∀x,S x->lt x x=false
 tr:∀x y z,S x->S y->S z->lt x y=true->lt y z=true->lt x z=true
 tot:∀x y,S x->S y->lt x y=false->lt y x=false->x=y
theorem VF {f:α->Bool} {r:List α}:∀(k low high:Nat),high - low<k->low<=high->high<=r.length->(∀(i:Nat) (y:α),i<low->r[i]? =some y->f y=true)->(∀(i:Nat) (y:α),high<=i->r[i]? =some y->f y=false)->
 (∀(i j:Nat) (x y:α),i<j->r[i]? =some x->r[j]? =some y->f y=true->f x=true)->
 mPA f d r k low high<=r.length/\(∀(i:Nat) (y:α),i<mPA f d r k low high->r[i]? =some y->f y=true)/\∀(i:Nat) (y:α),mPA f d r k low high<=i->r[i]? =some y->f y=false
 |0,low,high,h,_,_,_,_,_=>by omega
 |k+1,low,high,hk,hl,hh,h1,h2,mono=>by
  rw[mPA];by_cases Dl:low<high
  ·rw[Dm Dl];have hm:(low+high) / 2<r.length:=by omega
   have em:r[(low+high) / 2]? =some (r.getD ((low+high) / 2) d):=by rw[bf,aj hm];rfl
   by_cases hf:f (r.getD ((low+high) / 2) d)=true
   ·rw[Dm hf];refine VF k _ _ (by omega) (by omega) hh (λi y hi hy=>?_) h2 mono;by_cases e:i=(low+high) / 2
    ·rw[e,em] at hy;cases hy;exact hf
    ·exact mono i _ y _ (by omega) hy em hf
   ·rw[Dn hf];refine VF k _ _ (by omega) (by omega) (by omega) h1 (λi y hi hy=>?_) mono;by_cases e:i=(low+high) / 2
    ·rw[e,em] at hy;cases hy;exact jq.mpr hf
    ·cases q:f y with
     |false=>rfl
     |true=>exact absurd (mono _ i _ y (by omega) em hy q) hf
  ·rw[Dn Dl];have:low=high:=by omega
   subst this;exact⟨hh,h1,h2⟩
theorem e8 (O:Ord lt S) {r:List α} {x:α} (hr:∀y∈r,S y) (hx:S x) (pw:r.Pairwise λa b=>lt a b=true):
 (∀y,y∈FK lt d r x↔y∈r\/y=x)/\(FK lt d r x).Pairwise λa b=>lt a b=true:=by
 unfold FK;by_cases hm:x∈r
 ·rw[Dm hm];exact⟨λy=>⟨.inl,λq=>q.elim id λe=>e▸hm⟩,pw⟩
 rw[Dn hm];obtain⟨h1,h2,h3⟩:=VF (f:=λy=>lt y x) (d:=d) (r:=r) (r.length+1) 0 r.length (by omega) (by omega) (aw _) (λi y hi=>by omega) (λi y hi hy=>by
  have:=(az.mp hy).1;omega) (λi j a b hij ha hb q=>by
   have hi:=(az.mp ha)
   have hj:=(az.mp hb)
   have:=mh.mp pw i j hi.1 hj.1 hij;rw[hi.2,hj.2] at this;exact O.tr a b x (hr a (bn ha)) (hr b (bn hb)) hx this q)
 generalize mPA (λy=>lt y x) d r (r.length+1) 0 r.length=n at h1 h2 h3;unfold LJ;constructor
 ·intro y;rw[bu,bq];constructor
  ·rintro (q|rfl|q)
   ·exact .inl (mw q)
   ·exact .inr rfl
   ·exact .inl (jl q)
  ·rintro (q|rfl)
   ·rw[←iu n r,bu] at q;exact q.elim .inl λq=>.inr (.inr q)
   ·exact .inr (.inl rfl)
 ·have pw':=pw;rw[←iu n r,qi] at pw';obtain⟨p1,p2,p3⟩:=pw';rw[qi,gh];have lo:∀a∈r.take n,lt a x=true:=λa ha=>by
   obtain⟨i,hi⟩:=kg ha;rw[sh] at hi;split at hi
   ·exact h2 i a (by assumption) hi
   ·cases hi
  have up:∀b∈r.drop n,lt x b=true:=λb hb=>by
   obtain⟨i,hi⟩:=kg hb;rw[vy] at hi;have q:=h3 (n+i) b (by omega) hi;have hb':=jl hb;cases q2:lt x b with
   |true=>rfl
   |false=>exact absurd (O.tot b x (hr b hb') hx q q2▸hb') hm
  refine⟨p1,⟨up,p2⟩,λa ha b hb=>?_⟩;rcases bq.mp hb with rfl|hb
  ·exact lo a ha
  ·exact p3 a ha b hb
theorem SW (O:Ord lt S):∀{xs r:List α},(∀y∈r,S y)->(∀x∈xs,S x)->r.Pairwise (λa b=>lt a b=true)->
 (∀y,y∈xs.foldl (FK lt d) r↔y∈r\/y∈xs)/\(xs.foldl (FK lt d) r).Pairwise λa b=>lt a b=true
 |[],r,_,_,pw=>⟨λy=>by simp,pw⟩
 |x::xs,r,hr,hx,pw=>by
  obtain⟨a1,a2⟩:=e8 (d:=d) O hr (hx x bc) pw;obtain⟨b1,b2⟩:=SW O (xs:=xs) (r:=FK lt d r x) (λy hy=>((a1 y).mp hy).elim (hr y) λe=>e▸hx x bc) (λy hy=>hx y (aq _ hy)) a2;refine⟨λy=>?_,b2⟩;rw[zi,b1,a1,bq,or_assoc]
theorem bO (O:Ord lt S) {xs:List α} (hx:∀x∈xs,S x):(∀y,y∈PQ lt d xs↔y∈xs)/\(PQ lt d xs).Pairwise λa b=>lt a b=true:=by
 obtain⟨h1,h2⟩:=SW (d:=d) O (xs:=xs) (r:=[]) (by simp) hx mv;exact⟨λy=>by unfold PQ;rw[h1];simp,h2⟩
end
theorem lC [BEq α] [LawfulBEq α] {lt:α->α->Bool} {S:α->Prop} (O:Ord lt S) {r:List α} (hr:∀y∈r,S y) (pw:r.Pairwise λa b=>lt a b=true) {x y:α} (hx:x∈r) (hy:y∈r):r.idxOf x<r.idxOf y↔lt x y=true:=by
 have lx:=qe hx;have ly:=qe hy;have ex:r[r.idxOf x]=x:=vz lx;have ey:r[r.idxOf y]=y:=vz ly;constructor
 ·intro h;have:=mh.mp pw _ _ lx ly h;rw[ex,ey] at this;exact this
 ·intro h;apply uw;intro q;rcases Nat.lt_or_ge (r.idxOf y) (r.idxOf x) with q'|q'
  ·have:=mh.mp pw _ _ ly lx q';rw[ex,ey] at this;have:=O.tr x y x (hr x hx) (hr y hy) (hr x hx) h this;rw[O.irr x (hr x hx)] at this;cases this
  ·have e:r.idxOf x=r.idxOf y:=by omega
   have:x=y:=by rw[←ex, ←ey];simp only[e]
   subst this;rw[O.irr x (hr x hx)] at h;cases h
theorem PR {R:α->α->Prop}:∀{l1 l2:List α},l1.Perm l2->l1.Pairwise R->l2.Pairwise R->(∀a∈l1,∀b∈l1,R a b->R b a->a=b)->l1=l2
 |[],l2,p,_,_,_=>(List.nil_perm.mp p).symm
 |a::l1,l2,p,h1,h2,anti=>by
  cases l2 with
  |nil=>exact absurd (p.symm) (by simp)
  |cons b l2=>
   obtain⟨a1,a2⟩:=gh.mp h1;obtain⟨b1,b2⟩:=gh.mp h2;have e:a=b:=by
    have hb:b∈a::l1:=p.mem_iff.mpr bc;have ha:a∈b::l2:=p.mem_iff.mp bc;rcases bq.mp hb with hb'|hb'
    ·exact hb'.symm
    ·rcases bq.mp ha with ha'|ha'
     ·exact ha'
     ·exact anti a bc b hb (a1 b hb') (b1 a ha')
   subst e;rw[PR (p.cons_inv) a2 b2 λx hx y hy=>anti x (aq _ hx) y (aq _ hy)]
end Lt
namespace Lt
variable {f a C CR CT r ta CI CL CN:ag} {fd:fv} {X:Cx} {x:List Int} {i n e p q:Nat} {pos:Pos} {z dz fz:Str} {xs:List V} {H H' H1:Hp} {E:XK} {cs t ci ct:List UInt8} {α β:Type} {Q:VK} {ls fr co ba:List (List Int)} {P:bb} {w:cb} {h:cr} {ps:List Str}
section
variable {α:Type} [DecidableEq α] {lt:α->α->Bool} {d:α}
theorem YY {r:List α} {x y:α}:y∈LJ r n x↔y∈r\/y=x:=by
 unfold LJ;rw[bu,bq];constructor
 ·rintro (q|rfl|q)
  ·exact .inl (mw q)
  ·exact .inr rfl
  ·exact .inl (jl q)
 ·rintro (q|rfl)
  ·rw[←iu n r,bu] at q;exact q.elim .inl λq=>.inr (.inr q)
  ·exact .inr (.inl rfl)
theorem mIns_mem {r:List α} {x y:α}:y∈FK lt d r x↔y∈r\/y=x:=by
 unfold FK;by_cases hm:x∈r
 ·rw[Dm hm];exact⟨.inl,λq=>q.elim id λe=>e▸hm⟩
 ·rw[Dn hm,YY]
theorem VG {r:List α} {x:α} (h:r.Nodup):(FK lt d r x).Nodup:=by
 unfold FK;by_cases hm:x∈r
 ·rw[Dm hm];exact h
 ·rw[Dn hm];unfold LJ;have h':=h;rw[←iu (mPA (λy=>lt y x) d r (r.length+1) 0 r.length) r,ui] at h';obtain⟨p1,p2,p3⟩:=h';rw[ui];refine⟨p1,iy.mpr ⟨λq=>hm (jl q),p2⟩,λa ha b hb e=>?_⟩;rcases bq.mp hb with rfl|hb
  ·exact hm (e▸mw ha)
  ·exact p3 a ha b hb e
theorem VH {f:α->Bool} {r:List α}:∀(k low high:Nat),low<=high->high<=r.length->mPA f d r k low high<=r.length
 |0,low,high,h1,h2=>by rw[mPA];omega
 |k+1,low,high,h1,h2=>by
  rw[mPA];split
  ·split
   ·exact VH k _ _ (by omega) h2
   ·exact VH k _ _ (by omega) (by omega)
  ·omega
theorem bP {r:List α} {x:α}:(FK lt d r x).length<=r.length+1:=by
 unfold FK;split
 ·omega
 ·unfold LJ;rw[bp,de,eq,fw];omega
theorem PU {xs r:List α} (h:r.Nodup):(xs.foldl (FK lt d) r).Nodup:=by
 induction xs generalizing r with
 |nil=>exact h
 |cons x xs ih=>exact ih (VG h)
theorem SX {xs r:List α} {y:α}:y∈xs.foldl (FK lt d) r↔y∈r\/y∈xs:=by
 induction xs generalizing r with
 |nil=>simp
 |cons x xs ih=>rw[zi,ih,mIns_mem,bq,or_assoc]
theorem rise_mem {xs:List α} {y:α}:y∈PQ lt d xs↔y∈xs:=by
 unfold PQ;rw[SX];simp
end
def InK (t:Lute.Inst):Prop:=(∀x∈t.frets,0<x.d)/\(∀x∈t.courses,0<x.d)/\∀x∈t.basses,0<x.d
theorem bQ {l:List Iv} (h:∀x∈l,0<x.d) (i:Nat):0<(l.getD i Lute.unison).d:=by
 rw[bf];cases e:l[i]? with
 |none=>exact Cj
 |some x=>exact h x (bn e)
theorem DK {t:Lute.Inst} (k:InK t) (s:Sk):Lw (LuteSound.tone t s):=by
 unfold LuteSound.tone Lute.Inst.sounds;refine eW (bQ (λx hx=>?_) _) ?_
 ·rcases bu.mp hx with hx|hx
  ·exact k.2.1 x hx
  ·exact k.2.2 x hx
 ·unfold Lute.Inst.fret;split
  ·exact Cj
  ·exact bQ k.1 _
section
variable {t:Lute.Inst}
theorem ID (a b:Sk):LuteSound.first t a b=true↔a.begins<b.begins\/(a.begins=b.begins/\((LuteSound.tone t a).lt (LuteSound.tone t b)=true\/(LuteSound.tone t a=LuteSound.tone t b/\a.halt_.course<b.halt_.course))):=by
 unfold LuteSound.first;simp
theorem SY (k:InK t) {a b:Sk} (h:LuteSound.first t a b=true):LuteSound.first t b a=false:=by
 rw[ID] at h;rw[jq];intro q;have q:=(ID b a).mp q;have la:=DK k a;have lb:=DK k b;rcases h with h|⟨e,h|⟨e2,h⟩⟩
 ·rcases q with q|⟨q,_⟩<;>omega
 ·rcases q with q|⟨_,q|⟨q,_⟩⟩
  ·omega
  ·rw[a9 la.1 lb.1 h] at q;cases q
  ·rw[q,lt_irrefl la.1] at h;cases h
 ·rcases q with q|⟨_,q|⟨_,q⟩⟩
  ·omega
  ·rw[e2,lt_irrefl lb.1] at q;cases q
  ·omega
theorem SZ (k:InK t) {a b c:Sk} (h1:LuteSound.first t a b=true) (h2:LuteSound.first t b c=true):LuteSound.first t a c=true:=by
 rw[ID] at*;have la:=DK k a;have lb:=DK k b;have lc:=DK k c;rcases h1 with h1|⟨e1,h1⟩
 ·rcases h2 with h2|⟨e2,_⟩<;>exact .inl (by omega)
 ·rcases h2 with h2|⟨e2,h2⟩
  ·exact .inl (by omega)
  ·refine .inr ⟨e1.trans e2,?_⟩;rcases h1 with h1|⟨t1,h1⟩
   ·rcases h2 with h2|⟨t2,h2⟩
    ·exact .inl (lt_trans la.1 lb.1 lc.1 h1 h2)
    ·exact .inl (t2▸h1)
   ·rcases h2 with h2|⟨t2,h2⟩
    ·exact .inl (t1▸h2)
    ·exact .inr ⟨t1.trans t2,by omega⟩
theorem HW (a:Sk):∀l:List Sk,(LuteSound.insert t a l).Perm (a::l)
 |[]=>xo _
 |b::r=>by
  rw[LuteSound.insert];split
  ·exact xo _
  ·exact((HW a r).cons b).trans (List.Perm.swap a b r)
theorem N0 (p:LuteTab.Piece):(LuteSound.notes t p).Perm (LuteSound.struck p):=by
 unfold LuteSound.notes;induction LuteSound.struck p with
 |nil=>exact xo _
 |cons a l ih=>exact(HW a _).trans (ih.cons a)
theorem PV (k:InK t) (a:Sk):∀l:List Sk,l.Pairwise (λx y=>LuteSound.first t y x=false)->(LuteSound.insert t a l).Pairwise λx y=>LuteSound.first t y x=false
 |[],_=>List.pairwise_singleton _ _
 |b::r,h=>by
  obtain⟨h1,h2⟩:=gh.mp h;rw[LuteSound.insert];by_cases hf:LuteSound.first t a b=true
  ·rw[Dm hf];refine gh.mpr ⟨λx hx=>?_,h⟩;rcases bq.mp hx with rfl|hx
   ·exact SY k hf
   ·rw[jq];intro q;have:=SZ k q hf;rw[h1 x hx] at this;cases this
  ·rw[Dn hf];refine gh.mpr ⟨λx hx=>?_,PV k a r h2⟩;rcases bq.mp ((HW a r).mem_iff.mp hx) with rfl|hx
   ·exact jq.mpr hf
   ·exact h1 x hx
theorem bR (k:InK t) (p:LuteTab.Piece):(LuteSound.notes t p).Pairwise λx y=>LuteSound.first t y x=false:=by
 unfold LuteSound.notes;induction LuteSound.struck p with
 |nil=>exact mv
 |cons a l ih=>exact PV k a _ ih
def bS (t:Lute.Inst) (p:LuteTab.Piece) (hg:Sk->Nat):Prop:=∀a∈LuteSound.struck p,∀b∈LuteSound.struck p,(hg a<hg b↔(LuteSound.tone t a).lt (LuteSound.tone t b)=true)
theorem q0 (k:InK t) {p:LuteTab.Piece} {hg:Sk->Nat} (h:bS t p hg) {a b:Sk} (ha:a∈LuteSound.struck p) (hb:b∈LuteSound.struck p):hg a=hg b↔LuteSound.tone t a=LuteSound.tone t b:=by
 constructor
 ·intro e;refine SS (DK k a) (DK k b) ?_ ?_
  ·rw[jq];intro q;have:=(h a ha b hb).mpr q;omega
  ·rw[jq];intro q;have:=(h b hb a ha).mpr q;omega
 ·intro e;have h1:¬hg a<hg b:=λq=>by
   have:=(h a ha b hb).mp q;rw[e,lt_irrefl (DK k b).1] at this;cases this
  have h2:¬hg b<hg a:=λq=>by
   have:=(h b hb a ha).mp q;rw[e,lt_irrefl (DK k b).1] at this;cases this
  omega
def kLt (hg:Sk->Nat) (a b:Sk):Prop:=a.begins<b.begins\/(a.begins=b.begins/\(hg a<hg b\/(hg a=hg b/\a.halt_.course<b.halt_.course)))
theorem Q0 (k:InK t) {p:LuteTab.Piece} {hg:Sk->Nat} (h:bS t p hg) {a b:Sk} (ha:a∈LuteSound.struck p) (hb:b∈LuteSound.struck p):kLt hg a b↔LuteSound.first t a b=true:=by
 rw[ID,kLt,h a ha b hb,q0 k h ha hb]
theorem VI (k:InK t) {p:LuteTab.Piece} (kp:PcK (p.map BO)) {hg:Sk->Nat} (h:bS t p hg) {zs:List Sk} (pm:zs.Perm (LuteSound.struck p)) (pw:zs.Pairwise λa b=>¬kLt hg b a):zs=LuteSound.notes t p:=by
 refine PR (pm.trans (N0 p).symm) (R:=λx y=>LuteSound.first t y x=false) ?_ (bR k p) ?_
 ·refine Ba (λ{a b} ha hb q=>?_) pw;rw[jq];exact λz=>q ((Q0 k h (pm.mem_iff.mp hb) (pm.mem_iff.mp ha)).mpr z)
 ·intro a ha b hb h1 h2;have ha:=pm.mem_iff.mp ha;have hb:=pm.mem_iff.mp hb;have n1:¬kLt hg b a:=λz=>by have:=(Q0 k h hb ha).mp z;rw[h1] at this;cases this
  have n2:¬kLt hg a b:=λz=>by have:=(Q0 k h ha hb).mp z;rw[h2] at this;cases this
  unfold kLt at n1 n2;unfold LuteSound.struck at ha hb;rw[←D7] at ha hb;exact kE kp (QR ha) (QR hb) (by omega) (by omega)
end
open PySem PySem.Spec PyProof.Rows L2
def ro (x:Iv):List Int:=LuteD.rowOf x
theorem IQ (x:Iv):ro x=[x.a,x.b,x.c,x.e,(x.d:Int)]:=rfl
theorem rA:ro Lute.unison=un5:=rfl
theorem uB (a b c e d:Int):BY [a,b,c,e,d]=ow d.natAbs (ow a.natAbs (ow b.natAbs (ow c.natAbs e.natAbs))):=by
 unfold BY GY;simp only[List.foldl,qr,sj,Nat.gcd_zero_left,Int.natAbs_zero];rw[yn _ d.natAbs,Bb,Bb]
theorem bT (x:Iv):BY (ro x)=x.common:=by
 rw[IQ,uB];rfl
theorem N1 (z:Int):Lute.within z=decide (z.natAbs<=99):=by
 unfold Lute.within Lute.MOST;rw[ko];simp;omega
theorem XC (x:Iv):EW (ro x)=x.ok:=by
 unfold EW Lute.Iv.ok;rw[bT];show((([x.a,x.b,x.c,x.e]:List Int).all λp=>decide (p.natAbs<=99))&&(decide ((1:Int)<=(x.d:Int))&&decide ((x.d:Int)<=24)&&decide (x.common=1)))=_;simp only[List.all,N1,Bc];have e1:decide ((1:Int)<=(x.d:Int))=decide (1<=x.d):=by rw[decide_eq_decide];omega
 have e2:decide ((x.d:Int)<=24)=decide (x.d<=Lute.PARTS):=by rw[decide_eq_decide];show _↔x.d<=24;omega
 have e3:decide (x.common=1)=(x.common==1):=rfl;rw[e1,e2,e3];simp only[Bool.and_assoc]
theorem XD (x y:Iv):BQ (ro x) (ro y)=ro (x.plus y):=by
 have e:EF (ro x) (ro y)=ro ⟨x.a*y.d+y.a*x.d,x.b*y.d+y.b*x.d,x.c*y.d+y.c*x.d,x.e*y.d+y.e*x.d,x.d*y.d⟩:=by
  rw[IQ,IQ,IQ];unfold EF;show[LW _ _ 0,LW _ _ 1,LW _ _ 2,LW _ _ 3]++_=_;simp only[LW,List.getD_cons_zero,List.getD_cons_succ,qp,List.nil_append];congr 5;all_goals simp
 unfold BQ;rw[e,bT];unfold Lute.Iv.plus Lute.Iv.low;simp only[IQ,List.map];congr 5
theorem LK (x y:Iv) (hx:0<x.d) (hy:0<y.d):BG (ro x) (ro y)=x.lt y:=by
 unfold Lute.Iv.lt Lute.Iv.less Lute.Iv.plus;have hg:∀z:Iv,0<z.d->0<z.common:=λz hz=>we _ hz;show _=(Lute.Iv.low _).down;rw[SQ _ (hg _ (mr hx hy))];unfold Lute.Iv.down Lute.Iv.below Lute.Iv.above Lute.Iv.back BG;have pA:∀k (p:Int),pw (ro x) (ro y) k=p->True:=λ_ _ _=>jj;have e0:pw (ro x) (ro y) 0=y.a*x.d - x.a*y.d:=rfl;have e1:pw (ro x) (ro y) 1=y.b*x.d - x.b*y.d:=rfl;have e2:pw (ro x) (ro y) 2=y.c*x.d - x.c*y.d:=rfl;have e3:pw (ro x) (ro y) 3=y.e*x.d - x.e*y.d:=rfl;have eA:IM (ro x) (ro y) 4=((2 ^ (y.a*x.d - x.a*y.d).toNat*3 ^ (y.b*x.d - x.b*y.d).toNat*5 ^ (y.c*x.d - x.c*y.d).toNat*7 ^ (y.e*x.d - x.e*y.d).toNat:Nat):Int):=by
  have st:∀(q z b:Int) (p:Nat),(p:Int)=b->(if 0<z then q*b ^ z.toNat else q)=q*((p ^ z.toNat:Nat):Int):=λq z b p hb=>by
   by_cases h:0<z
   ·rw[Dm h, ←hb,zj]
   ·have:z.toNat=0:=by omega
    rw[Dn h,this,ww];simp
  simp only[IM,e0,e1,e2,e3];rw[st _ _ (prm.getD 0 0) 2 rfl,st _ _ (prm.getD 1 0) 3 rfl,st _ _ (prm.getD 2 0) 5 rfl,st _ _ (prm.getD 3 0) 7 rfl];simp only[uX,y4]
 have eB:IN (ro x) (ro y) 4=((2 ^ (x.a*y.d - y.a*x.d).toNat*3 ^ (x.b*y.d - y.b*x.d).toNat*5 ^ (x.c*y.d - y.c*x.d).toNat*7 ^ (x.e*y.d - y.e*x.d).toNat:Nat):Int):=by
  have st:∀(q z v b:Int) (p:Nat),(p:Int)=b->v= -z->(if 0<z then q else q*b ^ (-z).toNat)=q*((p ^ v.toNat:Nat):Int):=λq z v b p hb hv=>by
   subst hv;by_cases h:0<z
   ·have:(-z).toNat=0:=by omega
    rw[Dm h,this,ww];simp
   ·rw[Dn h, ←hb,zj]
  simp only[IN,e0,e1,e2,e3];rw[st _ _ (x.a*y.d - y.a*x.d) (prm.getD 0 0) 2 rfl (by omega),st _ _ (x.b*y.d - y.b*x.d) (prm.getD 1 0) 3 rfl (by omega),st _ _ (x.c*y.d - y.c*x.d) (prm.getD 2 0) 5 rfl (by omega),st _ _ (x.e*y.d - y.e*x.d) (prm.getD 3 0) 7 rfl (by omega)];simp only[uX,y4]
 rw[eA,eB,decide_eq_decide,Int.ofNat_lt];have n:∀u v p q:Int,u*q+ -v*p=u*q - v*p:=λu v p q=>by rw[xl];omega
 have m:∀u v p q:Int, -(u*q+ -v*p)=v*p - u*q:=λu v p q=>by rw[xl];omega
 simp only[m];simp only[n]
def fg {α:Type}:Except Nat (α×Nat×List UInt8)->Option (α×List UInt8)
 | .ok (a,_,t)=>some (a,t)
 | .error _=>none
def fe {α:Type}:Except Nat α->Option α
 | .ok a=>some a
 | .error _=>none
def dz0:Str:="0123456789"
def fz0:Str:="2357"
theorem N2 {p:UInt8->Prop} (h:∀n,n<256->p (vQ n)) (c:UInt8):p c:=by
 have:=h c.toNat (z5 c)
 rwa [UInt8.ofNat_toNat] at this
theorem IF (c:UInt8):BV dz0.cps.toList ((c.toNat:Nat):Int)=Lute.digit c:=N2 (p:=λc=>BV dz0.cps.toList ((c.toNat:Nat):Int)=Lute.digit c) (by decide +kernel) c
theorem e9 (c:UInt8):BV fz0.cps.toList ((c.toNat:Nat):Int)=[(50:UInt8),51,53,55].idxOf? c:=N2 (p:=λc=>BV fz0.cps.toList ((c.toNat:Nat):Int)=[(50:UInt8),51,53,55].idxOf? c) (by decide +kernel) c
theorem PY (c x:UInt8):(c.toNat=x.toNat)↔c=x:=ze
theorem CZ {x:UInt8} (hz:z.cps.toList=[x.toNat]) (c:UInt8) (t:List UInt8):see z (c::t)=decide (c=x):=by
 show(BV z.cps.toList ((c.toNat:Nat):Int)).isSome=_;rw[hz,WK];by_cases h:c=x
 ·rw[Dm (by rw[h]),decide_eq_true h];rfl
 ·rw[Dn (λq=>h ((PY c x).mp q)),decide_eq_false h];rfl
theorem J9 (z:Str):see z []=false:=rfl
theorem IG:∀(bs:List UInt8) (p:Nat) (l:List UInt8),fg (Lute.want bs p l)=sk (bs.map (·.toNat)) l
 |[],p,l=>rfl
 |x::bs,p,[]=>rfl
 |x::bs,p,c::t=>by
  rw[Lute.want,dc,sk];by_cases h:c=x
  ·rw[Dm h,Dm (by rw[h]),IG]
  ·rw[Dn h,Dn (λq=>h ((PY c x).mp q))];rfl
theorem FN {x:UInt8} (hz:z.cps.toList=[x.toNat]) (c:UInt8) (t:List UInt8):sk z.cps.toList (c::t)=if c=x then some ((),t) else none:=by
 rw[hz,sk];by_cases h:c=x
 ·rw[Dm h,Dm (by rw[h])];rfl
 ·rw[Dn h,Dn (λq=>h ((PY c x).mp q))]
theorem Q3 (most:Nat):∀(l:List UInt8) (count v p:Nat),v≠0->count<=most->G1 dz0 most count v l=fg (Lute.moreDigits (most - count) v p l)
 |[],count,v,p,hv,hc=>by rw[G1,Lute.moreDigits];rfl
 |c::t,count,v,p,hv,hc=>by
  rw[G1,IF,Lute.moreDigits.eq_def];cases hd:Lute.digit c with
  |none=>simp only[hd];rfl
  |some d=>
   simp only[hd];by_cases hq:count=most
   ·rw[Dm (.inl hq),hq,yt];rfl
   ·rw[Dn (by rintro (q|q);exact hq q;exact hv q)];obtain⟨m,hm⟩:∃m,most - count=m+1:=⟨most - count - 1,by omega⟩
    rw[hm];have:=Q3 most t (count+1) (10*v+d) (p+1) (by omega) (by omega);rw[this,show most - (count+1)=m by omega]
theorem K6 (p:Nat) (l:List UInt8):wn dz0 4 l=fg (Lute.number p l):=by
 cases l with
 |nil=>rfl
 |cons c t=>
  unfold wn;rw[BW,IF,Lute.number.eq_def];dsimp only;cases hd:Lute.digit c with
  |none=>rfl
  |some d=>
   show G1 dz0 4 1 d t=_;cases d with
   |zero=>
    cases t with
    |nil=>rfl
    |cons y u=>
     rw[G1,IF];cases hy:Lute.digit y with
     |none=>simp[hy,fg]
     |some e=>simp[hy,fg]
   |succ d=>exact Q3 4 t 1 (d+1) (p+1) (by omega) (by omega)
theorem fA (p:Nat) (l:List UInt8):(if see "0" l=true then none else wn dz0 7 l)=fg (Lute.longNumber p l):=by
 cases l with
 |nil=>rfl
 |cons c t=>
  rw[CZ (z:="0") (x:=48) rfl];unfold wn;rw[BW,IF,Lute.longNumber];cases hd:Lute.digit c with
  |none=>
   by_cases h:c=48
   ·subst h;exact absurd hd (by decide)
   ·rw[Dn (by simp[h])];rfl
  |some d=>
   have h48:c=48↔d=0:=by
    unfold Lute.digit at hd;split at hd
    ·cases hd;rename_i h;have h1:48<=c.toNat:=h.1;rw[←PY];show c.toNat=48↔_;omega
    ·cases hd
   cases d with
   |zero=>rw[Dm (by simp[h48.mpr rfl])];rfl
   |succ d=>
    rw[Dn (by simp;intro q;exact absurd (h48.mp q) (by omega))];exact Q3 7 t 1 (d+1) (p+1) (by omega) (by omega)
theorem YZ (p:Nat) (l:List UInt8):mSg dz0 l=fg (Lute.signed p l):=by
 cases l with
 |nil=>rfl
 |cons c t=>
  unfold mSg;rw[CZ (z:="-") (x:=45) rfl,Lute.signed.eq_def];dsimp only;by_cases h:c=45
  ·rw[Dm (by simp[h]),Dm h,FN (z:="-") (x:=45) rfl,Dm h];show(if see "0" t=true then none else match wn dz0 4 t with
    |none=>none
    |some (n,u)=>some (-(n:Int),u))=_
   cases t with
   |nil=>rfl
   |cons y u=>
    rw[CZ (z:="0") (x:=48) rfl];by_cases h2:y=48
    ·subst h2;rfl
    ·rw[Dn (by simp[h2])];have e:(match (y::u:List UInt8) with
      |48::_=>Bu (p+1)
      |_=>match Lute.number (p+1) (y::u) with
       | .error e=>.error e
       | .ok (n,q,v)=>.ok (-((n:Nat):Int),q,v))=(match Lute.number (p+1) (y::u) with
       | .error e=>(.error e:Lute.Rd Int)
       | .ok (n,q,v)=>.ok (-((n:Nat):Int),q,v)):=by
      split
      ·rename_i q;cases q;exact absurd rfl h2
      ·rfl
     refine uP ?_ (congrArg fg e).symm;rw[K6 (p+1)];cases Lute.number (p+1) (y::u) with
     |error e=>rfl
     |ok x=>obtain⟨n,q,v⟩:=x;rfl
  ·rw[Dn (by simp[h]),Dn h,K6 p];cases Lute.number p (c::t) with
   |error e=>rfl
   |ok x=>obtain⟨n,q,v⟩:=x;rfl
def Y0:Except Nat ((Nat×Option (Int×Nat))×Nat×List UInt8)->Option (List Int×List UInt8)
 | .error _=>none
 | .ok ((_,none),_,_)=>none
 | .ok ((_,some (n,d)),_,u)=>some ([n,(d:Int)],u)
theorem lD (p k:Nat) (c:UInt8) (r:List UInt8) (hk:[(50:UInt8),51,53,55].idxOf? c=some k):mPw dz0 r=Y0 (Lute.factorAt p (c::r)):=by
 rw[Lute.factorAt.eq_def];dsimp only;rw[hk];dsimp only;cases r with
 |nil=>rfl
 |cons y u=>
  unfold mPw;rw[CZ (z:="^") (x:=94) rfl];by_cases h:y=94
  ·subst h;rw[Dm (by simp),FN (z:="^") (x:=94) rfl,Dm rfl];show(match mSg dz0 u with
    |none=>none
    |some (n,u)=>_)=Y0 (match Lute.signed (p+1+1) u with
    | .error e=>.error e
    | .ok (n,q,v)=>match v with
      |47::w=>(match Lute.number (q+1) w with
       | .error e=>.error e
       | .ok (d,z,t)=>.ok ((k,if 2<=d/\ow n.natAbs d=1 then some (n,d) else none),z,t))
      |_=>.ok ((k,if n=0\/n=1 then none else some (n,1)),q,v))
   rw[YZ (p+1+1)];cases hs:Lute.signed (p+1+1) u with
   |error e=>rfl
   |ok x=>
    obtain⟨n,q,v⟩:=x;show(if see "/" v=true then _ else _)=_;cases v with
    |nil=>
     rw[Dn (by decide)];show _=Y0 (.ok ((k,if n=0\/n=1 then none else some (n,1)),q,[]));by_cases hn:n=0\/n=1
     ·rw[Dm hn,Dm hn];rfl
     ·rw[Dn hn,Dn hn];rfl
    |cons z w=>
     rw[CZ (z:="/") (x:=47) rfl];by_cases h2:z=47
     ·subst h2;rw[Dm (by simp),FN (z:="/") (x:=47) rfl,Dm rfl];show(match wn dz0 4 w with
       |none=>none
       |some (d,y)=>_)=Y0 (match Lute.number (q+1) w with
        | .error e=>.error e
        | .ok (d,z,t)=>.ok ((k,if 2<=d/\ow n.natAbs d=1 then some (n,d) else none),z,t))
      rw[K6 (q+1)];cases hw:Lute.number (q+1) w with
      |error e=>rfl
      |ok x=>
       obtain⟨d,z',t⟩:=x;show(if d<2\/1<qr n d then none else some ([n,(d:Int)],t))=Y0 (.ok ((k,if 2<=d/\ow n.natAbs d=1 then some (n,d) else none),z',t));have eg:qr n d=ow n.natAbs d:=rfl;by_cases hc:2<=d/\ow n.natAbs d=1
       ·rw[Dm hc,Dn (by rw[eg];omega)];rfl
       ·rw[Dn hc];have hp:0<d->0<ow n.natAbs d:=λhd=>Nat.gcd_pos_of_pos_right _ hd;rw[Dm (by rw[eg];by_cases h3:d<2;exact .inl h3;right;have:=hp (by omega);omega)];rfl
     ·rw[Dn (by simp[h2])];have e:(match (z::w:List UInt8) with
       |47::w=>(match Lute.number (q+1) w with
        | .error e=>.error e
        | .ok (d,z,t)=>.ok ((k,if 2<=d/\ow n.natAbs d=1 then some (n,d) else none),z,t))
       |_=>.ok ((k,if n=0\/n=1 then none else some (n,1)),q,z::w))=(.ok ((k,if n=0\/n=1 then none else some (n,1)),q,z::w):Lute.Rd (Nat×Option (Int×Nat))):=by
       split
       ·rename_i q;cases q;exact absurd rfl h2
       ·rfl
      refine uP ?_ (congrArg Y0 e).symm;by_cases hn:n=0\/n=1
      ·rw[Dm hn,Dm hn];rfl
      ·rw[Dn hn,Dn hn];rfl
  ·rw[Dn (by simp[h])];split
   ·rename_i q;cases q;exact absurd rfl h
   ·rfl
def chk:Option (List Int×List UInt8)->Option (List Int)
 |none=>none
 |some (y,_)=>if EW y=true then some y else none
theorem lE (k:Nat) (n:Int) (d:Nat) (hk:k<4):LZ k n (d:Int)=ro (Lute.powerOf k n d):=by
 match k,hk with
 |0,_=>rfl
 |1,_=>rfl
 |2,_=>rfl
 |3,_=>rfl
theorem VJ {c:UInt8} {r:List UInt8} {k:Nat} {w:Option (Int×Nat)} {u:List UInt8} (h:Lute.factorAt p (c::r)= .ok ((k,w),q,u)):[(50:UInt8),51,53,55].idxOf? c=some k:=by
 rw[Lute.factorAt.eq_def] at h;dsimp only at h;cases hk:[(50:UInt8),51,53,55].idxOf? c with
 |none=>rw[hk] at h;cases h
 |some j=>
  rw[hk] at h;dsimp only at h;split at h
  ·split at h
   ·cases h
   ·split at h
    ·split at h
     ·cases h
     ·cases h;rfl
    ·cases h;rfl
  ·cases h;rfl
theorem bU:∀(f least p:Nat) (x:Iv) (l:List UInt8),chk (mFc dz0 fz0 f least (ro x) l)=(fe (Lute.factorsAt f least x p l)).map ro
 |0,least,p,x,l=>rfl
 |f+1,least,p,x,l=>by
  rw[mFc,Lute.factorsAt];cases l with
  |nil=>rfl
  |cons c r=>
   rw[BW,e9];cases hk:[(50:UInt8),51,53,55].idxOf? c with
   |none=>
    have e:Lute.factorAt p (c::r)= .error p:=by
     rw[Lute.factorAt.eq_def];dsimp only;rw[hk]
    rw[e];rfl
   |some k=>
    show chk (match mPw dz0 r with
     |none=>none
     |some (x_1,u)=>_)=_
    have hk4:k<4:=by
     have:=(wf.mp hk).1;simpa using this
    rw[lD p k c r hk];cases hfa:Lute.factorAt p (c::r) with
    |error e=>rfl
    |ok y=>
     obtain⟨⟨k',w⟩,q,u⟩:=y;have ek:k'=k:=by have:=VJ hfa;rw[hk] at this;exact(cz this).symm
     subst ek;cases w with
     |none=>
      dsimp only;by_cases hl:k'<least
      ·rw[Dm hl];rfl
      ·rw[Dn hl];rfl
     |some nd=>
      obtain⟨n,d⟩:=nd;show chk (if k'<least then none else _)=_;dsimp only;by_cases hl:k'<least
      ·rw[Dm hl,Dm hl];rfl
      ·rw[Dn hl,Dn hl];have e1:BQ (LZ k' (([n,(d:Int)]:List Int).getD 0 0) (([n,(d:Int)]:List Int).getD 1 0)) (ro x)=ro (x.plus (Lute.powerOf k' n d)):=by
        show BQ (LZ k' n (d:Int)) (ro x)=_;rw[lE k' n d hk4,XD,GK]
       rw[e1];cases u with
       |nil=>
        show(if EW (ro (x.plus (Lute.powerOf k' n d)))=true then some (ro (x.plus (Lute.powerOf k' n d))) else none)=(fe (if(x.plus (Lute.powerOf k' n d)).ok=true then Except.ok (x.plus (Lute.powerOf k' n d)) else Bu q)).map ro;rw[XC];by_cases hy:(x.plus (Lute.powerOf k' n d)).ok=true
        ·rw[Dm hy,Dm hy];rfl
        ·rw[Dn hy,Dn hy];rfl
       |cons z v=>
        rw[Dn (by simp),FN (z:=" ") (x:=32) rfl];dsimp only;by_cases hz:z=32
        ·rw[Dm hz,Dm hz];exact bU f (k'+1) (q+1) _ v
        ·rw[Dn hz,Dn hz];rfl
theorem bV (l:List UInt8):mIv dz0 fz0 l=(fe (Lute.read l)).map ro:=by
 have e2:∀l,(match SN dz0 fz0 l with
  |none=>none
  |some (x,_)=>if EW x=true then some x else none)=(fe (Lute.factorsAt (l.length+1) 0 Lute.unison 0 l)).map ro:=λl=>by
  have:=bU (l.length+1) 0 0 Lute.unison l;rw[rA] at this;rw[←this];unfold SN;cases mFc dz0 fz0 (l.length+1) 0 un5 l with
  |none=>rfl
  |some y=>obtain⟨y,t⟩:=y;rfl
 unfold mIv;cases l with
 |nil=>exact e2 []
 |cons c r=>
  rw[CZ (z:="1") (x:=49) rfl];by_cases h:c=49
  ·subst h;rw[Dm (by simp)];unfold mUn;rw[FN (z:="1") (x:=49) rfl,Dm rfl];cases r with
   |nil=>rfl
   |cons y u=>rfl
  ·rw[Dn (by simp[h])];refine(e2 (c::r)).trans ?_;have:Lute.read (c::r)=Lute.factorsAt ((c::r).length+1) 0 Lute.unison 0 (c::r):=by
    unfold Lute.read;split
    ·rename_i q;cases q;exact absurd rfl h
    ·rfl
   rw[this]
theorem bW {b:List UInt8} {x:Iv} (h:Lute.read b= .ok x):0<x.d:=by
 have e:mIv dz0 fz0 b=some (ro x):=by rw[bV,h];rfl
 have:=(aW e).2.2.1;rw[IQ] at this;have h2:(1:Int)<=(x.d:Int):=this;omega
def bX (g:List Int->Bool) (l:List UInt8):Option (List Int×List UInt8):=match sk (" ":Str).cps.toList l with
 |none=>none
 |some (_,t)=>match DC dz0 fz0 t with
  |none=>none
  |some (x,u)=>if g x=true then(match sk ("\n":Str).cps.toList u with
   |none=>none
   |some (_,v)=>some (x,v)) else none
def rx:Option (Iv×List UInt8)->Option (List Int×List UInt8)
 |none=>none
 |some (x,t)=>some (ro x,t)
theorem lF (g:List Int->Bool) (fine:Iv->Bool) (h:∀x:Iv,0<x.d->g (ro x)=fine x) (p:Nat) (l:List UInt8):bX g l=rx (fg (Lute.ivLine fine p l)):=by
 unfold bX Lute.ivLine;have e1:sk (" ":Str).cps.toList l=fg (Lute.want [32] p l):=(IG [32] p l).symm;rw[e1];cases hw:Lute.want [32] p l with
 |error e=>rfl
 |ok y=>
  obtain⟨_,q,u⟩:=y;show(match DC dz0 fz0 u with
   |none=>none
   |some (x,u)=>_)=rx (fg (match Lute.read (u.takeWhile λ(c:UInt8)=>c != 10) with
   | .error e=>.error (q+e)
   | .ok x=>if fine x=false then .error q else match Lute.want [10] (q+(u.takeWhile λ(c:UInt8)=>c != 10).length) (u.drop (u.takeWhile λ(c:UInt8)=>c != 10).length) with
     | .error e=>.error e
     | .ok (_,z,v)=>.ok (x,z,v)))
  have e2:u.takeWhile lf=u.takeWhile λ(c:UInt8)=>c != 10:=rfl;unfold DC;rw[e2,bV];generalize hb:(u.takeWhile λ(c:UInt8)=>c != 10)=b;cases hr:Lute.read b with
  |error e=>rfl
  |ok x=>
   show(if g (ro x)=true then _ else _)=_;rw[h x (bW hr)];cases hf:fine x with
   |false=>
    dsimp only;rw[Dm hf];rfl
   |true=>
    rw[Dm rfl];dsimp only;rw[Dn (by rw[hf];decide)];have e3:sk ("\n":Str).cps.toList (u.drop b.length)=fg (Lute.want [10] (q+b.length) (u.drop b.length)):=(IG [10] _ _).symm;rw[e3];cases Lute.want [10] (q+b.length) (u.drop b.length) with
    |error e=>rfl
    |ok y=>obtain⟨_,z,v⟩:=y;rfl
def VL (z:Str) (m:Bool) (g:List Int->Bool) (put:List Int->St3) (l:List UInt8):Option (St3×List UInt8):=match sk z.cps.toList l with
 |none=>none
 |some (_,t)=>if m=true then(match bX g t with
  |none=>none
  |some (x,v)=>some (put x,v)) else none
theorem Q4 {m:Bool} {g:List Int->Bool} {put:List Int->St3} {l:List UInt8}:
 (match (match mSW z m l with
  |none=>none
  |some (_,t)=>match DC dz0 fz0 t with
   |none=>none
   |some (x,u)=>if g x=true then some (put x,u) else none:Option (St3×List UInt8)) with
 |none=>none
 |some (s',t)=>match sk ("\n":Str).cps.toList t with
  |none=>none
  |some (_,u)=>some (s',u))=VL z m g put l:=by
 unfold VL mSW bX;cases sk z.cps.toList l with
 |none=>rfl
 |some y=>
  obtain⟨_,t⟩:=y;cases m with
  |false=>rfl
  |true=>
   simp only[if_true];cases sk (" ":Str).cps.toList t with
   |none=>rfl
   |some y=>
    obtain⟨_,t⟩:=y;simp only;cases DC dz0 fz0 t with
    |none=>rfl
    |some y=>
     obtain⟨x,u⟩:=y;simp only;cases hg:g x with
     |false=>rfl
     |true=>
      simp only[if_true];cases sk ("\n":Str).cps.toList u with
      |none=>rfl
      |some y=>obtain⟨_,v⟩:=y;rfl
theorem fB {l:List UInt8} (h:see "f" l=true/\co.length=0):DA dz0 fz0 (fr,co,ba) l=VL "fret" (decide (fr.length<15)) (λx=>BG (fr.getLastD un5) x) (λx=>(fr++[x],co,ba)) l:=by
 unfold DA;rw[HQ,Dm h,NR, ←Q4];all_goals rfl
theorem fC {l:List UInt8} (h1:¬(see "f" l=true/\co.length=0)) (h:see "c" l=true/\ba.length=0):DA dz0 fz0 (fr,co,ba) l=VL "course" (decide (co.length+ba.length<14)) (λx=>fr.all λf=>EW (BQ f x)) (λx=>(fr,co++[x],ba)) l:=by
 unfold DA;rw[HQ,Dn h1,Dm h,FW, ←Q4];all_goals rfl
theorem fD {l:List UInt8} (h1:¬(see "f" l=true/\co.length=0)) (h2:¬(see "c" l=true/\ba.length=0)) (h:see "b" l=true/\0<co.length):DA dz0 fz0 (fr,co,ba) l=VL "bass" (decide (co.length+ba.length<14)) (λx=>true) (λx=>(fr,co,ba++[x])) l:=by
 unfold DA;rw[HQ,Dn h1,Dn h2,Dm h,J5, ←Q4];simp only[if_true];all_goals rfl
theorem XE {l:List UInt8} (h1:¬(see "f" l=true/\co.length=0)) (h2:¬(see "c" l=true/\ba.length=0)) (h3:¬(see "b" l=true/\0<co.length)):DA dz0 fz0 (fr,co,ba) l=none:=by
 unfold DA;rw[HQ,Dn h1,Dn h2,Dn h3]
def sLn (bs:List UInt8) (m:Bool) (fine:Iv->Bool) (put:Iv->Lute.Inst) (k:Lute.Inst->Nat->List UInt8->Except Nat Lute.Inst) (p:Nat) (l:List UInt8):Except Nat Lute.Inst:=match Lute.want bs p l with
 | .error e=>.error e
 | .ok (_,q,u)=>if m=true then .error p else match Lute.ivLine fine q u with
   | .error e=>.error e
   | .ok (x,q,u)=>k (put x) q u
def fr3 (t:Lute.Inst):St3:=(t.frets.map ro,t.courses.map ro,t.basses.map ro)
theorem MW:∀{bs:List UInt8} {p q:Nat} {l u:List UInt8},Lute.want bs p l= .ok ((),q,u)->u.length+bs.length=l.length
 |[],p,q,l,u,h=>by rw[Lute.want] at h;cases h;rfl
 |x::bs,p,q,[],u,h=>by rw[Lute.want] at h;cases h
 |x::bs,p,q,c::l,u,h=>by
  rw[Lute.want] at h;split at h
  ·have:=MW h;simp only[de];omega
  ·cases h
theorem bY {fine:Iv->Bool} {l u:List UInt8} {x:Iv} (h:Lute.ivLine fine p l= .ok (x,q,u)):0<x.d/\u.length<=l.length:=by
 unfold Lute.ivLine at h;cases hw:Lute.want [32] p l with
 |error e=>rw[hw] at h;cases h
 |ok y=>
  obtain⟨_,q',t⟩:=y;have h1:=MW hw;rw[hw] at h;dsimp only at h;cases hr:Lute.read (t.takeWhile λ(c:UInt8)=>c != 10) with
  |error e=>rw[hr] at h;cases h
  |ok y=>
   rw[hr] at h;dsimp only at h;split at h
   ·cases h
   ·split at h
    ·cases h
    ·rename_i hw2;cases h;have h2:=MW hw2;rw[fw] at h2;exact⟨bW hr,by omega⟩
theorem Q5 {bs:List UInt8} {m m':Bool} {g:List Int->Bool} {fine:Iv->Bool} {put:List Int->St3} {put':Iv->Lute.Inst} {k:Lute.Inst->Nat->List UInt8->Except Nat Lute.Inst} {F:St3->List UInt8->Option St3} {l:List UInt8}
 (hz:z.cps.toList=bs.map (·.toNat)) (hm:m'=!m) (hg:∀x:Iv,0<x.d->g (ro x)=fine x) (hp:∀x,put (ro x)=fr3 (put' x)) (hk:∀x q u,0<x.d->u.length+bs.length<=l.length->F (put (ro x)) u=(fe (k (put' x) q u)).map fr3):
 (match VL z m g put l with
  |none=>none
  |some (s,t)=>F s t)=(fe (sLn bs m' fine put' k p l)).map fr3:=by
 unfold VL sLn;have e1:sk z.cps.toList l=fg (Lute.want bs p l):=by rw[hz];exact(IG bs p l).symm
 rw[e1];cases hw:Lute.want bs p l with
 |error e=>rfl
 |ok y=>
  obtain⟨_,q,u⟩:=y;have hl:=MW hw;subst hm;cases m with
  |false=>rfl
  |true=>
   show(match (match bX g u with
    |none=>none
    |some (x,v)=>some (put x,v):Option (St3×List UInt8)) with
    |none=>none
    |some (s,t)=>F s t)=(fe (match Lute.ivLine fine q u with
    | .error e=>.error e
    | .ok (x,q,u)=>k (put' x) q u)).map fr3
   rw[lF g fine hg q u];cases hv:Lute.ivLine fine q u with
   |error e=>rfl
   |ok y=>
    obtain⟨x,q2,v⟩:=y;have hd:=bY hv;exact hk x q2 v hd.1 (by omega)
theorem bZ:∀(l:List Iv),(l.map ro).getLastD un5=ro (l.getLastD Lute.unison):=λl=>by
 rw[jt,jt,yr];cases l.getLast?<;>rfl
theorem fE {l:List Iv} (h:∀x∈l,0<x.d):0<(l.getLastD Lute.unison).d:=by
 rw[jt];cases hl:l.getLast? with
 |none=>decide
 |some x=>exact h x (xp hl)
theorem lG (l:List Iv) (x:Iv):((l.map ro).all λf=>EW (BQ f (ro x)))=Lute.soundsAll l x:=by
 unfold Lute.soundsAll;rw[List.all_map];congr 1;funext f;show EW (BQ (ro f) (ro x))=_;rw[XD,GK,XC]
theorem isE (l:List α):l.isEmpty=true↔l.length=0:=by cases l<;>simp
theorem PZ:∀(f p:Nat) (t:Lute.Inst) (l:List UInt8),l.length<f->InK t->CJ dz0 fz0 f (fr3 t) l=(fe (Lute.linesAt f t p l)).map fr3
 |0,p,t,l,h,_=>by omega
 |f+1,p,t,[],h,hi=>by
  show CJ dz0 fz0 (f+1) (t.frets.map ro,t.courses.map ro,t.basses.map ro) []=_;rw[J7,Lute.linesAt];by_cases hc:t.courses.isEmpty=true
  ·rw[Dm hc,Dn (by rw[ai];exact λq=>q.2 ((isE _).mp hc)),XE (by rw[J9];rintro ⟨q,_⟩;cases q) (by rw[J9];rintro ⟨q,_⟩;cases q) (by rw[J9];rintro ⟨q,_⟩;cases q)];rfl
  ·rw[Dn hc,Dm ⟨rfl,by rw[ai];exact λq=>hc ((isE _).mpr q)⟩];rfl
 |f+1,p,t,c::r,h,hi=>by
  show CJ dz0 fz0 (f+1) (t.frets.map ro,t.courses.map ro,t.basses.map ro) (c::r)=_;rw[J7,Lute.linesAt,Dn (by rintro ⟨q,_⟩;cases q)];have hlen:r.length<f:=by simpa using h
  have ih:∀(t':Lute.Inst) (q:Nat) (u:List UInt8),InK t'->u.length<f->CJ dz0 fz0 f (fr3 t') u=(fe (Lute.linesAt f t' q u)).map fr3:=λt' q u h1 h2=>PZ f q t' u h2 h1;have c1:(see "f" (c::r)=true/\(t.courses.map ro).length=0)↔(c=102/\t.courses.isEmpty=true):=by rw[CZ (z:="f") (x:=102) rfl,ai,isE];simp
  have c2:(see "c" (c::r)=true/\(t.basses.map ro).length=0)↔(c=99/\t.basses.isEmpty=true):=by rw[CZ (z:="c") (x:=99) rfl,ai,isE];simp
  have c3:(see "b" (c::r)=true/\0<(t.courses.map ro).length)↔(c=98/\t.courses.isEmpty=false):=by
   rw[CZ (z:="b") (x:=98) rfl,ai];cases t.courses<;>simp
  by_cases k1:c=102/\t.courses.isEmpty=true
  ·rw[Dm k1,fB (c1.mpr k1)];have:=Q5 (z:="fret") (bs:=Lute.ascii "fret") (m:=decide ((t.frets.map ro).length<15)) (m':=decide (Lute.FRETS<=t.frets.length)) (g:=λx=>BG ((t.frets.map ro).getLastD un5) x) (fine:=λ(x:Iv)=>(t.frets.getLastD Lute.unison).lt x)
    (put:=λx=>(t.frets.map ro++[x],t.courses.map ro,t.basses.map ro)) (put':=λx=>{ t with frets:=t.frets++[x] }) (k:=λt' q u=>Lute.linesAt f t' q u) (F:=λs t=>CJ dz0 fz0 f s t) (p:=p) (l:=c::r) (by decide +kernel)
    (by rw[ai, ←decide_not,decide_eq_decide];show 15<=_↔_;omega) (λx hx=>by rw[bZ];exact LK _ _ (fE hi.1) hx) (λx=>by show _=fr3 _;unfold fr3;simp)
    (λx q u hx hu=>by
     have e:(t.frets.map ro++[ro x],t.courses.map ro,t.basses.map ro)=fr3 { t with frets:=t.frets++[x] }:=by unfold fr3;simp
     show CJ dz0 fz0 f (t.frets.map ro++[ro x],t.courses.map ro,t.basses.map ro) u=_;rw[e];refine ih _ q u ⟨λy hy=>?_,hi.2.1,hi.2.2⟩ ?_
     ·rcases bu.mp hy with hy|hy
      ·exact hi.1 y hy
      ·rw[fq.mp hy];exact hx
     ·have hb:(Lute.ascii "fret").length=4:=by decide +kernel
      rw[hb] at hu;simp at hu;omega)
   refine uP this ?_;unfold sLn;cases Lute.want (Lute.ascii "fret") p (c::r) with
   |error e=>rfl
   |ok y=>
    obtain⟨_,q,u⟩:=y;dsimp only;by_cases hF:Lute.FRETS<=t.frets.length
    ·rw[Dm (by simpa using hF),Dm hF]
    ·rw[Dn (by simpa using hF),Dn hF];rfl
  ·rw[Dn k1];by_cases k2:c=99/\t.basses.isEmpty=true
   ·rw[Dm k2,fC (λq=>k1 (c1.mp q)) (c2.mpr k2)];have:=Q5 (z:="course") (bs:=Lute.ascii "course") (m:=decide ((t.courses.map ro).length+(t.basses.map ro).length<14)) (m':=decide (Lute.COURSES<=t.opens.length)) (g:=λx=>(t.frets.map ro).all λf=>EW (BQ f x)) (fine:=Lute.soundsAll t.frets)
     (put:=λx=>(t.frets.map ro,t.courses.map ro++[x],t.basses.map ro)) (put':=λx=>{ t with courses:=t.courses++[x] }) (k:=λt' q u=>Lute.linesAt f t' q u) (F:=λs t=>CJ dz0 fz0 f s t) (p:=p) (l:=c::r) (by decide +kernel)
     (by rw[ai,ai, ←decide_not,decide_eq_decide];unfold Lute.Inst.opens;rw[bp];show 14<=_↔_;omega) (λx hx=>lG _ _) (λx=>by show _=fr3 _;unfold fr3;simp)
     (λx q u hx hu=>by
      have e:(t.frets.map ro,t.courses.map ro++[ro x],t.basses.map ro)=fr3 { t with courses:=t.courses++[x] }:=by unfold fr3;simp
      show CJ dz0 fz0 f (t.frets.map ro,t.courses.map ro++[ro x],t.basses.map ro) u=_;rw[e];refine ih _ q u ⟨hi.1,λy hy=>?_,hi.2.2⟩ ?_
      ·rcases bu.mp hy with hy|hy
       ·exact hi.2.1 y hy
       ·rw[fq.mp hy];exact hx
      ·have hb:(Lute.ascii "course").length=6:=by decide +kernel
       rw[hb] at hu;simp at hu;omega)
    refine uP this ?_;unfold sLn;cases Lute.want (Lute.ascii "course") p (c::r) with
    |error e=>rfl
    |ok y=>
     obtain⟨_,q,u⟩:=y;dsimp only;by_cases hF:Lute.COURSES<=t.opens.length
     ·rw[Dm (by simpa using hF),Dm hF]
     ·rw[Dn (by simpa using hF),Dn hF];rfl
   ·rw[Dn k2];by_cases k3:c=98/\t.courses.isEmpty=false
    ·rw[Dm k3,fD (λq=>k1 (c1.mp q)) (λq=>k2 (c2.mp q)) (c3.mpr k3)];have:=Q5 (z:="bass") (bs:=Lute.ascii "bass") (m:=decide ((t.courses.map ro).length+(t.basses.map ro).length<14)) (m':=decide (Lute.COURSES<=t.opens.length)) (g:=λx=>true) (fine:=λ_=>true)
      (put:=λx=>(t.frets.map ro,t.courses.map ro,t.basses.map ro++[x])) (put':=λx=>{ t with basses:=t.basses++[x] }) (k:=λt' q u=>Lute.linesAt f t' q u) (F:=λs t=>CJ dz0 fz0 f s t) (p:=p) (l:=c::r) (by decide +kernel)
      (by rw[ai,ai, ←decide_not,decide_eq_decide];unfold Lute.Inst.opens;rw[bp];show 14<=_↔_;omega) (λx hx=>rfl) (λx=>by show _=fr3 _;unfold fr3;simp)
      (λx q u hx hu=>by
       have e:(t.frets.map ro,t.courses.map ro,t.basses.map ro++[ro x])=fr3 { t with basses:=t.basses++[x] }:=by unfold fr3;simp
       show CJ dz0 fz0 f (t.frets.map ro,t.courses.map ro,t.basses.map ro++[ro x]) u=_;rw[e];refine ih _ q u ⟨hi.1,hi.2.1,λy hy=>?_⟩ ?_
       ·rcases bu.mp hy with hy|hy
        ·exact hi.2.2 y hy
        ·rw[fq.mp hy];exact hx
       ·have hb:(Lute.ascii "bass").length=4:=by decide +kernel
        rw[hb] at hu;simp at hu;omega)
     refine uP this ?_;unfold sLn;cases Lute.want (Lute.ascii "bass") p (c::r) with
     |error e=>rfl
     |ok y=>
      obtain⟨_,q,u⟩:=y;dsimp only;by_cases hF:Lute.COURSES<=t.opens.length
      ·rw[Dm (by simpa using hF),Dm hF]
      ·rw[Dn (by simpa using hF),Dn hF];rfl
    ·rw[Dn k3,XE (λq=>k1 (c1.mp q)) (λq=>k2 (c2.mp q)) (λq=>k3 (c3.mp q))];rfl
theorem N3 (cs:List UInt8):J6 dz0 fz0 cs=(fe (Lute.readInst cs)).map fr3:=by
 unfold J6 YM Lute.readInst;have e1:sk ("length ":Str).cps.toList cs=fg (Lute.want (Lute.ascii "length ") 0 cs):=by
  rw[show("length ":Str).cps.toList=(Lute.ascii "length ").map (·.toNat) by decide +kernel];exact(IG _ 0 cs).symm
 rw[e1];cases Lute.want (Lute.ascii "length ") 0 cs with
 |error e=>rfl
 |ok y=>
  obtain⟨_,p,u⟩:=y;show(match (if see "0" u=true then none else match wn dz0 7 u with
   |none=>none
   |some (n,u)=>if n<10000\/200000<n then none else sk ("\n":Str).cps.toList u:Option (Unit×List UInt8)) with
   |none=>none
   |some (_,t)=>CJ dz0 fz0 (t.length+1) ([],[],[]) t)=(fe (match Lute.longNumber p u with
   | .error e=>.error e
   | .ok (n,q,v)=>if n<Lute.SHORT\/Lute.LONG<n then .error p else match Lute.want [10] q v with
     | .error e=>.error e
     | .ok (_,q,v)=>Lute.linesAt (v.length+1) ⟨n,[],[],[]⟩ q v)).map fr3
  have e2:(if see "0" u=true then none else match wn dz0 7 u with
   |none=>none
   |some (n,u)=>if n<10000\/200000<n then none else sk ("\n":Str).cps.toList u:Option (Unit×List UInt8))=match fg (Lute.longNumber p u) with
   |none=>none
   |some (n,u)=>if n<10000\/200000<n then none else sk ("\n":Str).cps.toList u:=by
   rw[←fA p u];by_cases h0:see "0" u=true
   ·rw[Dm h0,Dm h0]
   ·rw[Dn h0,Dn h0]
  rw[e2];cases Lute.longNumber p u with
  |error e=>rfl
  |ok y=>
   obtain⟨n,q,v⟩:=y;show(match (if n<10000\/200000<n then none else sk ("\n":Str).cps.toList v:Option (Unit×List UInt8)) with
    |none=>none
    |some (_,t)=>CJ dz0 fz0 (t.length+1) ([],[],[]) t)=(fe (if n<Lute.SHORT\/Lute.LONG<n then .error p else _)).map fr3
   by_cases hn:n<10000\/200000<n
   ·rw[Dm hn,Dm (show n<Lute.SHORT\/Lute.LONG<n from hn)];rfl
   ·rw[Dn hn,Dn (show¬(n<Lute.SHORT\/Lute.LONG<n) from hn)];have e3:sk ("\n":Str).cps.toList v=fg (Lute.want [10] q v):=(IG [10] q v).symm;rw[e3];cases Lute.want [10] q v with
    |error e=>rfl
    |ok y=>
     obtain⟨_,q2,v2⟩:=y;exact PZ (v2.length+1) q2 ⟨n,[],[],[]⟩ v2 (by omega) ⟨by simp,by simp,by simp⟩
theorem HX:∀(bs:List UInt8) (p:Nat) (l:List UInt8),fg (LuteTab.want bs p l)=sk (bs.map (·.toNat)) l
 |[],p,l=>rfl
 |x::bs,p,[]=>rfl
 |x::bs,p,c::t=>by
  rw[LuteTab.want,dc,sk];by_cases h:c=x
  ·rw[Dm h,Dm (by rw[h]),HX]
  ·rw[Dn h,Dn (λq=>h ((PY c x).mp q))];rfl
theorem rB (c:UInt8):BV (zF++".").cps.toList ((c.toNat:Nat):Int)=if c=46 then some 16 else LuteTab.letters.idxOf? c:=N2 (p:=λc=>BV (zF++".").cps.toList ((c.toNat:Nat):Int)=if c=46 then some 16 else LuteTab.letters.idxOf? c) (by decide +kernel) c
theorem rC (c:UInt8):BV (zI++".").cps.toList ((c.toNat:Nat):Int)=if c=46 then some 16 else LuteTab.figures.idxOf? c:=N2 (p:=λc=>BV (zI++".").cps.toList ((c.toNat:Nat):Int)=if c=46 then some 16 else LuteTab.figures.idxOf? c) (by decide +kernel) c
theorem hG (c:UInt8):BV zP.cps.toList ((c.toNat:Nat):Int)=LuteTab.capitals.idxOf? c:=N2 (p:=λc=>BV zP.cps.toList ((c.toNat:Nat):Int)=LuteTab.capitals.idxOf? c) (by decide +kernel) c
theorem hJ (c:UInt8):BV zX.cps.toList ((c.toNat:Nat):Int)=LuteTab.crossings.idxOf? c:=N2 (p:=λc=>BV zX.cps.toList ((c.toNat:Nat):Int)=LuteTab.crossings.idxOf? c) (by decide +kernel) c
theorem rD (c:UInt8):BV zL.cps.toList ((c.toNat:Nat):Int)=[(120:UInt8),116,115,101,113,104,119].idxOf? c:=N2 (p:=λc=>BV zL.cps.toList ((c.toNat:Nat):Int)=[(120:UInt8),116,115,101,113,104,119].idxOf? c) (by decide +kernel) c
theorem S0 (c:UInt8):BV ("4567":Str).cps.toList ((c.toNat:Nat):Int)=if 52<=c/\c<=55 then some (c.toNat - 52) else none:=N2 (p:=λc=>BV ("4567":Str).cps.toList ((c.toNat:Nat):Int)=if 52<=c/\c<=55 then some (c.toNat - 52) else none) (by decide +kernel) c
theorem fF (c:UInt8):BV ("789":Str).cps.toList ((c.toNat:Nat):Int)=if 55<=c/\c<=57 then some (c.toNat - 55) else none:=N2 (p:=λc=>BV ("789":Str).cps.toList ((c.toNat:Nat):Int)=if 55<=c/\c<=57 then some (c.toNat - 55) else none) (by decide +kernel) c
theorem Y1 (c:UInt8):BV ("01234":Str).cps.toList ((c.toNat:Nat):Int)=if 48<=c/\c<=52 then some (c.toNat - 48) else none:=N2 (p:=λc=>BV ("01234":Str).cps.toList ((c.toNat:Nat):Int)=if 48<=c/\c<=52 then some (c.toNat - 48) else none) (by decide +kernel) c
theorem P0 (c:UInt8):BV ("54321":Str).cps.toList ((c.toNat:Nat):Int)=if 49<=c/\c<=53 then some (53 - c.toNat) else none:=N2 (p:=λc=>BV ("54321":Str).cps.toList ((c.toNat:Nat):Int)=if 49<=c/\c<=53 then some (53 - c.toNat) else none) (by decide +kernel) c
theorem XF (c:UInt8) (n:Nat) (hn:n<256):(vQ n<=c↔n<=c.toNat)/\(c<=vQ n↔c.toNat<=n):=by
 have e:(vQ n).toNat=n:=by rw[x8];omega
 constructor
 ·rw[wP,e]
 ·rw[wP,e]
theorem b7 {l:List UInt8} {c:UInt8} (h:l.idxOf? c=some i):i<l.length:=(wf.mp h).1
theorem IH {signs:List UInt8} (hz:z.length=16) (hs:signs.length=16) (hi:∀c:UInt8,BV (z++".").cps.toList ((c.toNat:Nat):Int)=if c=46 then some 16 else signs.idxOf? c):∀(ns:List Nat) (p:Nat) (l:List UInt8),B7 z ns l=fg (LuteTab.sixAt signs ns p l)
 |[],p,l=>rfl
 |n::ns,p,[]=>rfl
 |n::ns,p,c::t=>by
  rw[B7,LuteTab.sixAt,BW,hi,LuteTab.fretAt];by_cases h:c=46
  ·rw[Dm h,Dm (show c=LuteTab.POINT from h)];show(match B7 z ns t with
    |none=>none
    |some (s,u)=>some ((if 16<z.length then⟨n,16⟩::s else s),u))=fg (match LuteTab.sixAt signs ns (p+1) t with
    | .error e=>.error e
    | .ok (s,z,v)=>.ok (s,z,v))
   rw[IH hz hs hi ns (p+1) t];cases LuteTab.sixAt signs ns (p+1) t with
   |error e=>rfl
   |ok y=>
    obtain⟨s,q,v⟩:=y;show some ((if 16<z.length then _ else s),v)=some (s,v);rw[Dn (by omega)]
  ·rw[Dn h,Dn (show¬c=LuteTab.POINT from h)];cases hx:signs.idxOf? c with
   |none=>rfl
   |some f=>
    have hf:=b7 hx;show(match B7 z ns t with
     |none=>none
     |some (s,u)=>some ((if f<z.length then⟨n,f⟩::s else s),u))=fg (match LuteTab.sixAt signs ns (p+1) t with
     | .error e=>.error e
     | .ok (s,z,v)=>.ok (⟨n,f⟩::s,z,v))
    rw[IH hz hs hi ns (p+1) t];cases LuteTab.sixAt signs ns (p+1) t with
    |error e=>rfl
    |ok y=>
     obtain⟨s,q,v⟩:=y;show some ((if f<z.length then _ else s),v)=some (⟨n,f⟩::s,v);rw[Dm (by omega)]
theorem hU:∀(l:List UInt8) (n p:Nat),n<=3->mSl (3 - n) l=fg (LuteTab.slashes n p l)
 |[],n,p,hn=>by
  rw[LuteTab.slashes.eq_def];match n,hn with
  |0,_=>rfl
  |1,_=>rfl
  |2,_=>rfl
  |3,_=>rfl
 |c::t,n,p,hn=>by
  by_cases h1:c=47
  ·subst h1;have e:LuteTab.slashes n p (47::t)=if n<3 then LuteTab.slashes (n+1) (p+1) t else .error p:=by rw[LuteTab.slashes.eq_def];rfl
   rw[e];by_cases h3:n<3
   ·obtain⟨m,hm⟩:∃m,3 - n=m+1:=⟨2 - n,by omega⟩
    rw[Dm h3,hm,mSl,CZ (z:="/") (x:=47) rfl,Dm (by simp),FN (z:="/") (x:=47) rfl,Dm rfl];show mSl m t=_;rw[show m=3 - (n+1) by omega];exact hU t (n+1) (p+1) (by omega)
   ·have:n=3:=by omega
    subst this;rw[Dn h3,yt,mSl,FN (z:="a") (x:=97) rfl,Dn (by decide)];rfl
  ·have e:LuteTab.slashes n p (c::t)=if c=97 then .ok (7+n,p+1,t) else .error p:=by
    by_cases h2:c=97
    ·subst h2;rw[Dm rfl,LuteTab.slashes.eq_def];rfl
    ·rw[Dn h2,LuteTab.slashes.eq_def];split
     ·rename_i q;cases q;exact absurd rfl h1
     ·rename_i q;cases q;exact absurd rfl h2
     ·rfl
   rw[e];have key:mSl (3 - n) (c::t)=match sk ("a":Str).cps.toList (c::t) with
    |none=>none
    |some (_,t)=>some (7+n,t):=by
    by_cases h3:n<3
    ·obtain⟨m,hm⟩:∃m,3 - n=m+1:=⟨2 - n,by omega⟩
     rw[hm,mSl,CZ (z:="/") (x:=47) rfl,Dn (by simp[h1]),show 9 - m=7+n by omega];all_goals rfl
    ·have:n=3:=by omega
     subst this;rw[yt,mSl];all_goals rfl
   rw[key,FN (z:="a") (x:=97) rfl];by_cases h2:c=97
   ·rw[Dm h2,Dm h2];rfl
   ·rw[Dn h2,Dn h2];rfl
theorem rE (p:Nat) (l:List UInt8):mFB l=fg (LuteTab.frenchBassAt p l):=by
 cases l with
 |nil=>rfl
 |cons c t=>
  unfold mFB;rw[LuteTab.frenchBassAt];have hs:see "4567" (c::t)=(if 52<=c/\c<=55 then some (c.toNat - 52) else none:Option Nat).isSome:=by
   show(BV ("4567":Str).cps.toList ((c.toNat:Nat):Int)).isSome=_;rw[S0]
  rw[hs,BW,S0];by_cases h:52<=c/\c<=55
  ·have h1:52<=c.toNat:=(XF c 52 (by decide)).1.mp h.1;rw[Dm h,Dm h];show some (7+4+(c.toNat - 52),t)=some (c.toNat - 48+7,t);congr 2;omega
  ·rw[Dn h,Dn h];exact hU (c::t) 0 p (by omega)
theorem hW (p:Nat) (l:List UInt8):mBN l=fg (LuteTab.numberAt p l):=by
 cases l with
 |nil=>rfl
 |cons c t=>
  unfold mBN;rw[LuteTab.numberAt.eq_def,CZ (z:="1") (x:=49) rfl,BW,fF];dsimp only;by_cases h:c=49
  ·subst h;rw[Dm (by simp),Dn (by decide),Dm rfl,FN (z:="1") (x:=49) rfl,Dm rfl];cases t with
   |nil=>rfl
   |cons d u=>
    show(match pk "01234" (d::u) with
     |none=>none
     |some (n,u)=>some (10+n,u))=fg (if 48<=d/\d<=52 then .ok (10+(d.toNat - 48),p+2,u) else .error (p+1))
    rw[BW,Y1];by_cases hd:48<=d/\d<=52
    ·rw[Dm hd,Dm hd];rfl
    ·rw[Dn hd,Dn hd];rfl
  ·rw[Dn (by simp[h])];by_cases h7:55<=c/\c<=57
   ·have h1:55<=c.toNat:=(XF c 55 (by decide)).1.mp h7.1;rw[Dm h7,Dm h7];show some (7+(c.toNat - 55),t)=some (c.toNat - 48,t);congr 2;omega
   ·rw[Dn h7,Dn h7,Dn h];rfl
theorem uC {l:List UInt8} (h:mFB l=some (n,t)):7<=n:=by
 unfold mFB at h;split at h
 ·cases hp:pk "4567" l with
  |none=>rw[hp] at h;cases h
  |some x=>obtain⟨i,y⟩:=x;rw[hp] at h;cases h;omega
 ·have:∀{f:Nat} {l t:List UInt8} {n:Nat},f<=3->mSl f l=some (n,t)->7<=n:=by
   intro f;induction f with
   |zero=>
    intro l t n _ h;rw[mSl] at h;split at h
    ·cases h
    ·cases h;omega
   |succ f ih=>
    intro l t n hf h;rw[mSl] at h;split at h
    ·split at h
     ·cases h
     ·exact ih (by omega) h
    ·split at h
     ·cases h
     ·cases h;omega
  exact this (by omega) h
theorem rF {l:List UInt8} (h:mBN l=some (n,t)):7<=n:=by
 unfold mBN at h;split at h
 ·split at h
  ·cases h
  ·split at h
   ·cases h
   ·cases h;omega
 ·split at h
  ·cases h
  ·cases h;omega
def D8:Option (List Stop×List UInt8)->Option (List Stop×List UInt8)
 |none=>none
 |some (s,t)=>match sk ("\n":Str).cps.toList t with
  |none=>none
  |some (_,u)=>some (s,u)
def LO (k:Nat) (acc:List Stop) (last:Nat):Prop:=∀s:Stop,k<=s.course->DB acc s=decide (last<s.course)
theorem XG (k:Nat) (acc:List Stop) (s:Stop):LO k (acc++[s]) s.course:=λs' _=>by
 unfold DB;rw[List.getLast?_append];rfl
theorem b8 (k:Nat) (hk:1<=k):LO k [] 0:=λs' h=>by
 unfold DB;exact(decide_eq_true (by omega)).symm
theorem XH {acc:List Stop} (h:∀s∈acc,s.course<=6):LO 7 acc 6:=λs' h'=>by
 unfold DB;cases hl:acc.getLast? with
 |none=>exact(decide_eq_true (by omega)).symm
 |some x=>
  have:=h x (xp hl);show decide (x.course<s'.course)=decide (6<s'.course);rw[decide_eq_decide];omega
theorem S1 (acc:List Stop) (s:Stop) (o:Option (List Stop×List UInt8)):pre (acc++[s]) o=pre acc (match o with
 |none=>none
 |some (l,t)=>some (s::l,t)):=by
 cases o with
 |none=>rfl
 |some x=>obtain⟨l,t⟩:=x;simp[pre]
theorem b9 {m:List UInt8->Option (Nat×List UInt8)} {rd:Nat->List UInt8->LuteTab.Rd Nat} (hm:∀p l,m l=fg (rd p l)) (h7:∀{l t n},m l=some (n,t)->7<=n) (hl:∀{l t n},m l=some (n,t)->t.length<l.length):
 ∀(f:Nat) (acc:List Stop) (last p:Nat) (l:List UInt8),l.length<f->LO 7 acc last->D8 (mBs m f acc l)=pre acc (fg (LuteTab.bassesAt rd f last p l))
 |0,_,_,_,l,h,_=>by omega
 |f+1,acc,last,p,[],h,lo=>by
  rw[mBs,LuteTab.bassesAt,J9,Dn (by decide)];rfl
 |f+1,acc,last,p,c::r,h,lo=>by
  rw[mBs,LuteTab.bassesAt,CZ (z:=" ") (x:=32) rfl];by_cases h1:c=10
  ·subst h1;rw[Dn (by decide),Dm (show(10:UInt8)=LuteTab.END from rfl)];show(match sk ("\n":Str).cps.toList (10::r) with
    |none=>none
    |some (_,u)=>some (acc,u))=_
   rw[FN (z:="\n") (x:=10) rfl,Dm rfl];simp[pre,fg]
  ·rw[Dn (show¬c=LuteTab.END from h1)];by_cases h2:c=32
   ·subst h2;rw[Dm (by simp),Dn (by intro q;exact q rfl),FN (z:=" ") (x:=32) rfl,Dm rfl];show D8 (match m r with
     |none=>none
     |some (b,u)=>if DB acc ⟨b,0⟩=true then mBs m f (acc++[⟨b,0⟩]) u else none)=_
    have hr:=hm (p+1) r;rw[hr];cases hrd:rd (p+1) r with
    |error e=>rfl
    |ok y=>
     obtain⟨b,q,u⟩:=y;have hmr:m r=some (b,u):=by rw[hr,hrd];rfl
     have hb:=h7 hmr;have hlen:=hl hmr;show D8 (if DB acc ⟨b,0⟩=true then mBs m f (acc++[⟨b,0⟩]) u else none)=pre acc (fg (if b<=last then .error (p+1) else match LuteTab.bassesAt rd f b q u with
      | .error e=>.error e
      | .ok (l,z,v)=>.ok (⟨b,0⟩::l,z,v)))
     rw[lo ⟨b,0⟩ hb];by_cases Dl:last<b
     ·rw[Dm (by simpa using Dl),Dn (by omega)];have hrl:r.length<f:=by simpa using h
      have ihh:=b9 hm h7 hl f (acc++[(⟨b,0⟩:Stop)]) b q u (by omega) (XG 7 acc (⟨b,0⟩:Stop));rw[ihh,S1];cases LuteTab.bassesAt rd f b q u with
      |error e=>rfl
      |ok y=>obtain⟨l,z,v⟩:=y;rfl
     ·rw[Dn (by simpa using Dl),Dm (by omega)];rfl
   ·rw[Dn (by simp[h2]),Dm (show c≠LuteTab.BLANK from h2)];show(match sk ("\n":Str).cps.toList (c::r) with
     |none=>none
     |some (_,u)=>some (acc,u))=_
    rw[FN (z:="\n") (x:=10) rfl,Dn h1];rfl
theorem iA (c:UInt8) (hc:(BV zX.cps.toList ((c.toNat:Nat):Int)).isSome=true):∀(f j:Nat) (t:List UInt8),mTm ((c.toNat:Nat):Int) f j t=some (j+LuteTab.again c f t,t.drop (LuteTab.again c f t))
 |0,j,t=>by rw[mTm,LuteTab.again];rfl
 |f+1,j,[]=>by
  have:¬bt []=((c.toNat:Nat):Int):=by
   show¬(256:Int)=_;have:=z5 c;omega
  have e0:LuteTab.again c (f+1) []=0:=rfl;rw[mTm,Dn this,e0];rfl
 |f+1,j,x::r=>by
  rw[mTm,LuteTab.again];have e:(bt (x::r)=((c.toNat:Nat):Int))↔x=c:=by
   rw[←PY];show((x.toNat:Nat):Int)=_↔_;omega
  by_cases h:x=c
  ·subst h;rw[Dm (e.mpr rfl),Dm rfl,BW];obtain⟨i,hi⟩:=rb.mp hc;rw[hi];show mTm ((x.toNat:Nat):Int) f (j+1) r=_;rw[iA x hc f (j+1) r,xI];congr 2;omega
  ·rw[Dn (λq=>h (e.mp q)),Dn h];rfl
theorem rG (p:Nat) (l:List UInt8):mGS l=fg (LuteTab.germanAt p l):=by
 cases l with
 |nil=>rfl
 |cons c t=>
  unfold mGS;rw[CZ (z:="-") (x:=45) rfl,LuteTab.germanAt.eq_def];dsimp only;have hs5:see "54321" (c::t)=(if 49<=c/\c<=53 then some (53 - c.toNat) else none:Option Nat).isSome:=by
   show(BV ("54321":Str).cps.toList ((c.toNat:Nat):Int)).isSome=_;rw[P0]
  have hsP:see zP (c::t)=(LuteTab.capitals.idxOf? c).isSome:=by
   show(BV zP.cps.toList ((c.toNat:Nat):Int)).isSome=_;rw[hG]
  by_cases h:c=45
  ·subst h;rw[Dm (by simp),Dn (by decide),Dm rfl,FN (z:="-") (x:=45) rfl,Dm rfl];show(match mBN t with
    |none=>none
    |some (n,u)=>some ((⟨n,0⟩:Stop),u))=_
   rw[hW (p+1)];cases LuteTab.numberAt (p+1) t with
   |error e=>rfl
   |ok y=>obtain⟨b,q,u⟩:=y;rfl
  ·rw[Dn (by simp[h]),hs5,BW,P0];by_cases h5:49<=c/\c<=53
   ·have h1:49<=c.toNat:=(XF c 49 (by decide)).1.mp h5.1;have h2:c.toNat<=53:=(XF c 53 (by decide)).2.mp h5.2;rw[Dm h5,Dm h5];show some ((⟨1+(53 - c.toNat),0⟩:Stop),t)=some (⟨6 - (c.toNat - 48),0⟩,t);congr 3;omega
   ·rw[Dn h5,Dn h5,Dn h,hsP,BW,hG];cases hP:LuteTab.capitals.idxOf? c with
    |some f=>rfl
    |none=>
     show mCr (c::t)=_;unfold mCr;rw[BW,hJ];cases hX:LuteTab.crossings.idxOf? c with
     |none=>rfl
     |some i=>
      show(match mTm ((c.toNat:Nat):Int) 2 0 t with
       |none=>none
       |some (j,u)=>some ((⟨5 - i%5,1+i / 5+5*j⟩:Stop),u))=some (⟨5 - i%5,5*LuteTab.again c 2 t+i / 5+1⟩,t.drop (LuteTab.again c 2 t))
      rw[iA c (by rw[hJ,hX];rfl)];show some ((⟨5 - i%5,1+i / 5+5*(0+LuteTab.again c 2 t)⟩:Stop),_)=_;congr 3;omega
theorem uD {l:List UInt8} {s:Stop} (h:mGS l=some (s,t)):1<=s.course:=by
 unfold mGS at h;split at h
 ·split at h
  ·cases h
  ·split at h
   ·cases h
   ·rename_i hb;cases h;exact cu (by decide) (rF hb)
 ·split at h
  ·split at h
   ·cases h
   ·cases h;show 1<=1+_;omega
  ·split at h
   ·split at h
    ·cases h
    ·cases h;show 1<=6;omega
   ·unfold mCr at h;split at h
    ·cases h
    ·split at h
     ·cases h
     ·cases h;show 1<=5 - _;omega
theorem cA:∀(f:Nat) (acc:List Stop) (last p:Nat) (l:List UInt8),l.length<f->LO 1 acc last->D8 (mGl f acc l)=pre acc (fg (LuteTab.germanStops f last p l))
 |0,_,_,_,l,h,_=>by omega
 |f+1,acc,last,p,l,h,lo=>by
  rw[mGl,LuteTab.germanStops];have hg:=rG p l;rw[hg];cases hga:LuteTab.germanAt p l with
  |error e=>rfl
  |ok y=>
   obtain⟨s,q,u⟩:=y;have hms:mGS l=some (s,u):=by rw[hg,hga];rfl
   have h1:=uD hms;have hlen:=QT hms;show D8 (if DB acc s=true then(if see " " u=true then _ else some (acc++[s],u)) else none)=_;dsimp only;rw[lo s h1];by_cases Dl:last<s.course
   ·rw[Dm (by simpa using Dl),Dn (show¬s.course<=last by omega)];cases u with
    |nil=>rfl
    |cons c v=>
     rw[CZ (z:=" ") (x:=32) rfl];dsimp only;by_cases hc:c=10
     ·subst hc;rw[Dn (by decide),Dm (show(10:UInt8)=LuteTab.END from rfl)];show(match sk ("\n":Str).cps.toList (10::v) with
       |none=>none
       |some (_,u)=>some (acc++[s],u))=_
      rw[FN (z:="\n") (x:=10) rfl,Dm rfl];rfl
     ·rw[Dn (show¬c=LuteTab.END from hc)];by_cases hb:c=32
      ·subst hb;rw[Dm (by simp),Dn (by intro q;exact q rfl),FN (z:=" ") (x:=32) rfl,Dm rfl];show D8 (mGl f (acc++[s]) v)=_;have hv:v.length<f:=by simp at hlen;omega
       rw[cA f (acc++[s]) s.course (q+1) v hv (XG 1 acc s),S1];cases LuteTab.germanStops f s.course (q+1) v with
       |error e=>rfl
       |ok y=>obtain⟨l,z,w⟩:=y;rfl
      ·rw[Dn (by simp[hb]),Dm (show c≠LuteTab.BLANK from hb)];show(match sk ("\n":Str).cps.toList (c::v) with
        |none=>none
        |some (_,u)=>some (acc++[s],u))=_
       rw[FN (z:="\n") (x:=10) rfl,Dn hc];rfl
   ·rw[Dn (by simpa using Dl),Dm (show s.course<=last by omega)];rfl
theorem Q6:∀{ns:List Nat} {l t:List UInt8} {s:List Stop},(∀n∈ns,1<=n/\n<=6)->B7 z ns l=some (s,t)->∀x∈s,1<=x.course/\x.course<=6
 |[],l,t,s,_,h,x,hx=>by rw[B7] at h;cases h;simp at hx
 |c::ns,l,t,s,hn,h,x,hx=>by
  rw[B7] at h;cases hp:pk (z++".") l with
  |none=>rw[hp] at h;cases h
  |some y=>
   obtain⟨i,y⟩:=y;simp only[hp] at h;cases hm:B7 z ns y with
   |none=>rw[hm] at h;cases h
   |some w=>
    obtain⟨q,v⟩:=w;simp only[hm] at h;cases h;have ih:=Q6 (λn hn'=>hn n (aq _ hn')) hm;split at hx
    ·rcases bq.mp hx with rfl|hx
     ·exact hn c bc
     ·exact ih x hx
    ·exact ih x hx
def kdN:LuteTab.Kind->Nat
 | .french=>0
 | .italian=>1
 | .german=>2
theorem cB (acc:List Stop) (o:LuteTab.Rd (List Stop)):pre acc (fg o)=fg (match o with
 | .error e=>.error e
 | .ok (b,z,v)=>.ok (acc++b,z,v)):=by
 cases o with
 |error e=>rfl
 |ok y=>obtain⟨b,z,v⟩:=y;rfl
theorem iB (k:LuteTab.Kind) (p:Nat) (l:List UInt8):D8 (mSt (kdN k) l)=fg (LuteTab.stopsAt k p l):=by
 cases k with
 |french=>
  show D8 (mFr l)=fg (match LuteTab.sixAt LuteTab.letters [1,2,3,4,5,6] p l with
   | .error e=>.error e
   | .ok (l,q,u)=>match LuteTab.bassesAt LuteTab.frenchBassAt (u.length+1) 6 q u with
     | .error e=>.error e
     | .ok (b,z,v)=>.ok (l++b,z,v))
  unfold mFr;have hn:=IH (z:=zF) (signs:=LuteTab.letters) (by decide +kernel) (by decide +kernel) rB [1,2,3,4,5,6] p l;rw[hn];cases hs:LuteTab.sixAt LuteTab.letters [1,2,3,4,5,6] p l with
  |error e=>rfl
  |ok y=>
   obtain⟨s,q,u⟩:=y;have hm:B7 zF [1,2,3,4,5,6] l=some (s,u):=by rw[hn,hs];rfl
   have hle:=Q6 (by intro n hn';simp at hn';omega) hm;show D8 (mBs mFB (u.length+1) s u)=_;rw[b9 rE uC QS (u.length+1) s 6 q u (by omega) (XH λx hx=>(hle x hx).2),cB];rfl
 |italian=>
  show D8 (mIt l)=fg (match LuteTab.sixAt LuteTab.figures [6,5,4,3,2,1] p l with
   | .error e=>.error e
   | .ok (l,q,u)=>match LuteTab.bassesAt LuteTab.numberAt (u.length+1) 6 q u with
     | .error e=>.error e
     | .ok (b,z,v)=>.ok (l.reverse++b,z,v))
  unfold mIt;have hn:=IH (z:=zI) (signs:=LuteTab.figures) (by decide +kernel) (by decide +kernel) rC [6,5,4,3,2,1] p l;rw[hn];cases hs:LuteTab.sixAt LuteTab.figures [6,5,4,3,2,1] p l with
  |error e=>rfl
  |ok y=>
   obtain⟨s,q,u⟩:=y;have hm:B7 zI [6,5,4,3,2,1] l=some (s,u):=by rw[hn,hs];rfl
   have hle:=Q6 (by intro n hn';simp at hn';omega) hm;show D8 (mBs mBN (u.length+1) s.reverse u)=_;rw[b9 hW rF MV (u.length+1) s.reverse 6 q u (by omega) (XH λx hx=>(hle x (yP.mp hx)).2),cB];rfl
 |german=>
  show D8 (mGr l)=fg (match l with
   |46::r=>(match LuteTab.want [LuteTab.END] (p+1) r with
    | .error e=>.error e
    | .ok (_,q,u)=>.ok ([],q,u))
   |_=>LuteTab.germanStops (l.length+1) 0 p l)
  unfold mGr;cases l with
  |nil=>exact(cA 1 [] 0 p [] (by decide) (b8 1 (by decide))).trans (MK _)
  |cons c r=>
   rw[CZ (z:=".") (x:=46) rfl];by_cases h:c=46
   ·subst h;rw[Dm (by simp),FN (z:=".") (x:=46) rfl,Dm rfl];show(match sk ("\n":Str).cps.toList r with
     |none=>none
     |some (_,u)=>some ([],u))=fg (match LuteTab.want [LuteTab.END] (p+1) r with
     | .error e=>.error e
     | .ok (_,q,u)=>.ok ([],q,u))
    have e3:sk ("\n":Str).cps.toList r=fg (LuteTab.want [LuteTab.END] (p+1) r):=(HX [10] _ _).symm;rw[e3];cases LuteTab.want [LuteTab.END] (p+1) r with
    |error e=>rfl
    |ok y=>obtain⟨_,z,v⟩:=y;rfl
   ·rw[Dn (by simp[h])];have:=(cA ((c::r).length+1) [] 0 p (c::r) (by omega) (b8 1 (by decide))).trans (MK _);rw[this];congr 1;split
    ·rename_i q;cases q;exact absurd rfl h
    ·rfl
def VM (l:List UInt8):Option (Nat×List UInt8):=match pk zL l with
 |none=>none
 |some (i,t)=>if 0<i/\see "." t=true then(match sk (".":Str).cps.toList t with
  |none=>none
  |some (_,u)=>match sk (" ":Str).cps.toList u with
   |none=>none
   |some (_,v)=>some (2 ^ i+2 ^ i / 2,v))
  else match sk (" ":Str).cps.toList t with
   |none=>none
   |some (_,v)=>some (2 ^ i,v)
theorem lH (p:Nat) (l:List UInt8):VM l=fg (LuteTab.lengthAt p l):=by
 cases l with
 |nil=>rfl
 |cons c r=>
  unfold VM;rw[BW,rD,LuteTab.lengthAt.eq_def];dsimp only;cases hx:[(120:UInt8),116,115,101,113,104,119].idxOf? c with
  |none=>rfl
  |some i=>
   have hp:0<i->2 ^ i / 2=2 ^ (i - 1):=λh0=>by
    obtain⟨j,rfl⟩:∃j,i=j+1:=⟨i - 1,by omega⟩
    rw[Bp,Nat.mul_div_cancel _ (by decide)];rfl
   show(if 0<i/\see "." r=true then _ else _)=fg (match r with
    |46::32::u=>if i=0 then .error (p+1) else .ok (2 ^ i+2 ^ (i - 1),p+3,u)
    |46::_=>if i=0 then .error (p+1) else .error (p+2)
    |32::u=>.ok (2 ^ i,p+2,u)
    |_=>.error (p+1))
   cases r with
   |nil=>rw[Dn (by rw[J9];rintro ⟨_,q⟩;cases q)];rfl
   |cons y t=>
    rw[CZ (z:=".") (x:=46) rfl];by_cases h46:y=46
    ·subst h46;by_cases h0:0<i
     ·rw[Dm ⟨h0,by simp⟩,FN (z:=".") (x:=46) rfl,Dm rfl];cases t with
      |nil=>
       show _=fg (if i=0 then .error (p+1) else .error (p+2));rw[Dn (by omega)];rfl
      |cons z u=>
       show(match sk (" ":Str).cps.toList (z::u) with
        |none=>none
        |some (_,v)=>some (2 ^ i+2 ^ i / 2,v))=_
       rw[FN (z:=" ") (x:=32) rfl];by_cases h32:z=32
       ·subst h32;rw[Dm rfl];show some (2 ^ i+2 ^ i / 2,u)=fg (if i=0 then .error (p+1) else .ok (2 ^ i+2 ^ (i - 1),p+3,u));rw[Dn (by omega),hp h0];rfl
       ·rw[Dn h32];have e:(match (46::z::u:List UInt8) with
         |46::32::u=>if i=0 then .error (p+1) else .ok (2 ^ i+2 ^ (i - 1),p+3,u)
         |46::_=>if i=0 then .error (p+1) else .error (p+2)
         |32::u=>.ok (2 ^ i,p+2,u)
         |_=>.error (p+1))=(if i=0 then .error (p+1) else .error (p+2):LuteTab.Rd Nat):=by
         split
         ·rename_i q;cases q;exact absurd rfl h32
         ·rfl
         ·rename_i q;cases q
         ·rename_i q1 q2;exact absurd rfl (q1 (z::u))
        rw[e,Dn (by omega)];rfl
     ·have:i=0:=by omega
      subst this;rw[Dn (by simp),FN (z:=" ") (x:=32) rfl,Dn (by decide)];show none=fg _;split
      ·rfl
      ·rfl
      ·rename_i q;cases q
      ·rfl
    ·rw[Dn (by simp[h46]),FN (z:=" ") (x:=32) rfl];by_cases h32:y=32
     ·subst h32;rw[Dm rfl];rfl
     ·rw[Dn h32];show none=fg _;split
      ·rename_i q;cases q;exact absurd rfl h46
      ·rename_i q;cases q;exact absurd rfl h46
      ·rename_i q;cases q;exact absurd rfl h32
      ·rfl
theorem fG {l:List UInt8} (h:VM l=some (n,t)):0<n:=by
 have hp:∀i:Nat,0<2 ^ i:=λi=>kh (by decide);unfold VM at h;split at h
 ·cases h
 ·split at h
  ·split at h
   ·cases h
   ·split at h
    ·cases h
    ·cases h;have:=hp ‹_›;omega
  ·split at h
   ·cases h
   ·cases h;exact hp _
theorem iC (before:Nat) (c:UInt8) (r:List UInt8) (h:¬c=32):mLn before (c::r)=match VM (c::r) with
 |none=>none
 |some (n,v)=>if n=before then none else some (n,v):=by
 unfold mLn VM;rw[CZ (z:=" ") (x:=32) rfl,Dn (by simp[h])];cases pk zL (c::r) with
 |none=>rfl
 |some y=>
  obtain⟨i,t⟩:=y;dsimp only;by_cases h0:0<i/\see "." t=true
  ·rw[Dm h0,Dm h0];cases sk (".":Str).cps.toList t with
   |none=>rfl
   |some y=>
    obtain⟨_,u⟩:=y;dsimp only;cases sk (" ":Str).cps.toList u with
    |none=>rfl
    |some y=>obtain⟨_,v⟩:=y;rfl
  ·rw[Dn h0,Dn h0];cases sk (" ":Str).cps.toList t with
   |none=>rfl
   |some y=>obtain⟨_,v⟩:=y;rfl
theorem rH (before:Nat) (r:List UInt8):mLn before (32::r)=if before=0 then none else some (before,r):=by
 unfold mLn;rw[CZ (z:=" ") (x:=32) rfl,Dm (by simp),FN (z:=" ") (x:=32) rfl,Dm rfl]
def mMo (k:LuteTab.Kind) (n:Nat) (t:List UInt8):Option (Ln×List UInt8):=match D8 (mSt (kdN k) t) with
 |none=>none
 |some (st,v)=>some ((n,st),v)
theorem lI (k:LuteTab.Kind) (before:Nat) (l:List UInt8) (h:see "|" l=false):mPl (kdN k) before l=match mLn before l with
 |none=>none
 |some (n,t)=>mMo k n t:=by
 unfold mPl mMo;rw[Dn (by rw[h];decide)];cases mLn before l with
 |none=>rfl
 |some y=>
  obtain⟨n,t⟩:=y;dsimp only;cases mSt (kdN k) t with
  |none=>rfl
  |some y=>
   obtain⟨st,u⟩:=y;show(match sk ("\n":Str).cps.toList u with
    |none=>none
    |some (_,v)=>some ((n,st),v))=(match (match sk ("\n":Str).cps.toList u with
    |none=>none
    |some (_,u)=>some (st,u):Option (List Stop×List UInt8)) with
    |none=>none
    |some (st,v)=>some ((n,st),v))
   cases sk ("\n":Str).cps.toList u with
   |none=>rfl
   |some y=>obtain⟨_,v⟩:=y;rfl
theorem fH (kd before p:Nat) (r:List UInt8):mPl kd before (124::r)=match fg (LuteTab.want [LuteTab.END] p r) with
 |none=>none
 |some (_,t)=>some ((0,[]),t):=by
 unfold mPl;rw[CZ (z:="|") (x:=124) rfl,Dm (by simp)];have e:sk ("|\n":Str).cps.toList (124::r)=fg (LuteTab.want [LuteTab.END] p r):=by
  rw[HX,show("|\n":Str).cps.toList=[124,10] by decide +kernel,sk,Dm (show UInt8.toNat 124=124 from rfl)];rfl
 rw[e];all_goals rfl
theorem LL {k:LuteTab.Kind} {l v:List UInt8} {s:List Stop} (h:LuteTab.stopsAt k p l= .ok (s,q,v)):v.length<l.length/\D8 (mSt (kdN k) l)=some (s,v):=by
 have e:=iB k p l;rw[h] at e;refine⟨?_,e⟩;cases hm:mSt (kdN k) l with
 |none=>rw[hm] at e;cases e
 |some y=>
  obtain⟨st,u⟩:=y;rw[hm] at e;have h1:=W6 hm;replace e:(match sk ("\n":Str).cps.toList u with
   |none=>none
   |some (_,u)=>some (st,u):Option (List Stop×List UInt8))=some (s,v):=e
  cases hs:sk ("\n":Str).cps.toList u with
  |none=>rw[hs] at e;cases e
  |some y=>
   obtain⟨_,w⟩:=y;have h2:w.length+1=u.length:=BN hs;rw[hs] at e;cases e;omega
theorem cC (k:LuteTab.Kind) (n p:Nat) (t:List UInt8):mMo k n t=match LuteTab.stopsAt k p t with
 | .error _=>none
 | .ok (l,_,u)=>some ((n,l),u):=by
 unfold mMo;rw[iB k p t];cases LuteTab.stopsAt k p t with
 |error e=>rfl
 |ok y=>obtain⟨l,q,u⟩:=y;rfl
def app (acc:List Ln):Option LuteTab.Piece->Option (List Ln)
 |none=>none
 |some x=>some (acc++x.map BO)
theorem cD (acc:List Ln) (ln:LuteTab.Line) (o:Except Nat LuteTab.Piece):app (acc++[BO ln]) (fe o)=app acc (fe (o.map λ(x:LuteTab.Piece)=>ln::x)):=by
 cases o with
 |error e=>rfl
 |ok x=>simp[app,fe,Except.map]
theorem S4 (k:LuteTab.Kind):∀(f p last:Nat) (acc:List Ln) (l:List UInt8),l.length<f->acc.length<=512->mLs (kdN k) f acc last l=app acc (fe (LuteTab.linesAt k f last acc.length p l))
 |0,p,last,acc,l,h,_=>by omega
 |f+1,p,last,acc,[],h,_=>by
  rw[mLs,LuteTab.linesAt,Dm (show([]:List UInt8).isEmpty=true from rfl)];by_cases h0:last=0
  ·rw[Dm h0,Dm h0];rfl
  ·rw[Dn h0,Dn h0];simp[app,fe]
 |f+1,p,last,acc,c::r,h,ha=>by
  rw[mLs,LuteTab.linesAt,Dn (by simp)];have hrl:r.length<f:=by simpa using h
  by_cases hm:LuteTab.LINES<=acc.length
  ·have:acc.length=512:=by have h2:512<=acc.length:=hm;omega
   rw[Dm this,Dm hm];rfl
  ·have Dl:acc.length<512:=by have h2:¬512<=acc.length:=hm;omega
   rw[Dn (by omega),Dn hm];have step:∀(ln:LuteTab.Line) (last' q:Nat) (u:List UInt8),u.length<f->mLs (kdN k) f (acc++[BO ln]) last' u=app acc (fe ((LuteTab.linesAt k f last' (acc.length+1) q u).map λ(x:LuteTab.Piece)=>ln::x)):=λln last' q u hu=>by
    have:=S4 k f q last' (acc++[BO ln]) u hu (by rw[bp];simp;omega);rw[this,cD,bp];rfl
   by_cases h124:c=124
   ·subst h124;rw[Dm rfl,fH (kdN k) last (p+1) r];cases hw:LuteTab.want [LuteTab.END] (p+1) r with
    |error e=>rfl
    |ok y=>
     obtain⟨_,q,u⟩:=y;have e1:sk ([LuteTab.END].map (·.toNat)) r=some ((),u):=by rw[←HX _ (p+1),hw];rfl
     have h2:u.length+1=r.length:=BN e1;show mLs (kdN k) f (acc++[(0,[])]) (if 0=0 then last else 0) u=_;rw[Dm rfl];exact step .bar last q u (by omega)
   ·rw[Dn h124];have hbar:see "|" (c::r)=false:=by rw[CZ (z:="|") (x:=124) rfl];simp[h124]
    rw[lI k last (c::r) hbar];by_cases h32:c=32
    ·subst h32;rw[Dm (show(32:UInt8)=LuteTab.BLANK from rfl),rH];by_cases h0:last=0
     ·rw[Dm h0,Dm h0];rfl
     ·rw[Dn h0,Dn h0];dsimp only;rw[cC k last (p+1) r];cases hs:LuteTab.stopsAt k (p+1) r with
      |error e=>rfl
      |ok y=>
       obtain⟨l,q,u⟩:=y;have:=(LL hs).1;show mLs (kdN k) f (acc++[(last,l)]) (if last=0 then last else last) u=_;rw[Dn h0];exact step (.moment last l) last q u (by omega)
    ·rw[Dn (show¬c=LuteTab.BLANK from h32),iC last c r h32];have hle:=lH p (c::r);rw[hle];cases hl:LuteTab.lengthAt p (c::r) with
     |error e=>rfl
     |ok y=>
      obtain⟨n,q,u⟩:=y;have hm2:VM (c::r)=some (n,u):=by rw[hle,hl];rfl
      have hn:=fG hm2;show(match (match (if n=last then none else some (n,u):Option (Nat×List UInt8)) with
       |none=>none
       |some (n,t)=>mMo k n t:Option (Ln×List UInt8)) with
       |none=>none
       |some ((n,st),t)=>mLs (kdN k) f (acc++[(n,st)]) (if n=0 then last else n) t)=app acc (fe (if n=last then .error p else match LuteTab.stopsAt k q u with
       | .error e=>.error e
       | .ok (l,z,v)=>(LuteTab.linesAt k f n (acc.length+1) z v).map λ(x:LuteTab.Piece)=>.moment n l::x))
      by_cases hnl:n=last
      ·rw[Dm hnl,Dm hnl];rfl
      ·rw[Dn hnl,Dn hnl];dsimp only;rw[cC k n q u];have hul:u.length<(c::r).length:=by
        have:mLn (n+1) (c::r)=some (n,u):=by rw[iC _ c r h32,hm2];show(if n=n+1 then none else some (n,u))=_;rw[Dn (by omega)]
        exact W4 this
       cases hs:LuteTab.stopsAt k q u with
       |error e=>rfl
       |ok y=>
        obtain⟨l,z,v⟩:=y;have hv:=(LL hs).1;show mLs (kdN k) f (acc++[(n,l)]) (if n=0 then last else n) v=_;rw[Dn (by omega)];exact step (.moment n l) n z v (by simp at hul;omega)
theorem fI (cs:List UInt8):mKd kws 0 cs=match LuteTab.kindAt cs with
 | .error _=>none
 | .ok (k,_,u)=>some (kdN k,u):=by
 have w:∀(z:Str) (bs:List UInt8) (i:Nat) (k:LuteTab.Kind),z.cps.toList=(bs++[LuteTab.END]).map (·.toNat)->kdN k=i->(match sk z.cps.toList cs with
  |none=>none
  |some (_,t)=>some (i,t))=match (match LuteTab.want (bs++[LuteTab.END]) 0 cs with
  | .error e=>.error e
  | .ok (_,q,u)=>.ok (k,q,u):LuteTab.Rd LuteTab.Kind) with
  | .error _=>none
  | .ok (k,_,u)=>some (kdN k,u):=λz bs i k hz hk=>by
  rw[hz, ←HX _ 0 cs];cases LuteTab.want (bs++[LuteTab.END]) 0 cs with
  |error e=>rfl
  |ok y=>obtain⟨_,q,u⟩:=y;subst hk;rfl
 unfold kws;rw[mKd,mKd,mKd,mKd];cases cs with
 |nil=>rfl
 |cons c r=>
  rw[CZ (z:=hd1 "french\n") (x:=102) (by decide +kernel),CZ (z:=hd1 "italian\n") (x:=105) (by decide +kernel),CZ (z:=hd1 "german\n") (x:=103) (by decide +kernel)];by_cases h1:c=102
  ·subst h1;rw[Dm (by simp)];exact w "french\n" LuteTab.Kind.french.word 0 .french (by decide +kernel) rfl
  ·rw[Dn (by simp[h1])];by_cases h2:c=105
   ·subst h2;rw[Dm (by simp)];exact w "italian\n" LuteTab.Kind.italian.word 1 .italian (by decide +kernel) rfl
   ·rw[Dn (by simp[h2])];by_cases h3:c=103
    ·subst h3;rw[Dm (by simp)];exact w "german\n" LuteTab.Kind.german.word 2 .german (by decide +kernel) rfl
    ·rw[Dn (by simp[h3])];have e:LuteTab.kindAt (c::r)= .error 0:=by
      unfold LuteTab.kindAt;split
      ·rename_i q;cases q;exact absurd rfl h1
      ·rename_i q;cases q;exact absurd rfl h2
      ·rename_i q;cases q;exact absurd rfl h3
      ·rfl
     rw[e]
def fJ:Except Nat (LuteTab.Kind×LuteTab.Piece)->Option (List Ln)
 | .error _=>none
 | .ok (_,p)=>some (p.map BO)
theorem VN (cs:List UInt8):mPc cs=fJ (LuteTab.read cs):=by
 unfold mPc LuteTab.read;rw[fI];cases LuteTab.kindAt cs with
 |error e=>rfl
 |ok y=>
  obtain⟨k,q,u⟩:=y;show mLs (kdN k) (u.length+1) [] 0 u=fJ ((LuteTab.linesAt k (u.length+1) 0 0 q u).map λ(p:LuteTab.Piece)=>(k,p));rw[S4 k (u.length+1) q 0 [] u (by omega) (by simp)];show app [] (fe (LuteTab.linesAt k (u.length+1) 0 0 q u))=_;cases LuteTab.linesAt k (u.length+1) 0 0 q u with
  |error e=>rfl
  |ok x=>rfl
theorem Q7 {signs:List UInt8}:∀{ns:List Nat} {p q:Nat} {l u:List UInt8} {s:List Stop},LuteTab.sixAt signs ns p l= .ok (s,q,u)->(s.map (·.course)).Sublist ns
 |[],p,q,l,u,s,h=>by
  rw[LuteTab.sixAt] at h;cases h;exact Cw _
 |c::ns,p,q,l,u,s,h=>by
  rw[LuteTab.sixAt] at h;split at h
  ·cases h
  ·split at h
   ·cases h
   ·rename_i h1;have ih:=Q7 h1;cases h;split
    ·exact ih.cons_cons _
    ·exact ih.cons _
def Up (k:Nat) (l:List Stop):Prop:=bA l/\∀s∈l,k<s.course
theorem Q8 {k:Nat} {s:Stop} {l:List Stop} (h:k<s.course) (u:Up s.course l):Up k (s::l):=
 ⟨gh.mpr ⟨u.2,u.1⟩,λx hx=>by
  rcases bq.mp hx with rfl|hx
  ·exact h
  ·have:=u.2 x hx;omega⟩
theorem VO (k:Nat):Up k []:=⟨mv,by simp⟩
theorem cE {rd:Nat->List UInt8->LuteTab.Rd Nat}:∀{f last p q:Nat} {l u:List UInt8} {s:List Stop},LuteTab.bassesAt rd f last p l= .ok (s,q,u)->Up last s
 |0,last,p,q,l,u,s,h=>by rw[LuteTab.bassesAt] at h;cases h
 |f+1,last,p,q,[],u,s,h=>by rw[LuteTab.bassesAt] at h;cases h
 |f+1,last,p,q,c::r,u,s,h=>by
  rw[LuteTab.bassesAt] at h;split at h
  ·cases h;exact VO _
  ·split at h
   ·cases h
   ·split at h
    ·cases h
    ·split at h
     ·cases h
     ·split at h
      ·cases h
      ·rename_i h1;have ih:=cE h1;cases h;exact Q8 (uw (by assumption)) ih
theorem iD:∀{f last p q:Nat} {l u:List UInt8} {s:List Stop},LuteTab.germanStops f last p l= .ok (s,q,u)->Up last s
 |0,last,p,q,l,u,s,h=>by rw[LuteTab.germanStops] at h;cases h
 |f+1,last,p,q,l,u,s,h=>by
  rw[LuteTab.germanStops] at h;split at h
  ·cases h
  ·split at h
   ·cases h
   ·split at h
    ·cases h
    ·split at h
     ·cases h;exact Q8 (by omega) (VO _)
     ·split at h
      ·cases h
      ·split at h
       ·cases h
       ·rename_i h1;have ih:=iD h1;cases h;exact Q8 (by omega) ih
theorem iE {k:LuteTab.Kind} {l u:List UInt8} {s:List Stop} (h:LuteTab.stopsAt k p l= .ok (s,q,u)):Up 0 s:=by
 have glue:∀{a b:List Stop},bA a->(∀s∈a,0<s.course/\s.course<=6)->Up 6 b->Up 0 (a++b):=λ{a b} ra ha hb=>
  ⟨qi.mpr ⟨ra,hb.1,λx hx y hy=>by have:=ha x hx;have:=hb.2 y hy;omega⟩,λx hx=>by
   rcases bu.mp hx with hx|hx
   ·exact(ha x hx).1
   ·have:=hb.2 x hx;omega⟩
 unfold LuteTab.stopsAt at h;cases k with
 |french=>
  simp only at h;split at h
  ·cases h
  ·rename_i h1;split at h
   ·cases h
   ·rename_i h2;cases h;have sb:=Q7 h1;refine glue ?_ (λx hx=>?_) (cE h2)
    ·exact vO.mp (wQ sb (by decide))
    ·have:=sb.subset (qz (f:=λs:Stop=>s.course) hx);simp at this;omega
 |italian=>
  simp only at h;split at h
  ·cases h
  ·rename_i h1;split at h
   ·cases h
   ·rename_i h2;cases h;have sb:=Q7 h1;refine glue ?_ (λx hx=>?_) (cE h2)
    ·have:List.Pairwise (λa b:Stop=>b.course<a.course) _:=vO.mp (wQ sb (R:=λa b=>b<a) (by decide));exact List.pairwise_reverse.mpr this
    ·have:=sb.subset (qz (f:=λs:Stop=>s.course) (yP.mp hx));simp at this;omega
 |german=>
  simp only at h;split at h
  ·split at h
   ·cases h
   ·cases h;exact VO _
  ·exact iD h
theorem lJ {l u:List UInt8} (h:LuteTab.lengthAt p l= .ok (n,q,u)):0<n:=by
 have h2:∀i:Nat,0<2 ^ i:=λi=>kh (by decide);unfold LuteTab.lengthAt at h;split at h
 ·cases h
 ·split at h
  ·cases h
  ·split at h
   ·split at h
    ·cases h
    ·cases h;exact Nat.add_pos_left (h2 _) _
   ·split at h<;>cases h
   ·cases h;exact h2 _
   ·cases h
def LnK (x:LuteTab.Line):Prop:=match x with
 | .bar=>True
 | .moment n l=>0<n/\Up 0 l
theorem fK {k:LuteTab.Kind}:∀{f last many p:Nat} {l:List UInt8} {x:LuteTab.Piece},LuteTab.linesAt k f last many p l= .ok x->∀y∈x,LnK y
 |f,last,many,p,[],x,h=>by
  have h':LuteTab.linesAt k f last many p []=if last=0 then .error p else .ok []:=by cases f<;>rw[LuteTab.linesAt]
  rw[h'] at h;split at h
  ·cases h
  ·cases h;simp
 |0,last,many,p,c::r,x,h=>by rw[LuteTab.linesAt] at h;cases h;simp
 |f+1,last,many,p,c::r,x,h=>by
  have mp:∀{e:Except Nat LuteTab.Piece} {a:LuteTab.Line},(e.map λ(x:LuteTab.Piece)=>a::x)= .ok x->LnK a->(∀z,e= .ok z->∀y∈z,LnK y)->∀y∈x,LnK y:=λ{e a} h ha hz=>by
   cases e with
   |error _=>cases h
   |ok z=>
    cases h;intro y hy;rcases bq.mp hy with rfl|hy
    ·exact ha
    ·exact hz z rfl y hy
  rw[LuteTab.linesAt] at h;split at h
  ·cases h
  ·split at h
   ·split at h
    ·cases h
    ·exact mp h jj λz hz=>fK hz
   ·split at h
    ·split at h
     ·cases h
     ·split at h
      ·cases h
      ·rename_i h0 _ _ _ _ h1;exact mp h ⟨by omega,iE h1⟩ λz hz=>fK hz
    ·split at h
     ·cases h
     ·rename_i h1;split at h
      ·cases h
      ·split at h
       ·cases h
       ·rename_i h2;exact mp h ⟨lJ h1,iE h2⟩ λz hz=>fK hz
theorem VP {k:LuteTab.Kind} {p:LuteTab.Piece} (h:LuteTab.read cs= .ok (k,p)):bL p/\PcK (p.map BO):=by
 have hk:∀y∈p,LnK y:=by
  unfold LuteTab.read at h;split at h
  ·cases h
  ·rename_i k' q u _;cases e:LuteTab.linesAt k' (u.length+1) 0 0 q u with
   |error _=>rw[e] at h;cases h
   |ok z=>rw[e] at h;cases h;exact fK e
 refine⟨λn l hm=>(hk _ hm).1,⟨λq hq=>?_,λq hq h0=>?_,λq hq s hs=>?_⟩⟩
 ·obtain⟨y,hy,rfl⟩:=il.mp hq;cases y with
  |bar=>exact mv
  |moment n l=>exact(hk _ hy).2.1
 ·obtain⟨y,hy,rfl⟩:=il.mp hq;cases y with
  |bar=>rfl
  |moment n l=>
   have h0:n=0:=h0;have:=(hk _ hy).1;omega
 ·obtain⟨y,hy,rfl⟩:=il.mp hq;cases y with
  |bar=>exact absurd hs (by show¬s∈[];simp)
  |moment n l=>exact(hk _ hy).2.2 s hs
theorem cF (t:Lute.Inst) (s:Stop) (h:1<=s.course):plc (t.frets.map ro) (t.courses.map ro) (t.basses.map ro) s=t.place s.course s.fret:=by
 unfold plc Lute.Inst.place Lute.Inst.many Lute.Inst.opens;rw[ai,ai,ai,bp,decide_eq_true h,jz];by_cases hc:s.course<=t.courses.length
 ·rw[Dm hc,Dm hc,decide_eq_true (show s.course<=t.courses.length+t.basses.length by omega),jz]
 ·rw[Dn hc,Dn hc];congr 1;rw[decide_eq_decide];omega
theorem VQ {pl pl':Stop->Bool}:∀(p:LuteTab.Piece) (i x:Nat),(∀q∈p.map BO,∀s∈q.2,pl s=pl' s)->
 EO pl i (p.map BO)=match (LuteSound.struckFrom i x p).find? λ(s:LuteSound.Struck)=>!pl' s.halt_ with
  |none=>none
  |some s=>some (s.line,s.halt_.course)
 |[],i,x,_=>rfl
 | .bar::r,i,x,h=>by
   rw[dc,LuteSound.struckFrom];show EO pl i ((0,[])::r.map BO)=_;rw[EO];exact VQ r (i+1) x λq hq=>h q (aq _ hq)
 | .moment n l::r,i,x,h=>by
   rw[dc,LuteSound.struckFrom];show EO pl i ((n,l)::r.map BO)=_;rw[EO,qd];have e:((l.map λ(s:LuteTab.Stop)=>(⟨i,x,x+n,s⟩:LuteSound.Struck)).find? λ(s:LuteSound.Struck)=>!pl' s.halt_)=(l.find? λs=>!pl s).map λs=>(⟨i,x,x+n,s⟩:LuteSound.Struck):=by
    rw[z4];congr 1;have:∀l':List Stop,(∀s∈l',pl s=pl' s)->(l'.find? ((λ(s:LuteSound.Struck)=>!pl' s.halt_)∘λ(s:LuteTab.Stop)=>(⟨i,x,x+n,s⟩:LuteSound.Struck)))=l'.find? λs=>!pl s:=by
     intro l';induction l' with
     |nil=>intro _;rfl
     |cons a b ih=>
      intro hh;have h1:=hh a bc;rw[js,js];show(match !pl' a with|true=>some a|false=>_)=(match !pl a with|true=>some a|false=>_);rw[h1,ih λs hs=>hh s (aq _ hs)]
    exact this l λs hs=>h (n,l) bc s hs
   rw[e];cases l.find? λs=>!pl s with
   |some s=>rfl
   |none=>exact VQ r (i+1) (x+n) λq hq=>h q (aq _ hq)
theorem cG {F:St3->List Ln->List Int} {f:Lute.Inst->LuteTab.Piece->List Int} (h:∀t k p,Lute.readInst ci= .ok t->LuteTab.read ct= .ok (k,p)->F (fr3 t) (p.map BO)=f t p):
 (match GM dz0 fz0 ci ct with
  | .error z=>[z]
  | .ok (s,ps)=>F s ps)=LuteD.of ci ct f:=by
 unfold GM mTb LuteD.of;by_cases hl:4096<ci.length\/65536<ct.length
 ·rw[Dm hl,Dm (show LuteD.INST<ci.length\/LuteD.PIECE<ct.length from hl)];rfl
 ·rw[Dn hl,Dn (show¬(LuteD.INST<ci.length\/LuteD.PIECE<ct.length) from hl),N3];cases hi:Lute.readInst ci with
  |error e=>rfl
  |ok t=>
   have hp:=VN ct;cases hr:LuteTab.read ct with
   |error e=>
    rw[hr] at hp;rw[hp];rfl
   |ok y=>
    obtain⟨k,p⟩:=y;rw[hr] at hp;rw[hp];exact h t k p hi hr
theorem fL {t:Lute.Inst} {p:LuteTab.Piece} (k:PcK (p.map BO)):EO (plc (fr3 t).1 (fr3 t).2.1 (fr3 t).2.2) 0 (p.map BO)=(LuteSound.misfit t p).map λs=>(s.line,s.halt_.course):=by
 show EO (plc (t.frets.map ro) (t.courses.map ro) (t.basses.map ro)) 0 (p.map BO)=_;rw[VQ (pl':=λs=>t.place s.course s.fret) p 0 0 λq hq s hs=>cF t s (k.one q hq s hs)];unfold LuteSound.misfit LuteSound.struck LuteSound.fitsStop;cases (LuteSound.struckFrom 0 0 p).find? λ(s:LuteSound.Struck)=>!t.place s.halt_.course s.halt_.fret<;>rfl
end Lt
end
section
namespace L2
open PySem PySem.Spec PyProof.Rows
def L8 (f:ag) (o:Obj):HO:=.ext λh=>h.get? f=some o
def L9 (c:ag) (q:Str):HO:=.ext λh=>h.CodeRec (.ref c) q
section
variable {P:bb} {w:cb} {H:Hp} {h:cr}
theorem XI {f:ag} {o:Obj} (e:h.get? f=some o):ObjOk P w H h f (L8 f o):=⟨e,⟨o,e⟩,λ_ _ p k=>k _ p⟩
theorem fM {c:ag} {q:Str} (e:h.CodeRec (.ref c) q):ObjOk P w H h c (L9 c q):=by
 refine⟨e,?_,λh1 h2 p k=>?_⟩
 ·obtain⟨c',o,vs,t,e1,e2,_⟩:=e;cases e1;exact⟨o,e2⟩
 ·obtain⟨c',o,vs,t,e1,e2,e3⟩:=p;cases e1;exact⟨_,o,vs,t,rfl,k o e2,e3⟩
theorem cH {f:ag} {o:Obj} (ok:HOk P w H h) (e:H f=some (L8 f o)):h.get? f=some o:=(ok f _ e).1
theorem cI {c:ag} {q:Str} (ok:HOk P w H h) (e:H c=some (L9 c q)):h.CodeRec (.ref c) q:=(ok c _ e).1
end
def P1 (P:bb) (w:cb) (K:aa) (mg:Str->Option ah) (base:cr) (N:List Str) (qual:Str) (scope:jr) (f:ag) (cd:ah) (cl:List (Str×ag)) (A:dj) (outer:List Env) (s:ak) (H:Hp):Cx where
 prog:=P
 w:=w
 K:=K
 mg:=mg
 base:=base
 A:=A.deeper (wx qual scope s.heap.objs.size f cd cl)
 N:=N
 s_0:=s
 H_0:=H
 env:=wx qual scope s.heap.objs.size f cd cl
 outer:=outer
 stack:=wx qual scope s.heap.objs.size f cd cl::outer
 ex:=[]
 calm:=true
 fn:=λ_=>false
 pn:=[]
 xe:=λ_ _=>False
structure LamScope (x:Str) (fr:List Str) (sc:jr):Prop where
 kind:sc.kind= .function
 co:sc.isCoroutine=false
 gen:sc.isGenerator=false
 nd:(x::fr).Nodup
 par:sc.names.lookup x=some .local
 nocell:∀y∈sc.names,y.2≠.cell
 free:∀y∈fr,sc.names.lookup y=some .free
section
variable {P:bb} {w:cb} {K:aa} {mg:Str->Option ah} {base:cr} {x:Str} {fr:List Str} {name qual:Str} {params:vc} {body:Expr} {scope:jr} {f:ag} {cd pm ctv:ah} {c':ag} {cl:List (Str×ag)}
 {A:dj} {outer:List Env} {s:ak} {H:Hp} {v:V} {u:ah} {fvs:List V}
structure CellsAre (cl:List (Str×ag)) (scope:jr) (fr:List Str) (fvs:List V) (H:Hp) (h:cr):Prop where
 len:fr.length=fvs.length
 inj:∀y z c,cl.lookup y=some c->cl.lookup z=some c->y=z
 has:∀y,scope.names.lookup y=some .free->∃c,cl.lookup y=some c
 cell:∀y c,cl.lookup y=some c->∃v,h.IsCell c v
 free:∀y c,cl.lookup y=some c->H c=none
 val:∀(j:Nat) (y:Str) (v:V),fr[j]? =some y->fvs[j]? =some v->∃u c,RelV v u/\cl.lookup y=some c/\h.IsCell c (some u)
theorem fO (S:LamScope x fr scope) (hd:A.handled=none) (e0:Env0 P w K mg base A outer s H) (r:RelV v u) (C:CellsAre cl scope fr fvs H s.heap) {h1:cr} {tk:Nat}
 (hns:h1.Ns s.heap.objs.size (λy=>[(x,u)].reverse.lookup y)) (hk:∀b o,s.heap.get? b=some o->h1.get? b=some o):
 Inv (P1 P w K mg base (x::fr) qual scope f cd cl A outer s H) [] (some v::fvs.map some) H { s with heap:=h1,toks:=tk }:=by
 have noA:∀b:ag,b∉(P1 P w K mg base (x::fr) qual scope f cd cl A outer s H).ex:=λb z=>absurd (show b∈([]:List ag) from z) (by simp);have ck:∀{c:ag} {v:Option ah},s.heap.IsCell c v->h1.IsCell c v:=λ{c v} ⟨o,ho,hd⟩=>⟨o,hk _ _ ho,hd⟩
 refine⟨⟨e0.mod,S.kind,rfl,rfl,aw _,C.inj,λy hy=>?_,λy c q _=>absurd q (by simp[P1]),λ_=>hd,uN e0.frames,.inr ⟨rfl,rfl⟩,λb z=>absurd z (noA b),e0.bs,e0.bsz,λb _ _=>noA b,λb z=>absurd z (noA b),e0.funs,e0.frf⟩,
  rfl,e0.bare,Un.kept hk,⟨_,hns,λi y v' h1' h2 h3=>?_⟩,λy c q=>?_,e0.hok.fresh (aw _),C.free,λp hp=>absurd (show p∈([]:List (ag×Obj)) from hp) (by simp),e0.hok.kept hk,?_⟩
 ·have hy:scope.names.lookup y=some .cell\/scope.names.lookup y=some .free:=hy;rcases hy with hy|hy
  ·exact absurd rfl (S.nocell _ (cq hy))
  ·exact C.has y hy
 ·have h1':(x::fr)[i]? =some y:=h1';cases i with
  |zero=>
   have e:x=y:=by simpa using h1'
   subst e;have e2:v=v':=by simpa using h2
   subst e2;exact⟨u,r,.inl ⟨S.par,by simp⟩⟩
  |succ j=>
   have h1':fr[j]? =some y:=by simpa using h1'
   have h2:fvs[j]? =some v':=by simpa using h2
   obtain⟨u',c,r',hc,z⟩:=C.val j y v' h1' h2;exact⟨u',r',.inr ⟨.inr (S.free y (bn h1')),c,hc,ck z⟩⟩
 ·obtain⟨v,z⟩:=C.cell y c q;exact⟨v,ck z⟩
 ·show(some v::fvs.map some).length=(x::fr).length;simp[C.len]
theorem fP {CX:CXT} {Q:VK} {E:XK} {t:TE} (S:LamScope x fr scope) (hr:Room 1 A) (e0:Env0 P w K mg base A outer s H) (r:RelV v u) (C:CellsAre cl scope fr fvs H s.heap)
 (ho:s.heap.get? f=some (pd name qual params body scope cl pm c' ctv)) (hcd:s.heap.CodeRec (.ref c') qual) (hb:wW (xq name qual params body scope cl pm (.ref c') ctv) ⟨[u],[]⟩=pure [(x,u)])
 (hbody:PE (P1 P w K mg base (x::fr) qual scope f (.ref c') cl A outer s H) body t) (hq:t (some v::fvs.map some) H Q):
 nw (bo P w) A (.call (.ref f) ⟨[u],[]⟩) (CR CX outer P w H s Q E) s:=by
 have lim:s.heap.NoLimit:=e0.mod.nolimit.keeps λb o e=>(e0.bs b o e).1;refine PySem.W.kla_callFunE hr.depth ho rfl S.co S.gen rfl hcd ?_;rw[hb];refine ao (wpAny_newFunctionEnv S.nocell (λy hy=>by rw[fq.mp hy];exact S.par) (λh1 hns hsb=>?_) S.kind);have hk:∀b o,s.heap.get? b=some o->h1.get? b=some o:=λb o e=>hsb.extBut b o (cp (bg e)) (am _ e);refine⟨lim.keeps hk,?_⟩;show nw _ _ (.expr body (wx qual scope s.heap.objs.size f (.ref c') cl)) _ _;have I:=fO (qual:=qual) (f:=f) (cd:=.ref c') S hr.hd e0 r C (tk:=s.toks+[(x,u)].length) hns hk;refine PySem.W.kla_codeExpr (ig (hbody [] _ _ H Q I hq) (λv' s' hs=>?_) λ_ _ z=>z.elim);obtain⟨y,H',J,ry,q⟩:=hs;exact⟨y,H',J.os,J.bare,J.base,J.hok,ry,q⟩
end
def LamTbl (H:Hp) (P:ag) (pos:Pos) (qual:Str):Prop:=
 ∃ps,H P=some (.tbl ps)/\TriplesOk ps.toList/\(codeAmong pos ps.toList=none\/∃c',codeAmong pos ps.toList=some (.ref c')/\H c'=some (L9 c' qual))
def N4 (mg:Str->Option ah) (base:cr):Prop:=
 ∃bm ob,mg "__builtins__"=some (.ref bm)/\bm≠wj/\base.get? bm=some ob/\ob.cls= .type "module"/\ob.dict=some wj/\ob.data= .plain
def uE (X:Cx) (P:ag) (params:vc) (body:Expr) (scope:jr) (pos:Pos):TE:=λ_ H Q=>LamTbl H P pos (X.env.qual++"<lambda>")/\∀(f c':ag) (ctv:ah) (H':Hp),H f=none->Sb P H H'->
 H' f=some (L8 f (pd "<lambda>" (X.env.qual++"<lambda>") params body scope (BA X.env.cells scope.names []) ((X.mg "__name__").getD .none) c' ctv))->H' c'=some (L9 c' (X.env.qual++"<lambda>"))->
 LamTbl H' P pos (X.env.qual++"<lambda>")->Q (.ref f) H'
section
variable {X:Cx} {c P:ag} {params:vc} {body:Expr} {scope:jr} {pos:Pos}
theorem lK (B:N4 X.mg X.base) (C:vA X.base c P) (hcode:X.env.code= .ref c) (hfr:∀y∈scope.names,y.2= .free->X.env.kindOf y.1=some .cell\/X.env.kindOf y.1=some .free) (hdef:defaultsOf params X.env=([],[]):=by rfl):
 PE X (.Lambda params body scope pos) (uE X P params body scope pos):=by
 intro Df s σ H Q I h;obtain⟨⟨ps,hP,ht,hc⟩,q⟩:=h;have hP':s.heap.get? P=some (PySem.W.tabObj ps):=I.hok P _ hP;have hg:s.heap.Ns fh X.mg:=I.ok.mod.glob.keeps I.bk;have hgo:∃o es ep,X.base.get? fh=some o/\o.data= .dict es ep:=by
  obtain⟨o,es,ep,e,d,_⟩:=I.ok.mod.glob;exact⟨o,es,ep,e,d⟩
 obtain⟨og,es,ep,eg,dg⟩:=hgo;obtain⟨bm,ob,b1,b2,b3,b4,b5,b6⟩:=B;have nP:∀{b:ag},H b=none->b≠P:=λ{b} n z=>by rw[z,hP] at n;cases n
 have hgP:fh≠P:=nP (I.bs _ _ eg).2;have hbG:bm≠fh:=λz=>by rw[z,eg] at b3;cases b3;rw[dg] at b6;cases b6
 have hb:s.heap.BuiltinsAt X.mg P:=⟨bm,ob,b1,b2,hbG,nP (I.bs _ _ b3).2,I.bk _ _ b3,b4,b5,b6⟩
 have hcl:zM scope X.env=pure (BA X.env.cells scope.names []):=M8 λy hy e=>I.ok.has _ (hfr y hy e);have hPl:P<s.heap.objs.size:=bg hP';rcases hc with hn|⟨c',hf,hc'⟩
 ·refine yQ hdef (PySem.W.kla_makeFunction hcl I.ok.glob hg hcode (C.keeps I.bk) hP' ht hn hgP hb λc' ctv h' tk hx hge Dl hrec htb=>?_);generalize hfo:pd "<lambda>" (X.env.qual++"<lambda>") params body scope (BA X.env.cells scope.names []) ((X.mg "__name__").getD .none) c' ctv=fo at q ⊢;have q:=q h'.objs.size c' ctv;rw[hfo] at q;generalize hfa:h'.objs.size=f at q Dl ⊢;have hfs:s.heap.objs.size<=f:=cu hge (tm Dl);have ncP:P≠c':=cp (bv hPl hge);have nfP:P≠f:=cp (bv hPl hfs);have ncf:c'≠f:=cp Dl;have Hc:H c'=none:=I.hok.fresh hge;have Hf:H f=none:=I.hok.fresh hfs;have at1:upd (upd (upd H P (.tbl (ps++#[ge pos.line,ge pos.col,.ref c']))) c' (L9 c' (X.env.qual++"<lambda>"))) f (L8 f fo) f=some (L8 f fo):=upd_same;have at2:upd (upd (upd H P (.tbl (ps++#[ge pos.line,ge pos.col,.ref c']))) c' (L9 c' (X.env.qual++"<lambda>"))) f (L8 f fo) c'=some (L9 c' (X.env.qual++"<lambda>")):=by rw[AE ncf,upd_same]
  have at3:upd (upd (upd H P (.tbl (ps++#[ge pos.line,ge pos.col,.ref c']))) c' (L9 c' (X.env.qual++"<lambda>"))) f (L8 f fo) P=some (.tbl (ps++#[ge pos.line,ge pos.col,.ref c'])):=by rw[AE nfP,AE ncP,upd_same]
  have at4:∀b,b≠P->b≠c'->b≠f->upd (upd (upd H P (.tbl (ps++#[ge pos.line,ge pos.col,.ref c']))) c' (L9 c' (X.env.qual++"<lambda>"))) f (L8 f fo) b=H b:=λb n1 n2 n3=>by rw[AE n3,AE n2,AE n1]
  generalize upd (upd (upd H P (.tbl (ps++#[ge pos.line,ge pos.col,.ref c']))) c' (L9 c' (X.env.qual++"<lambda>"))) f (L8 f fo)=H' at at1 at2 at3 at4;have old:∀b o,H b=some o->b≠P->H' b=some o:=λb o e n=>by
   rw[at4 b n (AG e Hc) (AG e Hf)];exact e
  have kp:∀b o,b≠P->s.heap.get? b=some o->(h'.push fo).get? b=some o:=λb o n e=>am _ (hx b o n e);have fr:∀b o,s.heap.get? b=some o->H b=none->H' b=none:=λb o e n=>by
   have hl:=bg e;rw[at4 b (nP n) (cp (bv hl hge)) (cp (bv hl hfs))];exact n
  have nt:∀{b:ag} {o:HO},H b=some o->(∀ps,o≠.tbl ps)->b≠P:=λ{b o} e d z=>by rw[z,hP] at e;cases e;exact d _ rfl
  have U:Un X.fs [] H H' s.heap (h'.push fo):=by
   refine⟨λb o e n _ _=>kp b o (nP n) e,λb o e n _ _=>⟨o.slots,kp b o (nP n) e⟩,λb o e n _=>fr b o e n,λb o e _=>?_,λb xs e=>old b _ e (nt e λps z=>by cases z),λb o u e=>old b _ e (nt e λps z=>by cases z),λb ps' e=>?_⟩
   ·by_cases z:b=P
    ·subst z;exact⟨_,am _ htb⟩
    ·exact⟨o,kp b o z e⟩
   ·by_cases z:b=P
    ·subst z;rw[hP] at e;cases e;exact⟨_,at3⟩
    ·exact⟨#[],by rw[old b _ e z];simp⟩
  have hok:HOk X.prog X.w H' (h'.push fo):=λb u e=>by
   by_cases z1:b=f
   ·subst z1;rw[at1] at e;cases e;exact XI (by rw[←hfa];exact bj _ (by rw[←hfo];rfl))
   ·by_cases z2:b=c'
    ·subst z2;rw[at2] at e;cases e;exact fM (hrec.push _)
    ·by_cases z3:b=P
     ·subst z3;rw[at3] at e;cases e;exact am _ htb
     ·rw[at4 b z3 z2 z1] at e;refine(I.hok b u e).stay (λc v hc q=>kp c v ?_ q) (λc q=>old c _ q (nt q λps z=>by cases z)) λc xs q=>old c _ q (nt q λps z=>by cases z);rcases hc with z|z
      ·rw[z];exact z3
      ·exact nt z λps z=>by cases z
  refine⟨.ref f,H',I.un (t':=tk) U hok,rfl,q H' Hf (λb o e n=>old b o e n) at1 at2 ⟨_,at3,?_,.inr ⟨c',?_,at2⟩⟩⟩
  ·have e:(ps++#[ge pos.line,ge pos.col,cj c']).toList=ps.toList++[ge pos.line,ge pos.col,.ref c']:=by simp
   rw[e];exact TriplesOk_snoc _ _ _ _ ht
  ·have e:(ps++#[ge pos.line,ge pos.col,cj c']).toList=ps.toList++[ge pos.line,ge pos.col,.ref c']:=by simp
   rw[e];exact codeAmong_snoc _ ht hn
 ·refine yQ hdef (PySem.W.kla_makeFunctionHit hcl I.ok.glob hg hcode (C.keeps I.bk) hP' ht hf hb λctv h' tk hk hsz=>?_);have Hf:H h'.objs.size=none:=I.hok.fresh hsz;have sm:=Same.upd (o:=L8 h'.objs.size (pd "<lambda>" (X.env.qual++"<lambda>") params body scope (BA X.env.cells scope.names []) ((X.mg "__name__").getD .none) c' ctv)) Hf;exact⟨.ref _,_,I.laid (t':=tk) (λb o e=>am _ (hk b o e)) hsz (XI (bj _ rfl)),rfl,q _ c' ctv _ Hf (λb o e _=>sm b o e) upd_same (sm _ _ hc') ⟨ps,sm _ _ hP,ht,.inr ⟨c',hf,sm _ _ hc'⟩⟩⟩
end
end L2
end
section
namespace L2
open PySem PySem.Spec PyProof.Rows
theorem cg.perm {α β:Type} {R:α->β->Prop} {l1 l2:List β} (p:l1.Perm l2):∀{as:List α},cg R as l2->∃bs:List α,bs.Perm as/\cg R bs l1:=by
 have key:∀{l1 l2:List β},l2.Perm l1->∀{as:List α},cg R as l2->∃bs:List α,bs.Perm as/\cg R bs l1:=by
  intro l1 l2 p;induction p with
  |nil=>intro as h;cases h;exact⟨[],.refl _,.nil⟩
  |cons x _ ih=>
   intro as h;cases h with
   |cons r t=>
    obtain⟨bs,p1,q1⟩:=ih t;exact⟨_::bs,p1.cons _,.cons r q1⟩
  |swap x y l=>
   intro as h;cases h with
   |cons r t=>
    cases t with
    |cons r2 t2=>exact⟨_::_::_,.swap ..,.cons r2 (.cons r t2)⟩
  |trans _ _ ih1 ih2=>
   intro as h;obtain⟨bs,p1,q1⟩:=ih1 h;obtain⟨cs,p2,q2⟩:=ih2 q1;exact⟨cs,p2.trans p1,q2⟩
 intro as h;exact key p.symm h
theorem cg.zip2 {α β γ δ:Type} {R:α->β->Prop} {S:γ->δ->Prop}:∀{as:List α} {bs:List β} {cs:List γ} {ds:List δ},cg R as bs->cg S cs ds->cg (λ(p:α×γ) (q:β×δ)=>R p.1 q.1/\S p.2 q.2) (as.zip cs) (bs.zip ds)
 |_,_,_,_,.nil,_=>.nil
 |_,_,_,_,.cons _ _,.nil=>.nil
 |_,_,_,_,.cons r t,.cons q u=>.cons ⟨r,q⟩ (cg.zip2 t u)
theorem cg.map_snd {α γ:Type} {R:α->γ->Prop} {T:V->ah->Prop} {f:α->V} {g:γ->ah} (h:∀a c,R a c->T (f a) (g c)):∀{as:List α} {cs:List γ},cg R as cs->cg T (as.map f) (cs.map g)
 |_,_,.nil=>.nil
 |_,_,.cons r t=>.cons (h _ _ r) (cg.map_snd h t)
theorem cg.at {α β:Type} {R:α->β->Prop}:∀{as:List α} {bs:List β} {i:Nat} {a:α},cg R as bs->as[i]? =some a->∃b,bs[i]? =some b/\R a b
 |_,_,_,_,.nil,e=>by simp at e
 |_,_,0,_,.cons r _,e=>by simp at e;subst e;exact⟨_,rfl,r⟩
 |_,_,i+1,a,.cons _ t,e=>by
  obtain⟨u,h1,h2⟩:=cg.at (i:=i) (a:=a) t (by simpa using e);exact⟨u,by simpa using h1,h2⟩
theorem cg.snc {α β:Type} {R:α->β->Prop} {a:α} {b:β} (r:R a b):∀{as:List α} {bs:List β},cg R as bs->cg R (as++[a]) (bs++[b])
 |_,_,.nil=>.cons r .nil
 |_,_,.cons q t=>.cons q (cg.snc r t)
theorem S5:∀a b:List Int,lexLt itemOrd (a.map lw) (b.map lw)=HT.lexLt a b
 |[],[]=>rfl
 |[],_::_=>rfl
 |_::_,[]=>rfl
 |x::a,y::b=>by
  show(decide (x<y)||(!decide (y<x)&&lexLt itemOrd (a.map lw) (b.map lw)))=if x=y then HT.lexLt a b else decide (x<y);rw[S5 a b];by_cases e:x=y
  ·subst e;simp
  ·rw[Dn e];by_cases l:x<y
   ·simp[l]
   ·have:y<x:=by omega
    simp[l,this]
abbrev KeyAt (H:Hp) (k:List Int) (v:ah):Prop:=∃p,v= .ref p/\H p=some (.tup (k.map V.int))
section
variable {X:Cx} {Df:List (ag×Obj)} {σ:St} {H:Hp} {s:ak}
theorem KeyAt.same {H H':Hp} (e:Same H H') {k:List Int} {v:ah} (h:KeyAt H k v):KeyAt H' k v:=let ⟨p,e1,e2⟩:=h;⟨p,e1,e _ _ e2⟩
theorem VR {k:List Int} {Di:List ah} (r:Vals (k.map V.int) Di):∀i,tupItems (λ_=>false) i Di=some (k.map lw):=by
 induction k generalizing Di with
 |nil=>intro i;cases r;rfl
 |cons x k ih=>
  intro i;cases r with
  |cons r t=>
   obtain⟨tk,rfl⟩:=r;show(if(false:Bool)=true then none else(tupItems (λ_=>false) (i+1) _).map (lw x::·))=_;rw[Dn (by simp),ih t];rfl
theorem KeyAt.key {P:bb} {w:cb} {H:Hp} {h:cr} (ok:HOk P w H h) {k:List Int} {v:ah} (q:KeyAt H k v):yR h (λ_=>false) v=some (k.map lw):=by
 obtain⟨p,rfl,e⟩:=q;obtain⟨z,Di,r,ob,e1,c,n,d⟩:=ok p _ e;have hi:G.isTupObj h (.ref p)=true:=by
  show(match h.get? p with|some o=>(match o.cls with| .type n=>n=="tuple"|_=>false)|none=>false)=true;rw[e1];simp only[c];rfl
 unfold yR;rw[Dm hi];show(match h.get? p with|some o=>(match o.data with| .seq xs _=>tupItems (λ_=>false) 0 xs.toList|_=>none)|none=>none)=_;rw[e1];simp only[d];exact VR r 0
theorem KeyAt.tups {P:bb} {w:cb} {H:Hp} {h:cr} (ok:HOk P w H h):∀{ks:List (List Int)} {vs:List ah},(∀k∈ks,k≠[])->cg (KeyAt H) ks vs->∃fs,TupsOf h (λ_=>false) vs fs/\fs.length=ks.length
 |_,_,_,.nil=>⟨[],.nil,rfl⟩
 |k::ks,v::vs,ne,.cons q t=>by
  obtain⟨fs,h1,h2⟩:=KeyAt.tups ok (λk hk=>ne k (aq _ hk)) t;obtain⟨p,rfl,e⟩:=q;obtain⟨z,Di,r,ob,e1,c,n,d⟩:=ok p _ e;cases k with
  |nil=>exact absurd rfl (ne [] (bc ..))
  |cons x k=>
   cases r with
   |cons r t'=>
    obtain⟨tk,rfl⟩:=r;exact⟨_::fs,.cons ⟨p,ob,_,n,rfl,e1,c,d,rfl,λ_=>⟨x,tk,rfl⟩,λz=>absurd z (by simp)⟩ h1,by simp[h2]⟩
theorem Inv.take {t':Nat} {it:ag} {o:HO} {h':cr} (I:Inv X Df σ H s) (k:∀b o,b≠it->s.heap.get? b=some o->h'.get? b=some o) (hn:H it=none) (hL:it≠X.env.locals)
 (h1:it∈X.ex\/X.s_0.heap.objs.size<=it) (h2:∀x c,X.env.cells.lookup x=some c->c≠it) (h3:∀p∈X.pn++Df,p.1≠it) (new:ObjOk X.prog X.w (upd H it o) h' it o):Inv X Df σ (upd H it o) { s with heap:=h',toks:=t' }:=by
 have nit:∀b u,H b=some u->b≠it:=λb u e z=>by rw[z,hn] at e;cases e
 refine I.step (g':=s.gens) (d':=s.drawn) (ch:=[it]) (λb hb=>?_) (λb o _ _ hc e _=>k b o (λz=>hc (by simp[z])) e) (λb o _ _ hc e _=>⟨o.slots,k b o (λz=>hc (by simp[z])) e⟩) (λb _ hc _ n=>by rw[AE (λz=>hc (by simp[z]))];exact n)
  (λb o hc e=>⟨o,k b o (λz=>hc (by simp[z])) e⟩) (λb xs e=>by rw[AE (nit b _ e)];exact e) (λb o u e=>by rw[AE (nit b _ e)];exact e) (λb ps e=>⟨#[],by rw[AE (nit b _ e),e];simp⟩) (λm hm=>?_) (λb u e=>?_) I.bare
 ·have e:b=it:=by simpa using hb
  subst e;exact⟨h1,hL,h2,h3⟩
 ·obtain⟨o,es,ep,ho,r⟩:=hm;exact⟨o,es,ep,k _ o (cw hL) ho,r⟩
 ·by_cases hb:b=it
  ·subst hb;rw[upd_same] at e;cases e;exact new
  ·rw[AE hb] at e;refine(I.hok b u e).stay (λc v hc q=>k c v ?_ q) (λc q=>by rw[AE (nit c _ q)];exact q) λc xs q=>by rw[AE (nit c _ q)];exact q
   rcases hc with z|z
   ·rw[z];exact nit b u e
   ·exact nit c _ z
def Own (X:Cx) (Df:List (ag×Obj)) (D:ag):Prop:=D≠X.env.locals/\D∉X.fs/\X.s_0.heap.objs.size<=D/\(∀x c,X.env.cells.lookup x=some c->c≠D)/\∀p∈X.pn++Df,p.1≠D
theorem Inv.own (I:Inv X Df σ H s) {D:ag} (h:s.heap.objs.size<=D):Own X Df D:=by
 refine⟨om (bv I.lt h),I.nofs h,cu I.sz h,λx c e z=>?_,λp hp z=>?_⟩
 ·obtain⟨v,o,ho,_⟩:=I.cell x c e;have hl:=bg ho;rw[z] at hl;exact absurd (bv hl h) (jf _)
 ·have hl:=bg (I.pin p hp).1;rw[z] at hl;exact absurd (bv hl h) (jf _)
def IJ (H:Hp) (h:cr) (D:ag) (a:Array ah) (e:Nat):Prop:=h.get? D=some (mz "list" a e)/\H D=none
theorem Inv.pin2 {D k:ag} {a b:Array ah} {e e':Nat} (I:Inv X Df σ H s) (OD:Own X Df D) (OK:Own X Df k) (hD:IJ H s.heap D a e) (hk:IJ H s.heap k b e'):
 Inv X ((k,mz "list" b e')::(D,mz "list" a e)::Df) σ H s:=by
 refine I.pins_of λp hp=>?_;rcases bq.mp hp with rfl|hp
 ·exact⟨hk.1,hk.2,OK.1,OK.2.1,λv z=>by cases z⟩
 ·rcases bq.mp hp with rfl|hp
  ·exact⟨hD.1,hD.2,OD.1,OD.2.1,λv z=>by cases z⟩
  ·exact I.pin p (dy _ hp)
theorem Inv.unpin2 {D k:ag} {a b:Array ah} {e e':Nat} (I:Inv X ((k,mz "list" b e')::(D,mz "list" a e)::Df) σ H s):Inv X Df σ H s/\IJ H s.heap D a e/\IJ H s.heap k b e':=by
 refine⟨I.pins_of λp hp=>I.pin p (dy _ (aq _ (aq _ hp))),?_,?_⟩
 ·have z:=I.pin (D,mz "list" a e) (dy _ (aq _ (bc ..)));exact⟨z.1,z.2.1⟩
 ·have z:=I.pin (k,mz "list" b e') (dy _ (bc ..));exact⟨z.1,z.2.1⟩
theorem Inv.lone {D:ag} {a:Array ah} {e:Nat} (I:Inv X Df σ H s) (O:Own X Df D) (h:IJ H s.heap D a e) (f:Array ah->Array ah):
 Inv X Df σ H { s with heap:=s.heap.update D (fm f) }/\(∃e',IJ H (s.heap.update D (fm f)) D (f a) e')/\∀b o,b≠D->s.heap.get? b=some o->(s.heap.update D (fm f)).get? b=some o:=by
 have k:∀b o,b≠D->s.heap.get? b=some o->(s.heap.update D (fm f)).get? b=some o:=λb o n q=>by rw[ny _ _ _ _ n];exact q
 exact⟨I.turned (t':=s.toks) k h.2 O.1 (.inr O.2.2.1) O.2.2.2.1 O.2.2.2.2,⟨_,zm h.1 f,h.2⟩,k⟩
section
variable {A:dj} {E:ah->ak->Prop} {D kS q:ag} {xs:List V} {vs:List ah} {ks:List (List Int)} {e1:Nat} {P:Dc->ak->Prop} {H0:Hp}
def KA (X:Cx) (Df:List (ag×Obj)) (σ:St) (H0:Hp) (D:ag) (ks:List (List Int)) (xs:List V) (P:Dc->ak->Prop):Prop:=
 ∀(H':Hp) (s':ak) (zs:List (List Int×V)),Inv X Df σ (upd H' D (.lst (zs.map (·.2)))) s'->Same H0 H'->H' D=none->zs.Perm (ks.zip xs)->zs.Pairwise (λa b=>HT.lexLt b.1 a.1=false)->P (.done (.ret .none)) s'
theorem Y2 {st:SortSt} {keys:Array ah} {e:Nat} {zs:List (List Int×V)} (I:Inv X Df σ H s) (sm:Same H0 H) (OD:Own X Df D) (OK:Own X Df kS) (hn:kS≠D) (hD:IJ H s.heap D #[] e1) (hk:IJ H s.heap kS keys e)
 (hz:keys.size<=sizeLine) (hp:cg (λ(p:List Int×V) (q:Keyed)=>KeyAt H p.1 q.1/\RelV p.2 q.2) zs (vB st).toList) (hzl:zs.length<=sizeLine) (pm:zs.Perm (ks.zip xs)) (pw:zs.Pairwise (λa b=>HT.lexLt b.1 a.1=false)) (hfl:failedOf st=none)
 (h:KA X Df σ H0 D ks xs P):bi (bo X.prog X.w) A (ksk_tail D false e1 (.ref kS) st) P E s:=by
 unfold ksk_tail;try dsimp only
 obtain⟨I1,⟨e2,hk1⟩,k1⟩:=I.lone OK hk (λ_=>#[]);have hD1:IJ H (s.heap.update kS (fm λ_=>#[])) D #[] e1:=⟨k1 _ _ hn.symm hD.1,hD.2⟩
 refine ae (vX hk.1 rfl ?_ hz (du _));refine ae (wpAny_letGo ?_);refine ae (seqEpoch_at hD1.1 rfl ?_);have hl:zs.length=(vB st).size:=hp.length.trans (fy ..);have hso:((vB st).map (·.2)).size<=sizeLine+1:=by
  rw[Array.size_map, ←hl];exact Nat.le_succ_of_le hzl
 refine ae (vX hD1.1 rfl ?_ (du _) (by simpa using hso));rw[hfl];simp only[bne_self_eq_false,fx,if_false];refine ao (h H _ zs ?_ sm hD.2 pm pw);have k2:∀b o,b≠D->(s.heap.update kS (fm λ_=>#[])).get? b=some o->((s.heap.update kS (fm λ_=>#[])).update D (fm λ_=>(vB st).map (·.2))).get? b=some o:=λb o n q=>by rw[ny _ _ _ _ n];exact q
 have r2:Vals (zs.map (·.2)) ((vB st).map (·.2)).toList:=by
  rw[Array.toList_map];exact cg.map_snd (R:=λ(p:List Int×V) (q:Keyed)=>KeyAt H p.1 q.1/\RelV p.2 q.2) (λa c z=>z.2) hp
 obtain⟨e3,he3⟩:∃e3,((s.heap.update kS (fm λ_=>#[])).update D (fm λ_=>(vB st).map (·.2))).get? D=some (mz "list" ((vB st).map (·.2)) e3):=⟨_,zm hD1.1 (λ_=>(vB st).map (·.2))⟩
 refine I1.take (t':=s.toks) k2 hD.2 OD.1 (.inr OD.2.2.1) OD.2.2.2.1 OD.2.2.2.2 ⟨by rw[ai];exact hzl,((vB st).map (·.2)).toList,e3,r2,?_⟩;rw[he3,xr]
theorem cJ {keys:Array ah} {e:Nat} (I:Inv X Df σ H s) (sm:Same H0 H) (OD:Own X Df D) (OK:Own X Df kS) (hn:kS≠D) (hD:IJ H s.heap D #[] e1) (hk:IJ H s.heap kS keys e)
 (hlen:ks.length=xs.length) (hne:∀k∈ks,k≠[]) (rv:Vals xs vs) (hZ:xs.length<=sizeLine) (rk:cg (KeyAt H) ks keys.toList)
 (h:KA X Df σ H0 D ks xs P):bi (bo X.prog X.w) A (ksk_end D false vs.toArray e1 (.ref kS) keys) P E s:=by
 have hvl:=rv.length;have hkl:ks.length=keys.size:=rk.length.trans (fy ..);have hzs:(keys.zip vs.toArray).size=vs.length:=by
  rw[Array.size_zip];show min keys.size vs.length=vs.length;omega
 have base:cg (λ(p:List Int×V) (q:Keyed)=>KeyAt H p.1 q.1/\RelV p.2 q.2) (ks.zip xs) (keys.zip vs.toArray).toList:=by
  rw[yS];exact cg.zip2 rk rv
 have hzl:(ks.zip xs).length<=sizeLine:=by rw[List.length_zip];omega
 have fin:∀st:SortSt,(vB st).Perm (keys.zip vs.toArray)->failedOf st=none->SortedToK (x9 s.heap λ_=>false) (vB st) (keys.zip vs.toArray).size->bi (bo X.prog X.w) A (ksk_tail D false e1 (.ref kS) st) P E s:=by
  intro st hp hf hs;obtain⟨zs,pm,pz⟩:=cg.perm (Array.perm_iff_toList_perm.mp hp) base;refine Y2 I sm OD OK hn hD hk (by omega) pz (by rw[pm.length_eq];exact hzl) pm ?_ hf h;rw[mh];intro i j hi hj hij;have zl:zs.length=(vB st).size:=pz.length.trans (fy ..);obtain⟨p,hp1,hp2, -⟩:=cg.at pz (aj hi);obtain⟨p',hp1',hp2', -⟩:=cg.at pz (aj hj);have hk1:=KeyAt.key I.hok hp2;have hk2:=KeyAt.key I.hok hp2';have hs':=hs i j (tm hij) (by rw[←hp.size_eq];omega);have kk:∀{i:Nat} {p:Keyed} {k:List Int},(vB st).toList[i]? =some p->yR s.heap (λ_=>false) p.1=some (k.map lw)->KK (x9 s.heap λ_=>false) (vB st) i=k.map lw:=by
   intro i p k e1 e2;unfold KK;rw[ma] at e1;rw[e1];show(yR s.heap (λ_=>false) p.1).getD []=_;rw[e2];rfl
  rw[kk hp1 hk1,kk hp1' hk2] at hs';have hs'':lexLt itemOrd (zs[j].1.map lw) (zs[i].1.map lw)=false:=hs';rw[S5] at hs'';exact hs''
 unfold ksk_end;try dsimp only
 simp only[fx,if_false];by_cases h2:vs.toArray.size<2
 ·rw[Dm h2,Dm h2];refine ae (ao ?_);rw[StateT.run_pure];refine ae (ao ?_);try dsimp only
  refine fin (Ct general' (keys.zip vs.toArray) #[] 7 none) (zn _) rfl ?_;intro i j hij hj;rw[hzs] at hj;rw[br] at h2;have:i=j:=by omega
  subst this;exact KeyOrd.kle_refl _
 ·rw[Dn h2,Dn h2];rw[br] at h2;obtain⟨fs,tf,fl⟩:=KeyAt.tups I.hok hne rk;have hkk:bi (bo X.prog X.w) A (keyKind' keys.toList.toArray) (λk s'=>k=tuples' true/\s'=s) E s:=tup_kind (by omega) tf ⟨rfl,rfl⟩;rw[xr] at hkk;refine ae (ig hkk (λkd s' hq=>?_) λ_ _ z=>z);obtain⟨rfl,rfl⟩:=hq;refine ae (ig (G.wpS_sortRunsSt (κ:=x9 s'.heap λ_=>false) (kd:=tuples' true) (a₀:=keys.zip vs.toArray) (st:=Ct (tuples' true) (keys.zip vs.toArray) #[] 7 none)
   (Q:=λ_ st'=>(vB st').Perm (keys.zip vs.toArray)/\failedOf st'=none/\SortedToK (x9 s'.heap λ_=>false) (vB st') (keys.zip vs.toArray).size)
   (G.tupC_ltAt true (Dd _)) (λp hp=>?_) ⟨zn _,rfl,rfl⟩ rfl (Stable.refl _) (by rw[hzs];omega) λst' a1 a2 a3 _=>⟨a1,a2,a3⟩) ?_ λ_ _ e=>e)
  ·rw[yS] at hp;have hm:=(rp hp).1;obtain⟨i,hi,e⟩:=List.getElem_of_mem hm;have hi':i<ks.length:=by rw[hkl];exact Nat.lt_of_lt_of_eq hi (fy ..)
   obtain⟨b,hb,kb⟩:=cg.at rk (aj hi');rw[aj hi,e] at hb;cases hb;exact⟨_,KeyAt.key I.hok kb⟩
  ·rintro ⟨⟨⟩,st'⟩ s3 ⟨rfl,hp,hf,hs⟩;try dsimp only
   exact fin st' hp hf hs
theorem Y3 (I:Inv X Df σ H0 s) (OD:Own X Df D) (OK:Own X Df kS) (hn:kS≠D) (hD:IJ H0 s.heap D #[] e1) (hk:IJ H0 s.heap kS #[] 0)
 (hlen:ks.length=xs.length) (hne:∀k∈ks,k≠[]) (rv:Vals xs vs) (hZ:xs.length<=sizeLine)
 (turn:∀(i:Nat) (x:V) (k:List Int),xs[i]? =some x->ks[i]? =some k->∀(pins':List (ag×Obj)) (H':Hp) (s':ak) (u:ah),Inv X pins' σ H' s'->Same H0 H'->RelV x u->
  bi (bo X.prog X.w) A (call (.ref q) [u]) (EP X pins' σ λv H''=>∃p,v= .ref p/\H' p=none/\H''=upd H' p (.tup (k.map V.int))) (λ_ _=>False) s')
 (h:KA X Df σ H0 D ks xs P):bi (bo X.prog X.w) A (ksk_rest D (.ref q) false vs.toArray e1 (.ref kS)) P E s:=by
 have hvl:=rv.length;have hZ2:=hZ;rw[cf] at hZ2;unfold ksk_rest;refine ae (wpAny_rule ?_);first
  |rw[List.forIn_toArray]
  |(rw[←ya];simp only[List.toList_toArray])
  |rw[←ya]
 refine ae (ksk_fold (λi s'=>∃(H':Hp) (kA:Array ah) (e:Nat),Inv X Df σ H' s'/\Same H0 H'/\IJ H' s'.heap D #[] e1/\IJ H' s'.heap kS kA e/\cg (KeyAt H') (ks.take i) kA.toList) vs 0 s
  ⟨H0,#[],0,I,λ_ _ e=>e,hD,hk,.nil⟩ ?step ?done)
 case step=>
  rintro j u s' hu ⟨H',kA,e,I',sm,hD',hk',pk⟩;simp only[ke] at pk ⊢;have hj:j<vs.length:=(az.mp hu).1;have hxj:xs[j]? =some xs[j]:=aj (by omega);obtain⟨u',hu',ru⟩:=rv.get hxj;rw[hu] at hu';cases hu';have hkj:ks[j]? =some ks[j]:=aj (by omega);have hz:kA.size<=vs.length:=by
   have h1:(ks.take j).length=kA.size:=pk.length.trans (fy ..);rw[eq] at h1;omega
  refine ae (vU (ig (turn j _ _ hxj hkj _ H' s' u (I'.pin2 OD OK hD' hk') sm ru) (λv s2 he=>?_) λ_ _ hF=>hF.elim));obtain⟨y,H2,I2,ry,p,rfl,hpn,rfl⟩:=he;obtain rfl:v=cj p:=ry;obtain⟨I3,hD3,hk3⟩:=I2.unpin2;try dsimp only
  obtain⟨I4,⟨e4,hk4⟩,k4⟩:=I3.lone OK hk3 (·.push (.ref p));refine ae (vX hk3.1 rfl ?_ (by rw[cf];omega) (cu (tu (Array.size_push ..)) (by rw[cf];omega)));have smn:Same H' (upd H' p (.tup (ks[j].map V.int))):=Same.upd hpn;refine ao ⟨rfl,_,kA.push (.ref p),e4,I4,sm.trans smn,⟨k4 _ _ hn.symm hD3.1,hD3.2⟩,hk4,?_⟩;have ek:ks.take (j+1)=ks.take j++[ks[j]]:=by rw[dq,hkj];rfl
  rw[ek,Array.toList_push];exact cg.snc ⟨p,rfl,upd_same⟩ (cg.imp' (λa b z=>KeyAt.same smn z) pk)
 case done=>
  rintro s' ⟨H',kA,e,I',sm,hD',hk',pk⟩;have e3:ks.take (0+vs.length)=ks:=oy (by omega);rw[e3] at pk;try dsimp only
  refine ae (listItems_at hk'.1 rfl ?_);exact cJ I' sm OD OK hn hD' hk' hlen hne rv hZ pk h
theorem Y4 {n:Nat} (I:Inv X Df σ H0 s) (OD:Own X Df D) (hD:IJ H0 s.heap D vs.toArray n)
 (hlen:ks.length=xs.length) (hne:∀k∈ks,k≠[]) (rv:Vals xs vs) (hZ:xs.length<=sizeLine)
 (turn:∀(i:Nat) (x:V) (k:List Int),xs[i]? =some x->ks[i]? =some k->∀(pins':List (ag×Obj)) (H':Hp) (s':ak) (u:ah),Inv X pins' σ H' s'->Same H0 H'->RelV x u->
  bi (bo X.prog X.w) A (call (.ref q) [u]) (EP X pins' σ λv H''=>∃p,v= .ref p/\H' p=none/\H''=upd H' p (.tup (k.map V.int))) (λ_ _=>False) s')
 (h:KA X Df σ H0 D ks xs P):bi (bo X.prog X.w) A (ksk_tree D (.ref q) false) P E s:=by
 have hvl:=rv.length;have hZ2:=hZ;rw[cf] at hZ2;obtain⟨I1,⟨e1,hD1⟩,k1⟩:=I.lone OD hD (λ_=>#[]);unfold ksk_tree;refine ae (listItems_at hD.1 rfl ?_);refine ae (vX hD.1 rfl ?_ (by rw[br,cf];omega) (du _));refine ae (seqEpoch_at hD1.1 rfl ?_);refine ae (wpAny_newTuple ?_ (by show vs.length<=_;rw[cf];omega));refine ae (wpAny_newList ?_ (du _));refine io ?_;have I2:Inv X Df σ H0 { s with heap:=((s.heap.update D (fm λ_=>(#[]:Array ah))).push (mz "tuple" vs.toArray 0)).push (mz "list" #[] 0) }:=
  I1.kept (t':=s.toks) λb o e=>am _ (am _ e)
 have hsz:((s.heap.update D (fm λ_=>(#[]:Array ah))).push (mz "tuple" vs.toArray 0)).objs.size=s.heap.objs.size+1:=by rw[size_push',yT]
 have hDlt:D<s.heap.objs.size:=bg hD.1;refine Y3 (kS:=((s.heap.update D (fm λ_=>(#[]:Array ah))).push (mz "tuple" vs.toArray 0)).objs.size) I2 OD (I.own (by rw[hsz];exact uM _)) (by rw[hsz];exact om (qc hDlt))
  ⟨am _ (am _ hD1.1),hD1.2⟩ ⟨bj _ rfl,I.hok.fresh (by rw[hsz];exact uM _)⟩ hlen hne rv hZ turn h
end
theorem Y5 {l q:ag} {xs:List V} {ks:List (List Int)} {Q:VK} {E:ah->ak->Prop} (I:Inv X Df σ H s) (hl:SqL X.K H l xs) (hlen:ks.length=xs.length) (hne:∀k∈ks,k≠[])
 (turn:∀(i:Nat) (x:V) (k:List Int),xs[i]? =some x->ks[i]? =some k->∀(pins':List (ag×Obj)) (H':Hp) (s':ak) (u:ah),Inv X pins' σ H' s'->Same H H'->RelV x u->
  bi (bo X.prog X.w) X.A.in1.in1 (call (.ref q) [u]) (EP X pins' σ λv H''=>∃p,v= .ref p/\H' p=none/\H''=upd H' p (.tup (k.map V.int))) (λ_ _=>False) s')
 (done:∀(D:ag) (H':Hp) (zs:List (List Int×V)),H' D=none->Same H H'->zs.Perm (ks.zip xs)->zs.Pairwise (λa b=>HT.lexLt b.1 a.1=false)->Q (.ref D) (upd H' D (.lst (zs.map (·.2))))):
 bi (bo X.prog X.w) X.A (call (.builtin "sorted") [.ref l] [(mm "key",.ref q)]) (EP X Df σ Q) E s:=by
 obtain⟨vs,rv,pl,hZ⟩:=I.list hl;have hvl:xs.length=vs.length:=rv.length;have hZ2:vs.length<=sizeLine:=by omega
 refine call_function_entry_kw kind_sorted plain_sorted entry_sorted (by first|exact rfl|decide) ?_;unfold Builtin.«sorted»;refine ae (m:=checkCount "sorted" 1 1 _) (ao ?_);refine ae (collect_list pl.isList ?_ hZ2);refine ae (wpAny_newList ?_ hZ2);have hsz:((s.heap.push (mz "list" #[] 0)).update s.heap.objs.size (fm (·++vs.toArray))).objs.size=s.heap.objs.size+1:=by
  rw[yT,size_push']
 have hoL:(((s.heap.push (mz "list" #[] 0)).update s.heap.objs.size (fm (·++vs.toArray))).push (mz "list" vs.toArray 0)).get? (s.heap.objs.size+1)=some (mz "list" vs.toArray 0):=by
  rw[←hsz];exact bj _ rfl
 have keep:∀b o,s.heap.get? b=some o->(((s.heap.push (mz "list" #[] 0)).update s.heap.objs.size (fm (·++vs.toArray))).push (mz "list" vs.toArray 0)).get? b=some o:=λb o q=>by
  have Dl:b<s.heap.objs.size:=bg q;rw[vL _ _ _ (by rw[hsz];exact cp (qc Dl)),ny _ _ _ _ (cp Dl),vL _ _ _ (cp Dl)];exact q
 show bi _ _ _ _ _ { s with heap:=((s.heap.push (mz "list" #[] 0)).update s.heap.objs.size (fm (·++vs.toArray))).push (mz "list" vs.toArray 0) };rw[hsz];have I1:Inv X Df σ H { s with heap:=((s.heap.push (mz "list" #[] 0)).update s.heap.objs.size (fm (·++vs.toArray))).push (mz "list" vs.toArray 0) }:=I.kept (t':=s.toks) keep;refine ae (io (wpAny_call_entry_kw slot_list_sort ⟨_,hoL,rfl⟩ entry_list_sort ?body (by first|exact rfl|decide)))
 case body=>
  show bi (bo X.prog X.w) X.A.in1.in1 (vJ.«list.sort» ⟨[.ref (s.heap.objs.size+1)],[(mm "key",.ref q)]⟩) _ _ _;rw[ksk_t1];refine Y4 I1 (I.own (uM _)) ⟨hoL,I.hok.fresh (uM _)⟩ hlen hne rv hZ turn λH' s' zs I' sm nD pm pw=>⟨_,rfl,?_⟩
  exact ao ⟨_,rfl,.ref _,_,I',rfl,done _ H' zs nD sm pm pw⟩
end
end L2
end
section
namespace L2
open PySem PySem.Spec PyProof.Rows
structure LamFr (X:Cx) (scope:jr) (fr:List Str) (idx:List Nat):Prop where
 uniq:∀y∈scope.names,scope.names.lookup y.1=some y.2
 out:∀y∈scope.names,y.2= .free->X.env.kindOf y.1=some .cell\/X.env.kindOf y.1=some .free
 len:fr.length=idx.length
 at_:∀(j:Nat) (y:Str),fr[j]? =some y->∃i,idx[j]? =some i/\X.N[i]? =some y/\scope.names.lookup y=some .free/\Vis X.env.scope y/\(X.env.kindOf y=some .cell\/X.env.kindOf y=some .free)
theorem Y6 {X:Cx} {Df:List (ag×Obj)} {σ:St} {H:Hp} {s:ak} {scope:jr} {fr:List Str} {idx:List Nat} {fvs:List V} (I:Inv X Df σ H s) (L:LamFr X scope fr idx) (hl:fvs.length=idx.length)
 (hv:∀(j i:Nat) (v:V),idx[j]? =some i->fvs[j]? =some v->σ[i]? =some (some v)):CellsAre (BA X.env.cells scope.names []) scope fr fvs H s.heap:=by
 have look:∀{y:Str} {c:ag},(BA X.env.cells scope.names []).lookup y=some c->X.env.cells.lookup y=some c:=λ{y c} e=>by
  rcases EL (cq e) with z|⟨z1,z2⟩
  ·exact absurd z (by simp)
  ·obtain⟨c',hc'⟩:=I.ok.has _ (L.out _ z1 rfl);rw[hc'] at z2 ⊢;rw[z2];rfl
 refine⟨L.len.trans hl.symm,λy z c e1 e2=>I.ok.inj y z c (look e1) (look e2),λy hy=>E9 (EM (cq hy)),λy c e=>I.cell y c (look e),λy c e=>I.freeC y c (look e),λj y v h1 h2=>?_⟩;obtain⟨i,hi,hN,hf,vis,hk⟩:=L.at_ j y h1;obtain⟨m,hn,hloc⟩:=I.loc;obtain⟨u,r,lk⟩:=hloc i y v hN (hv j i v hi h2) vis;rcases lk with⟨z,_⟩|⟨_,c,hc,ic⟩
 ·rcases hk with k|k<;>rw[k] at z<;>cases z
 ·obtain⟨c',hc'⟩:=E9 (EM (cells:=X.env.cells) (acc:=[]) (cq hf));have e:=look hc';rw[hc] at e;cases e;exact⟨u,_,r,hc',ic⟩
section
variable {X:Cx} {c P:ag} {params:vc} {body e:Expr} {scope:jr} {p pos kpos lpos:Pos} {fr:List Str} {idx:List Nat} {x:Str} {te t:TE}
def cK (X:Cx) (P:ag) (lpos:Pos) (idx:List Nat) (t:TE) (σ:St) (Q:VK) (y:V) (H1:Hp):Prop:=Ex4 λ(l:ag) (xs:List V) (ks:List (List Int)) (fvs:List V)=>y= .ref l/\SqL X.K H1 l xs/\l≠P/\ks.length=xs.length/\(∀k∈ks,k≠[])/\LamTbl H1 P lpos (X.env.qual++"<lambda>")/\
 fvs.length=idx.length/\(∀(j i:Nat) (v:V),idx[j]? =some i->fvs[j]? =some v->σ[i]? =some (some v))/\
 (∀(i:Nat) (x:V) (k:List Int),xs[i]? =some x->ks[i]? =some k->∀H2:Hp,Sb P H1 H2->t (some x::fvs.map some) H2 λv H3=>∃p,v= .ref p/\H2 p=none/\H3=upd H2 p (.tup (k.map V.int)))/\
 ∀(D:ag) (H2:Hp) (zs:List (List Int×V)),H2 D=none->Sb P H1 H2->LamTbl H2 P lpos (X.env.qual++"<lambda>")->zs.Perm (ks.zip xs)->zs.Pairwise (λa b=>HT.lexLt b.1 a.1=false)->Q (.ref D) (upd H2 D (.lst (zs.map (·.2))))
def rJ (X:Cx) (P:ag) (lpos:Pos) (idx:List Nat) (t:TE) (σ:St) (Q:VK):List V->Hp->Prop
 |[y],H1=>cK X P lpos idx t σ Q y H1
 |_,_=>False
def cM (X:Cx) (P:ag) (lpos:Pos) (idx:List Nat) (te t:TE):TE:=λσ H Q=>te σ H λy H1=>cK X P lpos idx t σ Q y H1
theorem SqL.sb {K:aa} {H H':Hp} {a P:ag} {xs:List V} (s:Sb P H H') (n:a≠P) (h:SqL K H a xs):SqL K H' a xs:=by
 rcases h with(h|⟨o,h⟩)|h
 ·exact .inl (.inl (s _ _ h n))
 ·exact .inl (.inr ⟨o,s _ _ h n⟩)
 ·exact .inr h
theorem LamTbl.same {H H':Hp} {P:ag} {pos:Pos} {q:Str} (e:Same H H') (h:LamTbl H P pos q):LamTbl H' P pos q:=by
 obtain⟨ps,h1,h2,h3⟩:=h;refine⟨ps,e _ _ h1,h2,?_⟩;rcases h3 with h3|⟨c,h3,h4⟩
 ·exact .inl h3
 ·exact .inr ⟨c,h3,e _ _ h4⟩
theorem S6 {Df:List (ag×Obj)} {σ:St} {H1 H2:Hp} {s2:ak} {Q:VK} {l f c':ag} {xs:List V} {ks:List (List Int)} {fvs:List V} {ctv:ah} {E:ah->ak->Prop} (hr:Room 3 X.A) (L:LamFr X scope fr idx) (S:LamScope x fr scope)
 (hb:∀(cl:List (Str×ag)) (pm cd ctv u:ah),wW (xq "<lambda>" (X.env.qual++"<lambda>") params body scope cl pm cd ctv) ⟨[u],[]⟩=pure [(x,u)])
 (hbody:∀(f:ag) (cd:ah) (cl:List (Str×ag)) (A:dj) (outer:List Env) (s:ak) (H:Hp),PE (P1 X.prog X.w X.K X.mg X.base (x::fr) (X.env.qual++"<lambda>") scope f cd cl A outer s H) body t)
 (I2:Inv X Df σ H2 s2) (hl:SqL X.K H1 l xs) (nl:l≠P) (hlen:ks.length=xs.length) (hne:∀k∈ks,k≠[]) (hfl:fvs.length=idx.length) (hfv:∀(j i:Nat) (v:V),idx[j]? =some i->fvs[j]? =some v->σ[i]? =some (some v))
 (turn:∀(i:Nat) (x:V) (k:List Int),xs[i]? =some x->ks[i]? =some k->∀H2:Hp,Sb P H1 H2->t (some x::fvs.map some) H2 λv H3=>∃p,v= .ref p/\H2 p=none/\H3=upd H2 p (.tup (k.map V.int)))
 (done:∀(D:ag) (H2:Hp) (zs:List (List Int×V)),H2 D=none->Sb P H1 H2->LamTbl H2 P lpos (X.env.qual++"<lambda>")->zs.Perm (ks.zip xs)->zs.Pairwise (λa b=>HT.lexLt b.1 a.1=false)->Q (.ref D) (upd H2 D (.lst (zs.map (·.2)))))
 (sb:Sb P H1 H2) (hf:H2 f=some (L8 f (pd "<lambda>" (X.env.qual++"<lambda>") params body scope (BA X.env.cells scope.names []) ((X.mg "__name__").getD .none) c' ctv))) (hc':H2 c'=some (L9 c' (X.env.qual++"<lambda>")))
 (tb2:LamTbl H2 P lpos (X.env.qual++"<lambda>")):
 bi (bo X.prog X.w) X.A (call (.builtin "sorted") [.ref l] [(mm "key",.ref f)]) (EP X Df σ Q) E s2:=by
 refine Y5 (ks:=ks) (Q:=Q) I2 (hl.sb sb nl) hlen hne (λi x' k hx hk pins' H' s' u' I' sm ru=>?_) λD H' zs nD sm pm pw=>done D H' zs nD (λb o e n=>sm b o (sb b o e n)) (tb2.same sm) pm pw;refine ur (oo (fP (CX:=λ_ _ _ _ _ _=>False) (E:=λ_ _ _=>False) (A:=X.A.in1.in1) S (hr.in1.in1) I'.env0.in1.in1 ru (Y6 I' L hfl hfv) (cH I'.hok (sm _ _ hf)) (cI I'.hok (sm _ _ hc')) (hb _ _ _ _ _) (hbody _ _ _ _ _ _ _)
  (turn i x' k hx hk H' λb o e n=>sm b o (sb b o e n))) λr s3 hq=>?_)
 cases r with
 |error e=>exact hq.elim
 |ok fl=>
  cases fl with
  |ret u2=>exact I'.after hq
  |next=>exact fk hq
  |brk=>exact fk hq
  |cont=>exact fk hq
theorem Q9 (hm:X.mg "sorted"=none) (hg:Gl X "sorted") (hr:Room 3 X.A) (he:PE X e te) (B:N4 X.mg X.base) (C:vA X.base c P) (hcode:X.env.code= .ref c) (L:LamFr X scope fr idx) (S:LamScope x fr scope)
 (hb:∀(cl:List (Str×ag)) (pm cd ctv u:ah),wW (xq "<lambda>" (X.env.qual++"<lambda>") params body scope cl pm cd ctv) ⟨[u],[]⟩=pure [(x,u)])
 (hbody:∀(f:ag) (cd:ah) (cl:List (Str×ag)) (A:dj) (outer:List Env) (s:ak) (H:Hp),PE (P1 X.prog X.w X.K X.mg X.base (x::fr) (X.env.qual++"<lambda>") scope f cd cl A outer s H) body t)
 (hdef:defaultsOf params X.env=([],[]):=by rfl) (hst:be [e] X.env=(false,eval e X.env)::be [] X.env:=by rfl) (hbk:ie pos (be [e] X.env)=(false,eval e X.env)::ie pos (be [] X.env):=by rfl)
 (hpl:(ie pos (be [e] X.env)).any (·.1)=false:=by rfl):
 PE X (.Call (.Name "sorted" p) [e] [⟨some "key",.Lambda params body scope lpos,kpos⟩] pos) (cM X P lpos idx te t):=by
 intro Df s σ H Q I h;refine ij (D9 I hg hm Be ?_ (by decide) (by decide));refine callWith_kw (env:=X.env) (thn (AA he AF hst pos Df s σ H (rJ X P lpos idx t σ Q) I h) λus s1 ⟨vs,H1,I1,r,q⟩=>?_) hbk hpl;cases r with
 |nil=>exact q.elim
 |cons r1 r2=>
  cases r2 with
  |cons _ _=>exact q.elim
  |nil=>
   have q:cK X P lpos idx t σ Q _ H1:=q;obtain⟨l,xs,ks,fvs,rfl,hl,nl,hlen,hne,tb,hfl,hfv,turn,done⟩:=q;cases r1;refine kws_cons (thn (lK B C hcode L.out hdef Df s1 σ H1 (λv H2=>∃f c' ctv,v= .ref f/\Sb P H1 H2/\
    H2 f=some (L8 f (pd "<lambda>" (X.env.qual++"<lambda>") params body scope (BA X.env.cells scope.names []) ((X.mg "__name__").getD .none) c' ctv))/\H2 c'=some (L9 c' (X.env.qual++"<lambda>"))/\
    LamTbl H2 P lpos (X.env.qual++"<lambda>")) I1 ⟨tb,λf c' ctv H2 _ a1 a2 a3 a4=>⟨f,c',ctv,rfl,a1,a2,a3,a4⟩⟩) λw' s2 ⟨v,H2,I2,rw',f,c',ctv,ev,sb,hf,hc',tb2⟩=>?_)
   subst ev;obtain rfl:w'=cj f:=rw';refine kws_nil ?_;exact S6 hr L S hb hbody I2 hl nl hlen hne hfl hfv turn done sb hf hc' tb2
end
end L2
end
section
namespace L2
open PySem PySem.Spec PyProof.Rows
open PySem.W (WData Codec OpenSpec Well WellAll ReadsW ReadsAllW)
mutual
theorem Dw.same {K:aa} {H H':Hp} (e:Same H H'):∀{v:V} {d:oh},Dw K H v d->Dw K H' v d
 |_,_,.non=>.non
 |_,_,.bl b=>.bl b
 |_,_,.int i=>.int i
 |_,_,.str x=>.str x
 |_,_,.byt b=>.byt b
 |_,_,.lst h t=>.lst (e.seq h) (DwAll.same e t)
 |_,_,.tup h t=>.tup (Same.tup e h) (DwAll.same e t)
theorem DwAll.same {K:aa} {H H':Hp} (e:Same H H'):∀{vs:List V} {ds:List oh},DwAll K H vs ds->DwAll K H' vs ds
 |_,_,.nil=>.nil
 |_,_,.cons h t=>.cons (Dw.same e h) (DwAll.same e t)
end
def XJ (T:List ag) (H:Hp):Prop:=∀b,H b=none\/(Ex2 λob u=>H b=some (.frz ob u))\/(b∈T/\H b=some (.tbl #[]))
theorem VS {P:bb} {w:cb} {K:aa} {mg mb:Str->Option ah} {CX:CXT} {k:Nat} {fa:ag} {fd:fv} {ps:List Str} {sp:Sp} {s₁:ak} {vals:List ah} {ds:List oh} {R:yM} {cl:Str->Option ag} {d0:oh} {T:List ag}
 (hT:∀p∈T,K.lookup p=none/\∃c,s₁.heap.TableAt c p #[]) (hbl:N4 mg s₁.heap)
 (KX:K.In s₁.heap) (hns:s₁.heap.Ns fh mg) (hb:s₁.heap.Ns wj mb) (hbb:∀x:Str,x≠"__name__"->mb x=jn x) (hlim:s₁.heap.NoLimit) (hg:s₁.gens=#[])
 (hwl:wt w.params s₁.heap vals ds) (hpl:LV ds=true) (hwt:∀d∈ds,d.weight<=1048576) (hr:Room k yu)
 (F:∀base:cr,K.In base->base.Ns fh mg->N4 mg base->FnOk P w K mg base CX k fa fd ps sp) (hbind:∀(s:ak) (us:List ah),us.length=ps.length->xw s fd ⟨us,[]⟩ (ps.zip us)) (hlen:ds.length=ps.length)
 (hsp:∀(H:Hp) (xs:List V),XJ T H->(∀p∈T,H p=some (.tbl #[]))->DwAll K H xs ds->sp xs H (λv H'=>Dw K H' v d0) λ_ _ _=>False)
 (hCX:∀H e s',CX [] H s₁ (λ_ _ _=>False) e s'->False):
 nw (bo P w) yu (.call (.ref fa) ⟨vals,[]⟩) (λr s'=>Ex2 λu as=>r= .ok (.ret u)/\ReadsW R cl s'.heap u d0 as/\OldK s₁.heap s'.heap/\s'.os=s₁.os/\wk s'.gens) s₁:=by
 obtain⟨A,ho,ar⟩:=JU ds vals hwl hpl hwt;have hO':gM (GH K s₁.heap A):=YK ar;have hok':HOk P w (GH K s₁.heap A) s₁.heap:=eJ ar;have hS':=QG KX ar ds vals hwl hpl ho;have hV:=GG ho;have hK':∀b u,GH K s₁.heap A b=some u->K.lookup b=none:=λb u q=>(MP ar q).1;have noSeq:∀{b:ag} {o:Obj},s₁.heap.get? b=some o->(∀vs n,o.data≠.seq vs n)->GH K s₁.heap A b=none:=λ{b o} e d=>by
  cases q:GH K s₁.heap A b with
  |none=>rfl
  |some u=>
   obtain⟨_,vs,_,_,⟨e2,_⟩|⟨e2,_⟩⟩:=MP ar q
   ·rw[e2] at e;cases e;exact absurd rfl (d _ _)
   ·rw[e2] at e;cases e;exact absurd rfl (d _ _)
 have hTo:∀p∈T,s₁.heap.get? p=some { cls:=.none,data:=.fields #[] }:=λp hp=>let ⟨_,_,x⟩:=hT p hp;x.2;have hTn:∀p∈T,GH K s₁.heap A p=none:=λp hp=>noSeq (hTo p hp) λvs n z=>by cases z
 generalize GH K s₁.heap A=H0 at hO' hok' hS' hK' noSeq hTn;obtain⟨H,hHT,hHn⟩:∃H:Hp,(∀p∈T,H p=some (.tbl #[]))/\∀p,p∉T->H p=H0 p:=⟨λb=>if b∈T then some (.tbl #[]) else H0 b,λp hp=>Dm hp,λp hp=>Dn hp⟩
 have sm:Same H0 H:=λb o e=>by
  by_cases z:b∈T
  ·rw[hTn b z] at e;cases e
  ·rw[hHn b z];exact e
 have hO:XJ T H:=λb=>by
  by_cases z:b∈T
  ·exact .inr (.inr ⟨z,hHT b z⟩)
  ·rcases hO' b with q|⟨ob,u,q⟩
   ·exact .inl ((hHn b z).trans q)
   ·exact .inr (.inl ⟨ob,u,(hHn b z).trans q⟩)
 have hok:HOk P w H s₁.heap:=λb u e=>by
  by_cases z:b∈T
  ·rw[hHT b z] at e;cases e;exact hTo b z
  ·rw[hHn b z] at e;exact(hok' b u e).stay (λ_ _ _ q=>q) (λc q=>sm c _ q) λc xs q=>sm c _ q
 have hS:DwAll K H (vals.map toV) ds:=DwAll.same sm hS';have noA:∀{b:ag} {o:Obj},s₁.heap.get? b=some o->(∀vs n,o.data≠.seq vs n)->(∀vs,o.data≠.fields vs)->H b=none:=λ{b o} e d d2=>by
  by_cases z:b∈T
  ·rw[hTo b z] at e;cases e;exact absurd rfl (d2 _)
  ·rw[hHn b z];exact noSeq e d
 have base_of:∀{b:ag} {o:Obj},s₁.heap.get? b=some o->H b=none->(OF s₁.heap H).get? b=some o:=λe n=>ZE e n;have nsK:∀{b:ag} {m:Str->Option ah},s₁.heap.Ns b m->(OF s₁.heap H).Ns b m:=λ{b m} ⟨o,es,ep,e,d,r⟩=>⟨o,es,ep,base_of e (noA e (λvs n z=>by rw[d] at z;cases z) λvs z=>by rw[d] at z;cases z),d,r⟩
 have nK:∀b o,K.lookup b=some o->H b=none:=λb o e=>by
  by_cases z:b∈T
  ·rw[(hT b z).1] at e;cases e
  ·rw[hHn b z];cases q:H0 b with
   |none=>rfl
   |some u=>rw[hK' b u q] at e;cases e
 have hKb:K.In (OF s₁.heap H):=λb o e=>base_of (KX b o e) (nK b o e);have hM:Mod K mg (OF s₁.heap H):=⟨hKb,nsK hns,⟨mb,nsK hb,hbb⟩,let ⟨mc,h1,h2⟩:=hlim;⟨mc,nsK h1,h2⟩⟩
 have hbb':N4 mg (OF s₁.heap H):=by
  obtain⟨bm,ob,b1,b2,b3,b4,b5,b6⟩:=hbl;exact⟨bm,ob,b1,b2,base_of b3 (noA b3 (λvs n z=>by rw[b6] at z;cases z) λvs z=>by rw[b6] at z;cases z),b4,b5,b6⟩
 have e0:Env0 P w K mg (OF s₁.heap H) yu [] s₁ H:=⟨rfl,hM,λb o e=>dO e,tu (X5 _ _),trivial,λb hb=>absurd (show b∈([]:List ag) from hb) (by simp),hok,.of_eq hg⟩
 have hl:vals.length=ps.length:=by rw[FT hwl];exact hlen
 refine oo ((F _ hKb (nsK hns) hbb').run yu [] s₁ H ⟨vals,[]⟩ vals (vals.map toV) _ _ hr e0 (hbind s₁ vals hl) hV (hsp H _ hO hHT hS)) λr s' x=>?_;cases r with
 |error e=>exact(hCX H e s' x).elim
 |ok fl=>
  cases fl with
  |next=>exact fk x
  |brk=>exact fk x
  |cont=>exact fk x
  |ret u=>
   obtain⟨v,H',os,bare,un,hokE,r',q⟩:=x;have kept:∀b o,b∉T->s₁.heap.get? b=some o->s'.heap.get? b=some o:=λb o nT e=>by
    rcases hO b with z|⟨ob,u3,z⟩|⟨z,_⟩
    ·exact un.keep b o e z (by intro z;exact absurd (show b∈([]:List ag) from z) (by simp)) (by simp)
    ·have z2:=un.frzs b ob _ z;obtain⟨e1,_⟩:=hok b _ z;obtain⟨e2,_⟩:=hokE b _ z2;rw[e] at e1;cases e1;exact e2
    ·exact absurd z nT
   have tabs:∀b,b∈T->∃more,s'.heap.get? b=some { cls:=.none,data:=.fields (#[]++more) }:=λb z=>by
    obtain⟨more,z2⟩:=un.tbls b _ (hHT b z);exact⟨more,hokE b _ z2⟩
   have KX':K.In s'.heap:=λb o e=>kept b o (λz=>by rw[(hT b z).1] at e;cases e) (KX b o e);obtain⟨as,hrd⟩:=Dw.reads (R:=R) (cl:=cl) hokE KX' d0 v u q r';refine⟨u,as,rfl,hrd,⟨λb o e=>?_,λb o e=>?_⟩,os,bare⟩
   ·by_cases z:b∈T
    ·obtain⟨more,z2⟩:=tabs b z;obtain⟨_,c,tb⟩:=hT b z;rw[hTo b z] at e;cases e;exact .inr (.inl ⟨tb.isCodeTable,rfl,#[],more,rfl,z2⟩)
    ·exact .inl (kept b o z e)
   ·by_cases z:b∈T
    ·obtain⟨more,z2⟩:=tabs b z;exact⟨_,z2⟩
    ·exact⟨o,kept b o z e⟩
structure TopT (q:bb) (mg:Str->Option ah) (h:cr):Prop where
 tab:∀d∈recsOf q,∃a o fd c P,mg d.name=some (.ref a)/\h.get? a=some o/\o.data= .func fd/\fd.code= .ref c/\h.IsCode c P #[]/\h.TableAt c P #[]
 blt:N4 mg h
theorem VT {r:OpenSpec} {k:Nat} {q:bb} {loose:List Str} {XP:(Str->Option ah)->cr->Prop} {YP:cb->cr->Prop} {d:DefRec} {K:xf->aa} {CX:cb->CXT} {ps:List Str} {sp:cb->List ag->Sp}
 (hwell:r.wellSaid=true) (hdf:d.params.defaults=[]) (hlen:r.args.length=ps.length) (hr:Room k yu)
 (hY:∀(w:cb) (h:cr),YP w h->(K w.params).In h)
 (F:∀(w:cb) (mg:Str->Option ah) (fa:ag) (h:cr),YP w h->(K w.params).In h->h.Ns fh mg->TopT q mg h->mg d.name=some (.ref fa)->
  Ex2 λ(T:List ag) (fd:fv)=>(∀p∈T,(K w.params).lookup p=none/\∃c,h.TableAt c p #[])/\(∀(s:ak) (us:List ah),us.length=ps.length->xw s fd ⟨us,[]⟩ (ps.zip us))/\
   (∀base:cr,(K w.params).In base->base.Ns fh mg->N4 mg base->FnOk r.prog w (K w.params) mg base (CX w) k fa fd ps (sp w T))/\
   ∀(H:Hp) (xs:List V) (a:uT r.args),XJ T H->(∀p∈T,H p=some (.tbl #[]))->zo r.args a=true->xy r.args r.asked a=true->DwAll (K w.params) H xs (ug r.args a)->
    sp w T xs H (λv H'=>Dw (K w.params) H' v (r.ret.enc (xy r.args r.f a))) λ_ _ _=>False)
 (hCX:∀(w:cb) (H:Hp) (s:ak) (e:ah) (s':ak),CX w [] H s (λ_ _ _=>False) e s'->False):
 z6 q loose XP YP r d [] (λf vs=>Cu f vs):=by
 intro w s_0 s₁ mg mb G Y fa o pm cd doc dV kV ho hd hcd hD hmg hg args vals as hpre hlay hrd hwl hlo;obtain⟨a,e1,e2⟩:=PySem.W.os_pre_some hpre;obtain⟨e3,hwi⟩:=Codec.encAll_of_decAll r.args args a e1;subst e3;have KX:=hY w _ Y;obtain⟨T,fd,hT,hb,hF,hsp⟩:=F w mg fa _ Y KX G.T.g ⟨G.T.tab,G.T.bmain⟩ hmg;refine PySem.W.enter_call (oo (VS (R:=[]) (cl:=classAt s_0.heap) (d0:=r.ret.enc (xy r.args r.f a)) hT G.T.bmain KX G.T.g G.T.b G.T.builtins G.T.nolimit hg hwl (O5 _ _) (NJ hlay) hr hF hb (by rw[NK];exact hlen)
  (λH xs hO hH hS=>hsp H xs a hO hH hwi e2 hS) λH e s'=>hCX w H s₁ e s') λr' s' hq=>?_)
 obtain⟨u,as',rfl,h1,h2,h3,h4⟩:=hq;exact⟨.inl ⟨u,_,as',rfl,λ_=>rfl,h1,(OpenSpec.post_iff hwell hwi _ _).mpr rfl,λz=>fj (show false=true from z)⟩,h2,h3,h4⟩
end L2
end
section
namespace Lt
open PySem PySem.Spec PyProof.Rows L2
variable {f a C CR CT r ta CI CL CN:ag} {fd:fv} {X:Cx} {x:List Int} {i n e p q:Nat} {pos:Pos} {z dz fz:Str} {xs:List V} {H H' H1:Hp} {E:XK} {cs t ci ct:List UInt8} {α β:Type} {Q:VK} {ls fr co ba:List (List Int)} {P:bb} {w:cb} {h:cr} {ps:List Str}
def CC (fr co ba:List (List Int)) (s:Stop):List Int:=if co.length<s.course then ba.getD (s.course - co.length - 1) [] else if s.fret=0 then co.getD (s.course - 1) [] else BQ (fr.getD (s.fret - 1) []) (co.getD (s.course - 1) [])
theorem LT.get {K:aa} (h:LT K H a ls) (hi:i<ls.length):Ex2 λxs b=>SqL K H a xs/\xs[i]? =some (V.ref b)/\SqT K H b ((ls.getD i []).map V.int):=by
 obtain⟨as,h1,h2⟩:=h;have hl:as.length=ls.length:=cn h2;obtain⟨l,e1,e2⟩:=BD h2 (aj (show i<as.length by omega));refine⟨_,as[i]'(by omega),SqL.of h1,by rw[au,aj (by omega)];rfl,?_⟩;rw[bf,e1];exact e2
def iF (K:aa) (CI:ag):Sp:=λvs H Q _=>Ex8 λ(ia af ac ab:ag) (fr co ba:List (List Int)) (s:Stop)=>vs=[.ref ia,.int (s.course:Nat),.int (s.fret:Nat)]/\InA K CI H ia af ac ab fr co ba/\plc fr co ba s=true/\1<=s.course/\
 ∀H' a,Same H H'->SqT K H' a ((CC fr co ba s).map V.int)->Q (.ref a) H'
def ntf (b l c f:Int) (ia:ag) (h:Int):List (Str×V):=[("begin",.int b),("line",.int l),("course",.int c),("fret",.int f),("interval",.ref ia),("height",.int h)]
structure NtC (K:aa) (CN:ag):Prop where
 cl:Cls K CN
 nb:NoAttr K CN "begin"
 nl:NoAttr K CN "line"
 nc:NoAttr K CN "course"
 nf:NoAttr K CN "fret"
 ni:NoAttr K CN "interval"
 nh:NoAttr K CN "height"
def lL (K:aa) (CN:ag):Sp:=λvs H Q _=>Ex8 λ(x dx sa ia:ag) (b l h:Int) (s:Stop)=>vs=[.ref x,.int b,.int l,.ref sa,.ref ia,.int h]/\H x=some (.ins CN dx [])/\SqT K H sa ((sL s).map V.int)/\
 ∀H',H' x=some (.ins CN dx (ntf b l (s.course:Nat) (s.fret:Nat) ia h))->Sb x H H'->Q .non H'
def iG (K:aa) (CL:ag):Sp:=λvs H Q _=>Ex2 λ(al:ag) (ps:List Ln)=>vs=[.ref al]/\LnsA K CL H al ps/\ps.length<=512/\∀H' a,Same H H'->H a=none->H' a=some (.lst ((jm (ps.length+1)).map λi=>V.int ((uL ps i:Nat):Int)))->Q (.ref a) H'
def cO (K:aa) (CL:ag):Sp:=λvs H Q _=>Ex6 λ(x dx sa:ag) (n c:Nat) (l:List Stop)=>vs=[.ref x,.int (c:Nat)]/\H x=some (.ins CL dx (lnf (n:Nat) sa))/\LT K H sa (l.map sL)/\Q (.bl (JH c l)) H
section
variable {P:bb} {w:cb} {K:aa} {mg:Str->Option ah} {base:cr} {CI CL CN:ag}
theorem lM:FnScope ["self","course","fret"] ["self","course","fret"] (AH DN):={}
theorem lN (F:Fun K "sound" "Instrument.sound" DN f fd) (B:Blt mg) (T:InC K CI) (D1:Def P w K mg base 3 "upon" ["x","y"] (aC K)):FnOk P w K mg base (CX1 P w) 4 f fd ["self","course","fret"] (iF K CI):=by
 refine F.okx lM λDk A outer s H vs Q E hr h=>?_;obtain⟨ia,af,ac,ab,fr,co,ba,st,rfl,I,hp,h1,k⟩:=h;refine⟨_,(AB (AU (AN EZ (pv 1) (AX AO (by rfl) B.len cy (AA (AT (pv 0) rfl) AF)) (AQ _))
  (AC (AJ (BI CD (AT (pv 0) rfl) (BC G5 (BC G5 (pv 1) (AX AO (by rfl) B.len cy (AA (AT (pv 0) rfl) AF))) AI) (λ_ _=>rfl)))) AK)
  (AB (AU (AN CY (pv 2) AI (AQ _)) (AC (AJ (BI CD (AT (pv 0) rfl) (BC G5 (pv 1) AI) (λ_ _=>rfl)))) AK)
  (AC (AJ (D1.call hr AD (AA (BI CD (AT (pv 0) rfl) (BC G5 (pv 2) AI) (λ_ _=>rfl)) (AA (BI CD (AT (pv 0) rfl) (BC G5 (pv 1) AI) (λ_ _=>rfl)) AF))))))),?_⟩
 and_intros
 obtain⟨dx,i1⟩:=I.at_;obtain⟨y1,q1,l1⟩:=I.co_.len;unfold plc at hp;unfold CC at k;refine⟨_,rfl,_,rfl,ia,CI,dx,_,_,rfl,i1,T.cl,T.nc,IP _ _ _,ac,y1,rfl,.inl q1,_,_,rfl,rfl,_,rfl,B4 (λh0=>?_) (λh0=>?_)⟩
 ·have hc:co.length<st.course:=by
   have:(y1.length:Int)<((st.course:Nat):Int):=by simpa using h0
   omega
  rw[Dn (by omega)] at hp;rw[Dm hc] at k;simp at hp;obtain⟨xs,b,g1,g2,g3⟩:=I.ba_.get (i:=st.course - co.length - 1) (by omega);refine⟨_,rfl,ia,CI,dx,_,_,rfl,i1,T.cl,T.nb,WS _ _ _,_,rfl,_,rfl,ia,CI,dx,_,_,rfl,i1,T.cl,T.nc,IP _ _ _,ac,y1,rfl,.inl q1,_,_,rfl,rfl,_,_,rfl,rfl,ab,xs,_,_,rfl,rfl,g1,RY (j:=st.course - co.length - 1) (by omega) g2,k H b (Same.refl _) g3⟩
 ·have hc:¬co.length<st.course:=by
   have:¬(y1.length:Int)<((st.course:Nat):Int):=by simpa using h0
   omega
  rw[Dm (by omega)] at hp;rw[Dn hc] at k;have hf:st.fret<=fr.length:=of_decide_eq_true hp;obtain⟨xs,b,g1,g2,g3⟩:=I.co_.get (i:=st.course - 1) (by omega);refine⟨_,rfl,rfl,_,rfl,B4 (λh0=>?_) (λh0=>?_)⟩
  ·have e0:st.fret=0:=by
    have q:=of_decide_eq_true h0;injection q with q;omega
   rw[Dm e0] at k;exact⟨_,rfl,ia,CI,dx,_,_,rfl,i1,T.cl,T.nc,IP _ _ _,_,rfl,_,_,rfl,rfl,ac,xs,_,_,rfl,rfl,g1,RY (j:=st.course - 1) (by omega) g2,k H b (Same.refl _) g3⟩
  ·have e0:¬st.fret=0:=λq=>h0 (decide_eq_true (by rw[q];rfl));rw[Dn e0] at k;obtain⟨xs2,b2,g4,g5,g6⟩:=I.fr_.get (i:=st.fret - 1) (by omega);have s1:=I.sf (fr.getD (st.fret - 1) []) (by rw[bf,aj (by omega)];exact jb _);have s2:=I.sc (co.getD (st.course - 1) []) (by rw[bf,aj (by omega)];exact jb _);refine⟨_,rfl,ia,CI,dx,_,_,rfl,i1,T.cl,T.nf,NT _ _ _,_,rfl,_,_,rfl,rfl,af,xs2,_,_,rfl,rfl,g4,RY (j:=st.fret - 1) (by omega) g5,_,rfl,ia,CI,dx,_,_,rfl,i1,T.cl,T.nc,IP _ _ _,_,rfl,_,_,rfl,rfl,ac,xs,_,_,rfl,rfl,g1,RY (j:=st.course - 1) (by omega) g2,?_⟩;exact⟨b2,b,_,_,rfl,.inr g6,g3,s1.1,s2.1,s1.b60.1,s1.b60.2.1,s2.b60.2.1,s2.b60.2.2,λH' r s3 h3=>k H' r s3 (SqT.of h3)⟩
theorem rK:FnScope ["self","begin","line","stop","interval","height"] ["self","begin","line","stop","interval","height"] (AH HI):={}
theorem rL (F:Fun K "__init__" "Note.__init__" HI f fd) (T:NtC K CN):FnOk P w K mg base (CX1 P w) 1 f fd ["self","begin","line","stop","interval","height"] (lL K CN):=by
 refine F.okx rK λDk A outer s H vs Q E hr h=>?_;obtain⟨x,dx,sa,ia,b,l,h,st,rfl,hx,hs,k⟩:=h;refine⟨_,(AB (C5 (pv 0) (pv 1) rfl)
  (AB (C5 (pv 0) (pv 2) rfl)
  (AB (C5 (pv 0) (BI DM (pv 3) AI (λ_ _=>rfl)) rfl)
  (AB (C5 (pv 0) (BI DM (pv 3) AI (λ_ _=>rfl)) rfl)
  (AB (C5 (pv 0) (pv 4) rfl)
  (AC (C5 (pv 0) (pv 5) rfl))))))),?_⟩
 and_intros
 have keep:∀(H':Hp) (xs:List V) (fs:List (Str×V)),H' x=some (.ins CN dx fs)->SqT K H' sa xs->∀gs,SqT K (upd H' x (.ins CN dx gs)) sa xs:=λH' xs fs h1 h2 gs=>by
  rcases h2 with(h2|⟨o,h2⟩)|h2
  ·exact .inl (.inl (by rw[AE (B6 h2 h1 (by intro z;cases z))];exact h2))
  ·exact .inl (.inr ⟨o,by rw[AE (B6 h2 h1 (by intro z;cases z))];exact h2⟩)
  ·exact .inr h2
 have q1:=keep H _ _ hx hs [("begin",.int b)];have q2:=keep _ _ _ upd_same q1 [("begin",.int b),("line",.int l)];have q3:=keep _ _ _ upd_same q2 [("begin",.int b),("line",.int l),("course",.int (st.course:Nat))];refine⟨_,rfl,_,rfl,x,CN,dx,[],rfl,hx,T.cl,T.nb,(by decide),?_⟩;refine⟨_,rfl,_,rfl,x,CN,dx,_,rfl,upd_same,T.cl,T.nl,(by show 1<1000;decide),?_⟩;refine⟨_,rfl,sa,_,0,V.int (st.course:Nat),rfl,rfl,q2,rfl,_,rfl,x,CN,dx,_,rfl,upd_same,T.cl,T.nc,(by show 2<1000;decide),?_⟩;refine⟨_,rfl,sa,_,1,V.int (st.fret:Nat),rfl,rfl,q3,rfl,_,rfl,x,CN,dx,_,rfl,upd_same,T.cl,T.nf,(by show 3<1000;decide),?_⟩;refine⟨_,rfl,_,rfl,x,CN,dx,_,rfl,upd_same,T.cl,T.ni,(by show 4<1000;decide),?_⟩;refine⟨_,rfl,_,rfl,x,CN,dx,_,rfl,upd_same,T.cl,T.nh,(by show 5<1000;decide),?_⟩;exact k _ upd_same λb o e hb=>by rw[AE hb,AE hb,AE hb,AE hb,AE hb,AE hb];exact e
theorem sc_beg:FnScope ["lines","unit","units","line"] ["lines"] (AH GR):={}
def JI (ps:List Ln) (i:Nat):List V:=(jm (i+1)).map λj=>V.int ((uL ps j:Nat):Int)
theorem S7 (ps:List Ln) (i:Nat):JI ps (i+1)=JI ps i++[V.int ((uL ps (i+1):Nat):Int)]:=by
 unfold JI;rw[uW,dh];rfl
theorem lO (F:Fun K "beginnings" "beginnings" GR f fd) (TL:LnC K CL):FnOk P w K mg base (CX1 P w) 1 f fd ["lines"] (iG K CL):=by
 refine F.okx sc_beg λDk A outer s H vs Q E hr h=>?_;obtain⟨al,ps,rfl,L,hl,k⟩:=h;refine⟨_,(AB (AZ 1 sc_beg AI)
  (AB (AZ 2 sc_beg (DL (AA AI AF)))
  (AB (BR bh rfl (CW (pv 0)) (C0 3 sc_beg)
  (AB (IR (i:=1) sc_beg.nd rfl (vT rfl) (AT (pv 3) rfl) IS)
  (AC (AY (G7 dw fb ff CQ (pv 2) (AA (pv 1) AF))))))
  (AC (AJ (pv 2)))))),?_⟩
 and_intros
 obtain⟨as,a1,a2⟩:=id L;have la:as.length=ps.length:=cn a2;refine⟨by rw[cf];show 1<=16777216;decide,λua nu=>?_⟩;have n0:al≠ua:=AG a1 nu;refine⟨V.ref al,rfl,al,rfl,⟨_,SqL.of (by rw[AE n0];exact a1)⟩,CO (K:=K) (a:=al) (xs:=as.map V.ref) (λi σ H'=>(∃r3,σ=[some (.ref al),some (.int ((uL ps i:Nat):Int)),some (.ref ua),r3])/\H'=upd H ua (.lst (JI ps i))) ⟨⟨none,by rw[EK];rfl⟩,by unfold JI;simp[EK]⟩ ?_ ?_ ?_⟩
 ·rintro i σ H' _ ⟨_,rfl⟩;exact SqL.of (by rw[AE n0];exact a1)
 ·rintro i y σ H' hi ⟨⟨r3,rfl⟩,rfl⟩
  and_intros
  rw[au] at hi;cases ea:as[i]? with
  |none=>rw[ea] at hi;cases hi
  |some x=>
   rw[ea] at hi;cases hi;obtain⟨p,hp,dl,sa,_,hx,Ls⟩:=BD a2 ea;have hi':i<ps.length:=(az.mp hp).1;have eu:=QQ hp;refine⟨_,rfl,_,rfl,x,CL,dl,_,_,rfl,(by rw[AE (AG hx nu)];exact hx),TL.cl,TL.nl,W2 _ _,_,_,rfl,rfl,?_⟩;have e1:((uL ps i:Nat):Int)+((p.1:Nat):Int)=((uL ps (i+1):Nat):Int):=by omega
   refine⟨_,rfl,.inl ⟨rfl,_,SqL.of upd_same⟩,_,rfl,ua,_,_,rfl,rfl,upd_same,(by unfold JI;rw[ai,mo,cf];omega),⟨some (.ref x),by show[some (V.ref al),some (V.int (((uL ps i:Nat):Int)+((p.1:Nat):Int))),some (V.ref ua),some (V.ref x)]=_;rw[e1]⟩,?_⟩;show upd (upd H ua _) ua (.lst (JI ps i++[V.int (((uL ps i:Nat):Int)+((p.1:Nat):Int))]))=_;rw[e1,S7,dM]
 ·rintro σ H' ⟨⟨r3,rfl⟩,rfl⟩;rw[ai,la];exact⟨_,rfl,k _ ua (Same.upd nu) nu upd_same⟩
theorem cP:FnScope ["self","course","stop"] ["self","course"] (AH FF):={}
theorem cQ {c:Nat} {l:List Stop} {s:Stop} (e:l[i]? =some s) (h0:JH c (l.take i)=false):JH c (l.take (i+1))=(s.course==c):=by
 unfold JH at h0 ⊢;rw[dq,e,wF,h0];simp
theorem lP (F:Fun K "strikes" "Line.strikes" FF f fd) (TL:LnC K CL):FnOk P w K mg base (CX1 P w) 1 f fd ["self","course"] (cO K CL):=by
 refine F.okx cP λDk A outer s H vs Q E hr h=>?_;obtain⟨x,dx,sa,n,c,l,rfl,hx,Ls,k⟩:=h;refine⟨_,(AB (BR bh rfl (CW (AT (pv 0) rfl)) (C0 2 cP)
  (AC (AU (AN CY (BI DM (pv 2) AI (λ_ _=>rfl)) (pv 1) (AQ _)) (AC (AJ G2)) AK)))
  (AC (AJ G2))),?_⟩
 and_intros
 obtain⟨bs,b1,b2⟩:=id Ls;have lb:bs.length=l.length:=by rw[cn b2,ai]
 refine⟨_,rfl,x,CL,dx,_,_,rfl,hx,TL.cl,TL.ns,W3 _ _,sa,rfl,⟨_,SqL.of b1⟩,CO (K:=K) (a:=sa) (xs:=bs.map V.ref) (λi σ H'=>(∃r2,σ=[some (.ref x),some (.int (c:Nat)),r2])/\H'=H/\JH c (l.take i)=false) ⟨⟨none,rfl⟩,rfl,rfl⟩ ?_ ?_ ?_⟩
 ·rintro i σ H' _ ⟨_,rfl,_⟩;exact SqL.of b1
 ·rintro i y σ H' hi ⟨⟨r2,rfl⟩,rfl,h0⟩
  subst_eqs
  rw[au] at hi;cases eb:bs[i]? with
  |none=>rw[eb] at hi;cases hi
  |some b=>
   rw[eb] at hi;cases hi;obtain⟨q,hq,hb⟩:=BD b2 eb;rw[au] at hq;cases es:l[i]? with
   |none=>rw[es] at hq;cases hq
   |some s=>
    rw[es] at hq;cases hq;have ht:=cQ es h0;refine⟨_,rfl,b,_,0,V.int (s.course:Nat),rfl,rfl,hb,rfl,_,rfl,rfl,_,rfl,B4 (λh1=>?_) (λh1=>?_)⟩
    ·have e1:s.course=c:=by
      have q:=of_decide_eq_true h1;injection q with q;omega
     have e2:JH c l=true:=by
      rw[←iu (i+1) l];unfold JH at ht ⊢;rw[wF,ht,e1];simp
     rw[e2] at k;exact k
    ·have e1:¬s.course=c:=λq=>h1 (decide_eq_true (by rw[q]));exact⟨⟨_,rfl⟩,rfl,by rw[ht];simpa using e1⟩
 ·rintro σ H' ⟨⟨r2,rfl⟩,rfl,h0⟩;rw[ai,lb,ez] at h0;rw[h0] at k;exact k
end
end Lt
end
section
namespace L2
open PySem PySem.Spec PyProof.Rows
def kk (k:List Int):List Key:=k.map lw
theorem lQ {a b:List Int} (h:kk a=kk b):a=b:=(List.map_inj_right λ_ _ e=>Bx e).mp h
theorem rM (k:List Int):(kk k).map kV=k.map V.int:=by
 unfold kk;rw[wy];rfl
theorem RA {P:bb} {w:cb} {K:aa} {H:Hp} {h:cr} {a:ag} {k:List Int} (ok:HOk P w H h) (KX:K.In h) (e:SqT K H a (k.map V.int)):(u9 (DH P w)).is h (kk k) a:=by
 obtain⟨Di,o,n,r,h1,h2,h3⟩:=Z7 ok KX e;rw[←rM] at r;exact⟨o,Di.toArray,n,h1,h2,h3,by simpa using O1 r⟩
abbrev KX:List (List Int×ag×V)->List (List Key×ag×ah)->Prop:=cg λp q=>kk p.1=q.1/\p.2.1=q.2.1/\RelV p.2.2 q.2.2
def dxv (xs:List (List Int×ag×V)):List (List Int×V):=xs.map λx=>(x.1,x.2.2)
theorem KX.val {xs:List (List Int×ag×V)} {ys:List (List Key×ag×ah)} (r:KX xs ys) (k:List Int):RelO (E2 (dxv xs) k) ((z7 ys (kk k)).map (·.2)):=by
 induction r with
 |nil=>exact jj
 |@cons p q ps qs h t ih=>
  obtain⟨h1,_,h2⟩:=h;by_cases e:p.1=k
  ·have e':q.1=kk k:=by rw[←h1,e]
   have b:z7 (q::qs) (kk k)=some q.2:=by simp[z7,js,e']
   rw[dxv,dc,GE (p:=(p.1,p.2.2)) e,b];exact h2
  ·have e':¬q.1=kk k:=λz=>e (lQ (h1.trans z));have b:z7 (q::qs) (kk k)=z7 qs (kk k):=by simp[z7,js,e']
   rw[dxv,dc,EN (p:=(p.1,p.2.2)) e,b];exact ih
def DxO (P:bb) (w:cb) (a:ag) (xs:List (List Int×ag×V)):HO:=
 .ext λh=>xs.length<=sizeLine/\(a==sd)=false/\∃ys:List (List Key×ag×ah),KX xs ys/\Ex3 λo es ep=>h.get? a=some o/\o.ExactDict/\o.data= .dict es ep/\es.toList=ys.map (xV (u9 (DH P w)))/\(ys.map (·.1)).Nodup
def Dx (P:bb) (w:cb) (K:aa) (H:Hp) (a:ag) (Dj:List (List Int×V)):Prop:=
 ∃xs,H a=some (DxO P w a xs)/\Dj=dxv xs/\∀x∈xs,SqT K H x.2.1 (x.1.map V.int)
theorem cR {P:bb} {w:cb} {H:Hp} {h:cr} {a:ag} {xs:List (List Int×ag×V)} {ys:List (List Key×ag×ah)} {o:Obj} {es:Array xz} {ep:Nat} (hz:xs.length<=sizeLine) (hm:(a==sd)=false) (r:KX xs ys)
 (h1:h.get? a=some o) (h2:o.ExactDict) (h3:o.data= .dict es ep) (h4:es.toList=ys.map (xV (u9 (DH P w)))) (h5:(ys.map (·.1)).Nodup):ObjOk P w H h a (DxO P w a xs):=
 ⟨⟨hz,hm,ys,r,o,es,ep,h1,h2,h3,h4,h5⟩,⟨_,h1⟩,λg1 g2 ⟨z,m,ys,r,o,es,ep,e,q⟩ k=>⟨z,m,ys,r,o,es,ep,k _ e,q⟩⟩
theorem Dx.same {P:bb} {w:cb} {K:aa} {H H':Hp} {a:ag} {Dj:List (List Int×V)} (d:Dx P w K H a Dj) (e:Same H H'):Dx P w K H' a Dj:=
 let ⟨xs,h1,h2,h3⟩:=d;⟨xs,e _ _ h1,h2,λx hx=>Same.tup e (h3 x hx)⟩
section
variable {X:Cx} {Df:List (ag×Obj)} {σ:St} {H:Hp} {s:ak} {a b:ag} {Dj:List (List Int×V)} {k:List Int} {v:V} {r:ah} {A:dj} {E:ah->ak->Prop}
theorem Inv.dx (I:Inv X Df σ H s) (d:Dx X.prog X.w X.K H a Dj):Ex2 λxs ys=>H a=some (DxO X.prog X.w a xs)/\Dj=dxv xs/\(∀x∈xs,SqT X.K H x.2.1 (x.1.map V.int))/\xs.length<=sizeLine/\(a==sd)=false/\KX xs ys/\s.heap.DictOfH (u9 (DH X.prog X.w)) a ys:=by
 obtain⟨xs,e,ek,hk⟩:=d;obtain⟨z,m,ys,r,o,es,ep,h1,h2,h3,h4,h5⟩:=(show ObjOk X.prog X.w H s.heap a (DxO X.prog X.w a xs) from I.hok a _ e).1;refine⟨xs,ys,e,ek,hk,z,m,r,o,es,ep,h1,h2,h3,h4,?_,h5⟩;intro y hy;have all:∀{l:List (List Int×ag×V)} {n:List (List Key×ag×ah)},KX l n->(∀x∈l,SqT X.K H x.2.1 (x.1.map V.int))->∀y∈n,(u9 (DH X.prog X.w)).is s.heap y.1 y.2.1:=by
  intro l n q;induction q with
  |nil=>intro _ y hy;exact nomatch hy
  |@cons p q ps qs hq t ih=>
   intro hl y hy;rcases bq.mp hy with e|hy
   ·subst e;rw[←hq.1, ←hq.2.1];exact RA I.hok I.kIn (hl p bc)
   ·exact ih (λx hx=>hl x (aq _ hx)) y hy
 exact all r hk y hy
theorem lR {Q:ah->ak->Prop} (hu:A.units+1<wV) (I:Inv X Df σ H s) (d:Dx X.prog X.w X.K H a Dj) (eb:SqT X.K H b (k.map V.int)) (l:E2 Dj k=some v) (h:∀w' s',Inv X Df σ H s'->RelV v w'->Q w' s'):
 bi (bo X.prog X.w) A (wo (.ref a) (.ref b)) Q E s:=by
 obtain⟨xs,ys,e,rfl,hk,z,m,rel,dd⟩:=I.dx d;obtain⟨w',hw,rw'⟩:=RelO.some_of (v:=v) (o:=(z7 ys (kk k)).map (·.2)) (by rw[←l];exact rel.val k);obtain⟨p,hp,hp2⟩:=Option.map_eq_some_iff.mp hw;refine wpAny_getItem_heap (vC hu) (RA I.hok I.kIn eb) dd hp ?_;rw[hp2];exact h w' _ (I.tok _) rw'
theorem cS {Q:ah->ak->Prop} (hu:A.units+1<wV) (I:Inv X Df σ H s) (d:Dx X.prog X.w X.K H a Dj) (eb:SqT X.K H b (k.map V.int)) (h:∀s',Inv X Df σ H s'->Q (.bool (!(E2 Dj k).isSome)) s'):
 bi (bo X.prog X.w) A (kj .NotIn (.ref b) (.ref a)) Q E s:=by
 obtain⟨xs,ys,e,rfl,hk,z,m,rel,dd⟩:=I.dx d;refine wpAny_notIn_heap (vC hu) (RA I.hok I.kIn eb) m dd ?_;have q:=(rel.val k).isSome_eq;rw[yw] at q;rw[←q];exact h _ (I.tok _)
theorem lS {Q:Unit->ak->Prop} (hu:A.units+1<wV) (I:Inv X Df σ H s) (d:Dx X.prog X.w X.K H a Dj) (eb:SqT X.K H b (k.map V.int)) (l:E2 Dj k=none) (hz:Dj.length<sizeLine) (rv:RelV v r)
 (h:∀H' s',Inv X Df σ H' s'->Sb a H H'->Dx X.prog X.w X.K H' a (Dj++[(k,v)])->Q () s'):bi (bo X.prog X.w) A (setItem (.ref a) (.ref b) r) Q E s:=by
 obtain⟨xs,ys,e,rfl,hk,z,m,rel,dd⟩:=I.dx d;rw[dxv,ai] at hz;have hn:(z7 ys (kk k)).isSome=false:=by
  have q:=(rel.val k).isSome_eq;rw[yw,l] at q;exact q.symm
 have hly:ys.length<=sizeLine:=by rw[←cn rel];exact z
 refine wpAny_setItem_heap (hsz:=hly) (vC hu) (RA I.hok I.kIn eb) dd λh' dd' hs=>?_;obtain⟨q,es,ep,hq,h2,h3,h4,_,h5⟩:=dd';have est:storedH ys (kk k) b r=ys++[(kk k,b,r)]:=by
  unfold storedH;rw[Dn (by rw[hn];decide)]
 rw[est] at h4 h5;have rel':KX (xs++[(k,b,v)]) (ys++[(kk k,b,r)]):=Paired.snoc rel ⟨rfl,rfl,rv⟩;have sb:Sb a H (upd H a (DxO X.prog X.w a (xs++[(k,b,v)]))):=λc o ec n=>by rw[AE n];exact ec
 have tp:∀{c:ag} {l:List V},SqT X.K H c l->SqT X.K (upd H a (DxO X.prog X.w a (xs++[(k,b,v)]))) c l:=λ{c l} hc=>by
  rcases hc with(hc|⟨o,hc⟩)|hc
  ·exact .inl (.inl (sb _ _ hc (B6 hc e (by intro z;cases z))))
  ·exact .inl (.inr ⟨o,sb _ _ hc (B6 hc e (by intro z;cases z))⟩)
  ·exact .inr hc
 refine h _ _ (d9 I (by rw[e];exact jj) hs ⟨q,hq⟩ (cR (by rw[bp];simp;omega) m rel' hq h2 h3 h4 h5)) sb ⟨_,upd_same,?_,λx hx=>?_⟩
 ·simp[dxv]
 ·rcases bu.mp hx with hx|hx
  ·exact tp (hk x hx)
  ·have:x=(k,b,v):=by simpa using hx
   rw[this];exact tp eb
end
def rN (P:bb) (w:cb) (K:aa) (td ty:TE):TE:=λσ H Q=>td σ H λx H1=>ty σ H1 λy H2=>Ex5 λa b Dj k v=>x= .ref a/\y= .ref b/\Dx P w K H2 a Dj/\SqT K H2 b (k.map V.int)/\E2 Dj k=some v/\Q v H2
def fQ (P:bb) (w:cb) (K:aa) (ty td:TE):TE:=λσ H Q=>ty σ H λy H1=>td σ H1 λx H2=>Ex4 λa b Dj k=>x= .ref a/\y= .ref b/\Dx P w K H2 a Dj/\SqT K H2 b (k.map V.int)/\Q (.bl (!(E2 Dj k).isSome)) H2
def rO (P:bb) (w:cb) (K:aa) (td ty tv:TE):TS:=λD σ H=>tv σ H λv H1=>td σ H1 λx H2=>ty σ H2 λy H3=>Ex4 λa b Dj k=>x= .ref a/\y= .ref b/\Dx P w K H3 a Dj/\SqT K H3 b (k.map V.int)/\E2 Dj k=none/\Dj.length<sizeLine/\
 ∀H4,Sb a H3 H4->Dx P w K H4 a (Dj++[(k,v)])->D.nx σ H4
def rP (P:bb) (w:cb) (K:aa):TE:=λ_ H Q=>∀p H',H p=none->Sb p H H'->Dx P w K H' p []->Q (.ref p) H'
section
variable {X:Cx} {o i value:Expr} {pos pos':Pos} {td ty tv:TE}
theorem XL (hu:X.A.units+1<wV) (ho:PE X o td) (hi:PE X i ty) (hs:nL i):PE X (.Subscript o i pos) (rN X.prog X.w X.K td ty):=by
 intro Df s σ H Q I h;refine eD PySem.F.slot_dict_getitem.lookup hs (thn (ho Df s σ H _ I h) λu s1 ⟨x,H1,I1,rx,q1⟩=>thn (hi Df s1 σ H1 _ I1 q1) λiv s2 ⟨y,H2,I2,ry,a,b,Dj,k,v,ex,ey,d,eb,l,q2⟩=>?_);subst ex ey;obtain rfl:u=cj a:=rx;obtain rfl:iv=cj b:=ry;obtain⟨_,_,_,_,_,_,_,_,dd⟩:=I2.dx d;exact⟨dd.typeIs,lR hu I2 d eb l λw' s3 I3 rw'=>⟨v,H2,I3,rw',q2⟩⟩
theorem P2 (hu:X.A.units+1<wV) (hi:PE X i ty) (ho:PE X o td):PC X .NotIn i o (fQ X.prog X.w X.K ty td):=by
 intro Df s σ H Q I h;refine thn (hi Df s σ H _ I h) λiv s1 ⟨y,H1,I1,ry,q1⟩=>thn (ho Df s1 σ H1 _ I1 q1) λu s2 ⟨x,H2,I2,rx,a,b,Dj,k,ex,ey,d,eb,q2⟩=>?_;subst ex ey;obtain rfl:u=cj a:=rx;obtain rfl:iv=cj b:=ry;exact cS hu I2 d eb λs3 I3=>⟨.bl (!(E2 Dj k).isSome),H2,I3,rfl,q2⟩
theorem RB (hu:X.A.units+1<wV) (ho:PE X o td) (hi:PE X i ty) (hv:PE X value tv) (hs:qm value (some (.Subscript o i pos')) pos.line X.env=pure false):
 PS X (.Assign [.Subscript o i pos'] value pos) (rO X.prog X.w X.K td ty tv):=by
 intro Df s σ H D I h;refine wpAny_Assign_Subscript (thn (hv Df s σ H _ I h) λr s1 ⟨v,H1,I1,rv,q1⟩=>thn (ho Df s1 σ H1 _ I1 q1) λu s2 ⟨x,H2,I2,rx,q2⟩=>thn (hi Df s2 σ H2 _ I2 q2) λiv s3 ⟨y,H3,I3,ry,a,b,Dj,k,ex,ey,d,eb,l,hz,q3⟩=>?_) hs;subst ex ey;obtain rfl:u=cj a:=rx;obtain rfl:iv=cj b:=ry;exact lS hu I3 d eb l hz rv λH4 s4 I4 sb d4=>⟨σ,H4,I4,q3 H4 sb d4⟩
theorem RD:PE X (.Dict [] [] pos) (rP X.prog X.w X.K):=λDf s σ H Q I h=>by
 have hm:(s.heap.objs.size==sd)=false:=beq_eq_false_iff_ne.mpr (cw (cp I.big));have J:=I.laid (a:=s.heap.objs.size) (h':=s.heap.push { cls:=.type "dict",data:=.dict #[] }) (o:=DxO X.prog X.w s.heap.objs.size []) (t':=s.toks) (λ_ _ q=>am _ q) (aw _)
  (cR (ys:=[]) (du _) hm .nil (bj _ rfl) ⟨rfl,rfl,rfl⟩ rfl rfl xt)
 exact wpAny_Dict_empty ⟨.ref s.heap.objs.size,_,J,rfl,h _ _ (I.hok.fresh (aw _)) (λb o e n=>by rw[AE n];exact e) ⟨[],upd_same,rfl,λx hx=>nomatch hx⟩⟩
end
end L2
end
section
namespace L2
open PySem PySem.Spec PyProof.Rows
def uF:V->List V->Hp->VK->Prop:=λx vs H Q=>Ex4 λ(l:ag) (xs:List V) (i:Nat) (y:V)=>x= .ref l/\vs=[.int (i:Nat),y]/\H l=some (.lst xs)/\i<=xs.length/\xs.length<sizeLine/\Q .non (upd H l (.lst (xs.take i++y::xs.drop i)))
theorem fS {i:Nat} (h:i<1000000000):qj (i:Int)=true:=by
 unfold qj;simp;omega
theorem fT (Di:List ah) (i:Nat) (u2:ah) (hi:i<=Di.length) (x:Int) (hx:x=(i:Int)):
 (λxs:Array ah=>have k:=if x<0 then(x+(xs.size:Int)).toNat else min x.toNat xs.size;(xs.extract 0 k).push u2++xs.extract k) Di.toArray=(Di.take i++u2::Di.drop i).toArray:=by
 have ek:(if x<0 then(x+(Di.toArray.size:Int)).toNat else min x.toNat Di.toArray.size)=i:=by
  rw[Dn (by omega),br];omega
 show((Di.toArray.extract 0 (if x<0 then(x+(Di.toArray.size:Int)).toNat else min x.toNat Di.toArray.size)).push u2++Di.toArray.extract (if x<0 then(x+(Di.toArray.size:Int)).toNat else min x.toNat Di.toArray.size))=_;rw[ek];apply Array.ext';simp;exact oy (by rw[fw];omega)
theorem fU {prog:bb} {w:cb} {A:dj} {E:ah->ak->Prop} {s:ak} {l:ag} {items:Array ah} {n:Nat} {x:Int} {t:Tok} {y:ah} {Q:ah->ak->Prop} (e:s.heap.get? l=some { cls:=.type "list",data:=.seq items n })
 (hf:qj x=true) (hz:items.size<=sizeLine)
 (k:Q .none { s with heap:=s.heap.update l (fm λxs=>have k:=if x<0 then(x+(xs.size:Int)).toNat else min x.toNat xs.size;(xs.extract 0 k).push y++xs.extract k),toks:=s.toks }):bi (bo prog w) A (call (.builtin "list.insert") [.ref l,.int x t,y]) Q E s:=
 zJ F.slot_list_insert ⟨_,e,rfl⟩ F.entry_list_insert (F.args_list_insert_3 _ _ _) (wG l items n x t y (by simp[hf]) hz) ⟨e,k⟩
theorem Y7 {X:Cx}:MtM X "list.insert" uF:=by
 intro Df s σ H x vs v us Q I rx rv h;obtain⟨l,xs,i,y,rfl,rfl,hH,hi,hz,q⟩:=h;cases rx;obtain⟨u1,u2,rfl,r1,r2⟩:=rv.two;obtain⟨t,rfl⟩:=r1;obtain⟨z,Di,n,r,hl,e⟩:=I.lstM hH;refine fU e (fS (by rw[cf] at hz;omega)) (by rw[br];omega) ?_;refine⟨.non,_,I.lset (its':=Di.take i++u2::Di.drop i) hH e (fT Di i u2 (by omega) _ rfl) ((r.take i).append (.cons r2 (r.drop i))) ?_,rfl,q⟩;rw[bp,de,eq,fw];omega
end L2
end
section
namespace L2
open PySem PySem.Spec PyProof.Rows
def RawD (h:cr) (d:ag) (es:Array xz) (ep:Nat):Prop:=∃o,h.get? d=some o/\o.ExactDict/\o.data= .dict es ep
section
variable {prog:bb} {w:cb} {A:dj} {E:ah->ak->Prop} {s:ak} {vw it d:ag} {es:Array xz} {ep i:Nat}
theorem Y8 {Q:ah->ak->Prop} (hvw:s.heap.IsValuesView vw d) (hm:RawD s.heap d es ep)
 (k:Q (.ref s.heap.objs.size) { s with heap:=s.heap.push { cls:=.type "dict_valueiterator",data:=.fields #[.ref d,.int 0 0,.int es.size 0,.int ep 0] } }):bi (bo prog w) A (pyIter (.ref vw)) Q E s:=by
 obtain⟨ov,gv,cv,dv⟩:=id hvw;obtain⟨o,go,_,dd⟩:=hm;refine wpAny_pyIter_slot hvw.typeIs wg (oa wg hvw.typeIs F.entry_dict_values_iter (?_:_) (F.args_dict_values_iter_1 _));unfold vJ.«dict_values.__iter__»;refine ae (ao ?_);refine ae ?_;unfold Ak;refine ae (iw gv dv (x:=.ref d) rfl (ao ?_));refine ae ?_;unfold yU;refine ae (vR go dd ?_);refine ae (wH go dd ?_);have own:pf "dict_valueiterator"=false:=by decide
 simp only[own,fx,if_false];refine gg (ao ⟨_,rfl,"dict_valueiterator",_,⟨_,bj _ rfl,rfl⟩,jc.lookup,(?_:_)⟩);simpa [ge] using k
theorem Y9 {en:xz} {Q:Option ah->ak->Prop} (hv:s.heap.IsValIter it d i es.size ep) (hm:RawD s.heap d es ep) (hx:es[i]? =some en)
 (k:∀h',h'.IsValIter it d (i+1) es.size ep->ql it s.heap h'->Q (some en.val) { s with heap:=h' }):bi (bo prog w) A (xX (.ref it)) Q E s:=by
 obtain⟨oi,gi,ci,di⟩:=id hv;obtain⟨od,go,_,dd⟩:=hm;unfold xX;refine ae (vU (kl (name:=mm "__next__") hv.typeIs jc
  (oa jc hv.typeIs ul (?_:_) (uj _))))
 refine ae (ao ?_);refine ae ?_;refine ae ?_;first|refine ae (ki hv.typeIs (ao ?_))|refine ae (ng hv.typeIs (ao ?_))
 refine ae (z8 gi di ?_);have own:pf "dict_valueiterator"=false:=by decide
 simp only[own,fx,if_false];show bi _ _ (if(cj d==iq)=true then _ else _) _ _ s;rw[Dn (show¬((cj d==iq)=true) from bw)];refine ae (ao ?_);refine ae (vR go dd ?_);rw[Dn (by simp)];refine ae (ao ?_);refine ae (wH go dd ?_);rw[Dn (by simp)];refine ao ?_;obtain⟨lt,hen⟩:=lp.mp hx;simp only[show¬((i:Int)<0) from by omega,if_false,jo,qw lt];refine ae ?_;first|refine ae (ki hv.typeIs (ao ?_))|refine ae (ng hv.typeIs (ao ?_))
 refine ae (uo hv.typeIs ?_);show bi _ _ (zQ (.ref it) 1 (ge ((i:Int)+1)) >>= _) _ _ s;refine ae (jp gi di (by simp) ?_);have hv':(s.heap.update it (pj (·.setIfInBounds 1 (ge ((i:Int)+1))))).IsValIter it d (i+1) es.size ep:=
  ⟨_,je _ gi (um (ou di _)),(ym ..).trans ci,by rw[ou di];simp[ge]⟩
 refine ae (io ?_);refine ae (uo (s:={ s with heap:=s.heap.update it (pj (·.setIfInBounds 1 (ge ((i:Int)+1)))) }) hv'.typeIs ?_);refine ae (uo (s:={ s with heap:=s.heap.update it (pj (·.setIfInBounds 1 (ge ((i:Int)+1)))) }) hv'.typeIs ?_);show bi _ _ (pure es[i].val) _ _ _;rw[hen];exact ao (ao ⟨_,rfl,ao (k _ hv' (qx ..))⟩)
theorem cT {Q:Option ah->ak->Prop} (hh:A.handled=none) (hv:s.heap.IsValIter it d es.size es.size ep) (hm:RawD s.heap d es ep) (k:∀h',Ce it s.heap h'->Q none { s with heap:=h' }):bi (bo prog w) A (xX (.ref it)) Q E s:=by
 obtain⟨oi,gi,ci,di⟩:=id hv;obtain⟨od,go,_,dd⟩:=hm;unfold xX;refine ae (vU (kl (name:=mm "__next__") hv.typeIs jc
  (oa jc hv.typeIs ul (?_:_) (uj _))))
 refine ae (ao ?_);refine ae ?_;refine ae ?_;first|refine ae (ki hv.typeIs (ao ?_))|refine ae (ng hv.typeIs (ao ?_))
 refine ae (z8 gi di ?_);have own:pf "dict_valueiterator"=false:=by decide
 simp only[own,fx,if_false];show bi _ _ (if(cj d==iq)=true then _ else _) _ _ s;rw[Dn (show¬((cj d==iq)=true) from bw)];refine ae (ao ?_);refine ae (vR go dd ?_);rw[Dn (by simp)];refine ae (ao ?_);refine ae (wH go dd ?_);rw[Dn (by simp)];refine ao ?_;simp only[show¬((es.size:Int)<0) from by omega,if_false,jo,ue (aw es.size)];refine ae ?_;first|refine ae (ki hv.typeIs (ao ?_))|refine ae (ng hv.typeIs (ao ?_))
 show bi _ _ (zQ (.ref it) 0 .none >>= _) _ _ s;refine ae (jp gi di (by simp) ?_);show bi _ _ (newExc (.type "StopIteration") [] >>= _) _ _ _;refine ae ?_;simp only[newExc,newTuple];refine ae (gg ?_ (by size_fits));refine ae (m:=vv _ _) (wpAny_of_eq (a:=iq) (by first|rfl|(simp only[vv];rfl)) ?_);refine gg ?_ (by size_fits);simp only[raiseNew];refine ae (xR ?_);rw[show A.in1.handled=none from hh];refine ae (ao (yZ ?_));refine ae (yN (T:="StopIteration") (b:=true) ⟨_,bj _ rfl,rfl⟩ isSubtype_stop ?_);exact ao (k _ (((qx ..).extBut.push _).push _))
theorem RawD.at {h h':cr} (x:RawD h d es ep) (e:∀o,h.get? d=some o->h'.get? d=some o):RawD h' d es ep:=let ⟨o,ho,r⟩:=x;⟨o,e _ ho,r⟩
theorem fV:PySem.W.KdlSrc prog w "dict_values" vw d es.size (λi v=>∃en,es[i]? =some en/\v=en.val) (λh=>h.IsValuesView vw d/\RawD h d es ep) where
 type:=λ_ x=>x.1.typeIs
 there:=λ_ x=>⟨let ⟨_,ho,_⟩:=x.1;bg ho,let ⟨_,ho,_⟩:=x.2;bg ho⟩
 keep:=λ_ _ x f=>⟨let ⟨o,ho,y⟩:=x.1;⟨o,f vw (.inl rfl) o ho,y⟩,x.2.at λo e=>f d (.inr rfl) o e⟩
 notList:=by decide
 notTuple:=by decide
 hint:=λ_ _ _ _ x hq=>PySem.W.kdl_hint_values x.1.typeIs hq
 iter:=λA s hh x=>by
  have Dl:d<s.heap.objs.size:=let ⟨_,ho,_⟩:=x.2;bg ho;refine⟨_,λi h=>h.IsValIter s.heap.objs.size d i es.size ep/\RawD h d es ep,λ_ _ hq=>Y8 x.1 x.2 hq,⟨λb hb=>by simp at hb;simp[hb],λ_ _ _ st f=>⟨st.1.at λo e=>f _ (by simp) o e,st.2.at λo e=>f d (by simp) o e⟩,λi s' Q E hi st k=>?_,λs' Q E st k=>?_,λ_ _ _ _ st k=>wpAny_pyIter_valiter st.1 k⟩,⟨⟨_,bj _ rfl,rfl,rfl⟩,x.2.at λo e=>am _ e⟩⟩
  ·refine Y9 st.1 st.2 (qw hi) λh' q sb=>k _ h' s'.toks ⟨_,qw hi,rfl⟩ ⟨q,st.2.at λo e=>(sb.2 d (cp Dl)).trans e⟩ λb o hb e=>sb.extBut b o (λz=>hb (by simp[z])) e
  ·exact cT hh st.1 st.2 λh' eb=>k h' s'.toks λb o hb e=>eb b o (λz=>hb (by simp[z])) e
theorem VU (hd:(d==sd)=false):MeetsIn prog w (vJ.«dict.values» ⟨[.ref d],[]⟩) (λ_ R s=>s.TypeIs (.ref d) "dict"/\R (.ok (.ret (.ref s.heap.objs.size))) { s with heap:=s.heap.push { cls:=.type "dict_values",data:=.fields #[.ref d] } }):=
 .of_wp λA R s ⟨hT,k⟩=>by
  refine ae ?_;unfold Cm;refine ae (wpAny_notOrdered_dict hT ?_);show bi _ _ (pure d) _ _ s;refine ao ?_;show bi _ _ (wR d >>= _) _ _ s;unfold wR;rw[Dn (by rw[hd];exact bw)];refine ae (ao ?_);exact ae (gg (ao ⟨_,rfl,k⟩))
end
def P3 (v d:ag):HO:=.ext λh=>h.IsValuesView v d
def lT (P:bb) (w:cb) (K:aa) (td:TE):TE:=λσ H Q=>td σ H λx H1=>Ex2 λd Dj=>x= .ref d/\Dx P w K H1 d Dj/\∀v,H1 v=none->Q (.ref v) (upd H1 v (P3 v d))
theorem cU {X:Cx} {e:Expr} {td:TE} {apos cpos:Pos} (he:PE X e td) (hbase:jy e "values" X.env (eval e X.env)=eval e X.env:=by rfl) (hline:(apos.endLine==cpos.line)=true:=by rfl):PE X (.Call (.Attribute e "values" apos) [] [] cpos) (lT X.prog X.w X.K td):=by
 intro Df s σ H Q I h;refine wpAny_Call_method (T:="dict") (id:="dict.values") hbase rfl hline F.plainAttrs_dict yb F.type_dict_values (thn (he Df s σ H _ I h) λu s1 ⟨x,H1,I1,rx,d,Dj,ex,hd,q⟩=>?_);subst ex;obtain rfl:u=cj d:=rx;obtain⟨xs,ys,e1,ek,hk,z,m,rel,dd⟩:=I1.dx hd;obtain⟨o,es,ep,go,xd,_⟩:=id dd;refine⟨dd.typeIs,λb z=>by cases z;exact⟨o,go,xd.2.1⟩,?_⟩;show bi _ _ (nz cpos (.builtin "dict.values") [.ref d] [] []) _ X.xe s1;refine method_meetsIn yb F.entry_dict_values rfl (PySem.evalArgs_none ⟨rfl,dd.typeIs,F.args_dict_values_1 _,_,VU m,dd.typeIs,?_⟩);exact⟨.ref s1.heap.objs.size,_,I1.laid (a:=s1.heap.objs.size) (o:=P3 s1.heap.objs.size d) (t':=s1.toks) (λ_ _ q=>am _ q) (aw _)
  ⟨⟨_,bj _ rfl,rfl,rfl⟩,⟨_,bj _ rfl⟩,λg1 g2 ⟨o,a1,a2⟩ k=>⟨o,k _ a1,a2⟩⟩,rfl,q _ (I1.hok.fresh (aw _))⟩
theorem cW {es:Array xz} {acc:Array ah} (h:zr (λi v=>∃en,es[i]? =some en/\v=en.val) acc es.size):acc.toList=es.toList.map (·.val):=by
 apply List.ext_getElem?;intro i;rw[au,ma,ma];cases e:acc[i]? with
 |none=>
  have h1:acc.size<=i:=Array.getElem?_eq_none_iff.mp e;rw[ue (by rw[←h.1];exact h1)];rfl
 |some v=>
  obtain⟨en,h1,h2⟩:=h.2 i v e;rw[h1,h2];rfl
theorem VV {X:Cx} (hc:X.calm=true):LC X (.type "list") (λxs H Q=>Ex3 λv d Dj=>xs=[.ref v]/\H v=some (P3 v d)/\Dx X.prog X.w X.K H d Dj/\∀l,H l=none->Q (.ref l) (upd H l (.lst (Dj.map (·.2))))):=by
 intro Df s σ H xs us Q I r h;obtain⟨v,d,Dj,rfl,hv,hd,q⟩:=h;obtain⟨u,rfl,rx⟩:=OU r;cases rx;obtain⟨xs,ys,e1,rfl,hk,z,m,rel,dd⟩:=I.dx hd;obtain⟨o,es,ep,go,xd,hdt,hes,_⟩:=id dd;have vw:s.heap.IsValuesView v d:=(show ObjOk X.prog X.w H s.heap v (P3 v d) from I.hok v _ hv).1;have hsz:es.size=xs.length:=by
  have:=congrArg qg hes;rw[fy,ai] at this;rw[this];exact(cn rel).symm
 refine PySem.W.kdl_call (fV (vw:=v) (d:=d) (es:=es) (ep:=ep)) (I.ok.hd hc) ⟨vw,o,go,xd,hdt⟩ (by rw[hsz];exact z) λh' tk acc c kp ga hacc=>?_;have ev:=cW hacc;have rv:Vals ((dxv xs).map (·.2)) acc.toList:=by
  rw[ev,hes,wy];have go:∀{l:List (List Int×ag×V)} {n:List (List Key×ag×ah)},KX l n->Vals ((dxv l).map (·.2)) (n.map ((·.val)∘xV (u9 (DH X.prog X.w)))):=by
   intro l n q;induction q with
   |nil=>exact .nil
   |cons h t ih=>exact .cons h.2.2 ih
  exact go rel
 exact⟨.ref s.heap.objs.size,_,I.laid (t':=tk) kp (aw _) (show ObjOk X.prog X.w _ h' _ (.lst ((dxv xs).map (·.2))) from⟨by rw[dxv,ai,ai];exact z,acc.toList,c,rv,ga⟩),rfl,q _ (I.hok.fresh (aw _))⟩
end L2
end
section
namespace Lt
open PySem PySem.Spec PyProof.Rows L2
variable {f a C CR CT r ta CI CL CN:ag} {fd:fv} {X:Cx} {x:List Int} {i n e p q:Nat} {pos:Pos} {z dz fz:Str} {xs:List V} {H H' H1:Hp} {E:XK} {cs t ci ct:List UInt8} {α β:Type} {Q:VK} {ls fr co ba:List (List Int)} {P:bb} {w:cb} {h:cr} {ps:List Str}
def rQ (K:aa):Sp:=λvs H Q _=>Ex4 λ(ra xa:ag) (rs:List (List Int)) (x:List Int)=>vs=[.ref ra,.ref xa]/\LT K H ra rs/\SqT K H xa (x.map V.int)/\(∀l∈rs,Sm l)/\Sm x/\rs.length<=100000/\
 ∀H',Same H H'->Q (.int ((mPA (λy=>BG y x) [] rs (rs.length+1) 0 rs.length:Nat):Int)) H'
def WPa (K:aa) (ra xa:ag) (rs:List (List Int)) (x:List Int) (H:Hp) (m:Nat) (σ:L2.St) (H':Hp):Prop:=
 Ex4 λ(low high g:Nat) (r4:Option V)=>σ=[some (.ref ra),some (.ref xa),some (.int (low:Nat)),some (.int (high:Nat)),r4]/\Same H H'/\mPA (λy=>BG y x) [] rs (rs.length+1) 0 rs.length=mPA (λy=>BG y x) [] rs g low high/\high - low<g/\low<=high/\high<=rs.length/\m=high - low
theorem LT.same {K:aa} (h:LT K H a ls) (e:Same H H'):LT K H' a ls:=(Same.kp e).lt h
theorem rR (lt:α->Bool) (d:α) (r:List α) (f low high:Nat):mPA lt d r (f+1) low high=if low<high then(if lt (r.getD ((low+high) / 2) d)=true then mPA lt d r f ((low+high) / 2+1) high else mPA lt d r f low ((low+high) / 2)) else low:=rfl
section
variable {P:bb} {w:cb} {K:aa} {mg:Str->Option ah} {base:cr} {CI CL CN:ag}
theorem P4:FnScope ["rising","interval","low","high","middle"] ["rising","interval"] (AH FZ):={}
theorem rS (F:Fun K "place_among" "place_among" FZ f fd) (B:Blt mg) (D1:Def P w K mg base 2 "narrower" ["x","y"] (eN K)):FnOk P w K mg base (CX1 P w) 3 f fd ["rising","interval"] (rQ K):=by
 refine F.okx P4 λDk A outer s H vs Q E hr h=>?_;obtain⟨ra,xa,rs,x,rfl,L,hx,hs,sx,hl,k⟩:=h;refine⟨_,(AB (AZ 2 P4 AI)
  (AB (AZ 3 P4 (AX AO (by rfl) B.len cy (AA (pv 0) AF)))
  (AB (B8 bh (AN IK (pv 2) (pv 3) (AQ _))
  (AB (AZ 4 P4 (BC MD (BC C4 (pv 2) (pv 3)) AI))
  (AC (AU (CS (D1.call hr AD (AA (BI CD (pv 0) (pv 4) (λ_ _=>rfl)) (AA (pv 1) AF))))
   (AC (AZ 2 P4 (BC C4 (pv 4) AI))) (AC (AZ 3 P4 (pv 4)))))))
  (AC (AJ (pv 2)))))),?_⟩
 and_intros
 obtain⟨ys,g1,g2⟩:=L.len;refine⟨_,rfl,ra,ys,rfl,.inl g1,?_⟩;refine⟨WPa K ra xa rs x H,⟨rs.length,0,rs.length,rs.length+1,none,by rw[g2];rfl,Same.refl _,rfl,by omega,by omega,by omega,rfl⟩,?_⟩;rintro m σ H1 ⟨low,high,g,r4,rfl,s1,em,hg,hlh,hh,rfl⟩;obtain⟨g,rfl⟩:∃g',g=g'+1:=⟨g - 1,by omega⟩
 replace em:=em.trans (rR _ _ _ g low high);refine⟨_,rfl,_,rfl,_,_,rfl,rfl,_,rfl,?_⟩;by_cases Dl:low<high
 ·have hd:decide (((low:Nat):Int)<((high:Nat):Int))=true:=decide_eq_true (by omega);rw[hd];rw[Dm Dl] at em;have emid:(((low:Nat):Int)+((high:Nat):Int)) / 2=(((low+high) / 2:Nat):Int):=by omega
  refine DZ ⟨_,rfl,_,rfl,_,_,rfl,rfl,_,_,rfl,rfl,(show(0:Int)<2/\(2:Int)<1073741824 from by decide),?_⟩;obtain⟨xs,b,q1,q2,q3⟩:=(L.same s1).get (i:=(low+high) / 2) (by omega);have sm:=hs (rs.getD ((low+high) / 2) []) (by rw[bf,aj (by omega)];exact jb _);refine⟨_,rfl,V.int (((low+high) / 2:Nat):Int),(by rw[←emid];rfl),ra,xs,_,_,rfl,rfl,q1,DU q2,V.ref xa,rfl,b,xa,_,_,rfl,q3,s1.tup hx,sm,sx,λH2 s2=>⟨_,rfl,?_⟩⟩;cases hn:BG (rs.getD ((low+high) / 2) []) x with
  |true=>
   rw[hn,Dm rfl] at em;exact BS ⟨V.int (((low+high) / 2:Nat):Int),(by rw[←emid];rfl),_,_,rfl,rfl,_,(show high - ((low+high) / 2+1)<high - low by omega),(low+high) / 2+1,high,g,_,rfl,s1.trans s2,em,by omega,by omega,hh,rfl⟩
  |false=>
   rw[hn,Dn (by decide)] at em;exact BH ⟨V.int (((low+high) / 2:Nat):Int),(by rw[←emid];rfl),_,(show(low+high) / 2 - low<high - low by omega),low,(low+high) / 2,g,_,rfl,s1.trans s2,em,by omega,by omega,by omega,rfl⟩
 ·have hd:decide (((low:Nat):Int)<((high:Nat):Int))=false:=decide_eq_false (by omega);rw[hd];rw[Dn Dl] at em;rw[em] at k;exact BH ⟨_,rfl,k H1 s1⟩
end
open PySem PySem.Spec PyProof.Rows L2
def rise (xs:List (List Int)):List (List Int):=PQ BG [] xs
def rkV (rs:List (List Int)) (n:Nat):List (List Int×V):=(jm n).map λi=>(rs.getD i [],V.int (i:Nat))
theorem S8 (rs:List (List Int)) (n:Nat):rkV rs (n+1)=rkV rs n++[(rs.getD n [],V.int (n:Nat))]:=by
 unfold rkV;rw[uW,dh];rfl
theorem cX {Dj:List (List Int×V)} {k:List Int} (h:∀x∈Dj,¬x.1=k):E2 Dj k=none:=by
 induction Dj with
 |nil=>rfl
 |cons p r ih=>rw[EN (h p bc)];exact ih λx hx=>h x (aq _ hx)
theorem N5 {rs:List (List Int)} (nd:rs.Nodup) (hn:n<rs.length):E2 (rkV rs n) (rs.getD n [])=none:=by
 refine cX λx hx e=>?_;unfold rkV at hx;obtain⟨i,hi,rfl⟩:=il.mp hx;have hi:=qf.mp hi;rw[bf,bf,aj hn,aj (ot hi hn)] at e;have:=nN nd (aj (ot hi hn)) (by rw[aj hn];exact congrArg some e.symm);omega
theorem cY {rs:List (List Int)} (nd:rs.Nodup):∀{n:Nat} {k:List Int},n<=rs.length->rs.idxOf k<n->E2 (rkV rs n) k=some (V.int ((rs.idxOf k:Nat):Int))
 |0,k,_,h=>by omega
 |n+1,k,hn,h=>by
  have Dl:n<rs.length:=hn;rw[S8,KQ _ _ _ _ (N5 nd Dl)];by_cases e:rs.idxOf k=n
  ·have ek:k=rs.getD n []:=by
    rw[bf, ←e,aj (by rw[e];exact Dl)];exact(vz (by rw[e];exact Dl)).symm
   rw[Dm ek,e]
  ·have hk:=cY nd (n:=n) (k:=k) (by omega) (by omega);rw[Dn,hk];intro ek;rw[ek,N5 nd Dl] at hk;cases hk
def rT (P:bb) (w:cb) (K:aa):Sp:=λvs H Q _=>Ex2 λ(va:ag) (xs:List (List Int))=>vs=[.ref va]/\LT K H va xs/\(∀l∈xs,Sm l)/\xs.length<=100000/\
 ∀H' d,Same H H'->Dx P w K H' d (rkV (rise xs) (rise xs).length)->Q (.ref d) H'
theorem LT.sbx {K:aa} (h:LT K H a ls) (s:Sb r H H') (ha:a≠r) (hr:∀xs,H r≠some (.tup xs)) (hf:∀o u,H r≠some (.frz o u)):LT K H' a ls:=by
 obtain⟨as,h1,h2⟩:=h;refine⟨as,s _ _ h1 ha,AR h2 λb l q=>?_⟩;rcases q with(q|⟨o,q⟩)|q
 ·exact .inl (.inl (s _ _ q λz=>hr _ (z▸q)))
 ·exact .inl (.inr ⟨o,s _ _ q λz=>hf _ _ (z▸q)⟩)
 ·exact .inr q
theorem rV {K:aa} {Dj:List (List Int×V)} (h:Dx P w K H a Dj) (s:Sb r H H') (ha:a≠r) (hr:∀xs,H r≠some (.tup xs)) (hf:∀o u,H r≠some (.frz o u)):Dx P w K H' a Dj:=by
 obtain⟨xs,h1,h2,h3⟩:=h;refine⟨xs,s _ _ h1 ha,h2,λx hx=>?_⟩;rcases h3 x hx with(q|⟨o,q⟩)|q
 ·exact .inl (.inl (s _ _ q λz=>hr _ (z▸q)))
 ·exact .inl (.inr ⟨o,s _ _ q λz=>hf _ _ (z▸q)⟩)
 ·exact .inr q
theorem Sb.tup2 {K:aa} {b:ag} {l:List V} (s:Sb r H H') (hr:∀xs,H r≠some (.tup xs)) (hf:∀o u,H r≠some (.frz o u)) (q:SqT K H b l):SqT K H' b l:=by
 rcases q with(q|⟨o,q⟩)|q
 ·exact .inl (.inl (s _ _ q λz=>hr _ (z▸q)))
 ·exact .inl (.inr ⟨o,s _ _ q λz=>hf _ _ (z▸q)⟩)
 ·exact .inr q
theorem cg.app {R:α->β->Prop}:∀{a1 a2:List α} {b1 b2:List β},cg R a1 b1->cg R a2 b2->cg R (a1++a2) (b1++b2)
 |_,_,_,_,.nil,s=>s
 |_,_,_,_,.cons r t,s=>.cons r (cg.app t s)
theorem cg.tk {R:α->β->Prop}:∀{a:List α} {b:List β} (n:Nat),cg R a b->cg R (a.take n) (b.take n)
 |_,_,0,_=>.nil
 |_,_,_+1,.nil=>.nil
 |_,_,n+1,.cons r t=>.cons r (cg.tk n t)
theorem cg.dr {R:α->β->Prop}:∀{a:List α} {b:List β} (n:Nat),cg R a b->cg R (a.drop n) (b.drop n)
 |_,_,0,r=>r
 |_,_,_+1,.nil=>.nil
 |_,_,n+1,.cons _ t=>cg.dr n t
structure RkS (P:bb) (w:cb) (K:aa) (H H':Hp) (ra da:ag) (rs:List (List Int)) (Dj:List (List Int×V)):Prop where
 same:Same H H'
 nr:H ra=none
 nd:H da=none
 L:LT K H' ra rs
 D:Dx P w K H' da Dj
 mem:∀l,(E2 Dj l).isSome=decide (l∈rs)
section
variable {P:bb} {w:cb} {K:aa} {mg:Str->Option ah} {base:cr} {CI CL CN:ag}
theorem JJ:FnScope ["intervals","rising","known","interval","ranked","rank"] ["intervals"] (AH QH):={}
theorem lU (F:Fun K "ranks" "ranks" QH f fd) (B:Blt mg) (D1:Def P w K mg base 3 "place_among" ["rising","interval"] (rQ K)):FnOk P w K mg base (CX1 P w) 4 f fd ["intervals"] (rT P w K):=by
 refine F.okx JJ λDk A outer s H vs Q E hr h=>?_;obtain⟨va,xs,rfl,L,hs,hl,k⟩:=h;refine⟨_,(AB (AZ 1 JJ (DL AF))
  (AB (AZ 2 JJ RD)
  (AB (BR bh rfl (CW (pv 0)) (C0 3 JJ)
  (AC (AU (ZG (P2 (NC hr) (pv 3) (pv 2)))
   (AB (RB (NC hr) (pv 2) (pv 3) G2 rfl)
  (AC (AY (G7 dw PySem.F.slot_list_insert PySem.F.type_list_insert Y7 (pv 1) (AA (D1.call hr AD (AA (pv 1) (AA (pv 3) AF))) (AA (pv 3) AF)))))) AK)))
  (AB (AZ 4 JJ RD)
  (AB (BR bh rfl (MJ (by rfl) B.enum (AA (pv 1) AF)) (G3 rfl (BT (C0 5 JJ) (BT (C0 3 JJ) FO)))
  (AC (RB (NC hr) (pv 4) (pv 3) (pv 5) rfl)))
  (AC (AJ (pv 4)))))))),?_⟩
 and_intros
 obtain⟨as,a1,a2⟩:=id L;have la:as.length=xs.length:=cn a2;refine⟨by rw[cf];show 0<=16777216;decide,λra nr=>?_⟩;intro da H1 nd0 sb1 D1';have nd:H da=none:=by
  by_cases e:da=ra
  ·rw[e];exact nr
  ·rw[AE e] at nd0;exact nd0
 have hne:ra≠da:=λe=>by rw[←e,upd_same] at nd0;cases nd0
 have same1:Same H H1:=λb o e=>sb1 b o (by rw[AE (AG e nr)];exact e) (AG e nd);have r1:H1 ra=some (.lst []):=sb1 _ _ upd_same hne;refine⟨V.ref va,rfl,va,rfl,⟨_,SqL.of (same1 _ _ a1)⟩,CO (K:=K) (a:=va) (xs:=as.map V.ref) (λi σ H'=>Ex3 λ(rs:List (List Int)) (Dj:List (List Int×V)) (r3:Option V)=>σ=[some (.ref va),some (.ref ra),some (.ref da),r3,none,none]/\rs=(xs.take i).foldl (FK BG []) []/\RkS P w K H H' ra da rs Dj/\Dj.length<=i/\rs.length<=i)
  ⟨[],[],none,rfl,rfl,⟨same1,nr,nd,⟨[],r1,.nil⟩,D1',λl=>rfl⟩,by simp,by simp⟩ ?_ ?_ ?_⟩
 ·rintro i σ H' _ ⟨rs,Dj,r3,_,_,S,_⟩;exact SqL.of (S.same _ _ a1)
 ·rintro i y σ H2 hi ⟨rs,Dj,r3,rfl,er,S,lk,lr⟩
  subst_eqs
  rw[au] at hi;cases ea:as[i]? with
  |none=>rw[ea] at hi;cases hi
  |some xa=>
   rw[ea] at hi;cases hi;obtain⟨x,hx,tx⟩:=BD a2 ea;have hi':i<xs.length:=(az.mp hx).1;have sx:=hs x (bn hx);have tx2:=S.same.tup tx;have enx:(xs.take (i+1)).foldl (FK BG []) []=FK BG [] rs x:=by
    rw[dq,hx,yo, ←er];rfl
   have hrs:∀l∈rs,Sm l:=λl hm=>by
    have:∀(ys r:List (List Int)) (l:List Int),l∈ys.foldl (FK BG []) r->l∈r\/l∈ys:=by
     intro ys;induction ys with
     |nil=>intro r l h;exact .inl h
     |cons y ys ih=>
      intro r l h;rcases ih _ _ h with h|h
      ·rcases mIns_mem.mp h with h|h
       ·exact .inl h
       ·exact .inr (h▸bc)
      ·exact .inr (aq _ h)
    rw[er] at hm;rcases this _ _ _ hm with h|h
    ·exact absurd h (by simp)
    ·exact hs l (mw h)
   refine⟨V.ref xa,rfl,V.ref da,rfl,da,xa,Dj,x,rfl,rfl,S.D,tx2,_,rfl,?_⟩;rw[S.mem x];by_cases hm:x∈rs
   ·rw[decide_eq_true hm];refine BH ⟨rs,Dj,_,rfl,?_,S,by omega,by omega⟩;rw[enx];unfold FK;rw[Dm hm]
   ·have hv:E2 Dj x=none:=by
     have:=S.mem x;rw[decide_eq_false hm] at this;cases h:E2 Dj x with
     |none=>rfl
     |some v=>rw[h] at this;cases this
    rw[decide_eq_false hm];refine BS ⟨V.ref da,rfl,V.ref xa,rfl,da,xa,Dj,x,rfl,rfl,S.D,tx2,hv,(by rw[cf];omega),λH3 sb3 D3=>?_⟩;obtain⟨zs,dz,_⟩:=id S.D;have t3:∀{b:ag} {l:List V},SqT K H2 b l->SqT K H3 b l:=λq=>Sb.tup2 sb3 (λ_ z=>by rw[dz] at z;cases z) (λ_ _ z=>by rw[dz] at z;cases z) q;have L3:LT K H3 ra rs:=S.L.sbx sb3 hne (λ_ z=>by rw[dz] at z;cases z) (λ_ _ z=>by rw[dz] at z;cases z);have s3:Same H H3:=λb o e=>sb3 b o (S.same b o e) (AG e nd);obtain⟨bs,b1,b2⟩:=id L3;have lb:bs.length=rs.length:=cn b2;refine⟨V.ref ra,rfl,.inl ⟨rfl,_,SqL.of b1⟩,V.ref ra,rfl,V.ref xa,rfl,ra,xa,rs,x,rfl,L3,t3 tx2,hrs,sx,by omega,λH4 s4=>?_⟩;have b14:=s4 _ _ b1;have hle:mPA (λy=>BG y x) [] rs (rs.length+1) 0 rs.length<=rs.length:=VH _ _ _ (du _) (aw _);refine⟨V.ref xa,rfl,ra,_,mPA (λy=>BG y x) [] rs (rs.length+1) 0 rs.length,V.ref xa,rfl,rfl,b14,(by rw[ai,lb];exact hle),(by rw[ai,lb,cf];omega),?_⟩;have eins:FK BG [] rs x=LJ rs (mPA (λy=>BG y x) [] rs (rs.length+1) 0 rs.length) x:=by unfold FK;rw[Dn hm]
    generalize mPA (λy=>BG y x) [] rs (rs.length+1) 0 rs.length=n at hle eins;have n0:∀{b:ag} {o:HO},H b=some o->b≠ra:=λe=>AG e nr;have t5:∀{b:ag} {l:List V} {z:HO},SqT K H4 b l->SqT K (upd H4 ra z) b l:=λ{b l z} q=>Sb.tup2 (r:=ra) (λc o e n=>by rw[AE n];exact e) (λ_ z=>by rw[b14] at z;cases z) (λ_ _ z=>by rw[b14] at z;cases z) q;refine⟨FK BG [] rs x,Dj++[(x,.bl true)],_,rfl,enx.symm,⟨λb o e=>by rw[AE (n0 e)];exact s4 _ _ (s3 _ _ e),nr,nd,⟨bs.take n++xa::bs.drop n,by rw[upd_same,dh,dc,pp,uz],?_⟩,?_,λl=>?_⟩,by rw[bp];simp;omega,by have:=bP (lt:=BG) (d:=[]) (r:=rs) (x:=x);omega⟩
    ·rw[eins];unfold LJ;refine cg.app (cg.tk n (AR b2 λb l q=>t5 (s4.tup q))) (.cons (t5 (s4.tup (t3 tx2))) (cg.dr n (AR b2 λb l q=>t5 (s4.tup q))))
    ·exact rV (r:=ra) (Dx.same D3 s4) (λc o e n=>by rw[AE n];exact e) (cw hne) (λ_ z=>by rw[b14] at z;cases z) (λ_ _ z=>by rw[b14] at z;cases z)
    ·rw[KQ _ _ _ _ hv];by_cases el:l=x
     ·rw[Dm el,decide_eq_true (mIns_mem.mpr (.inr el))];rfl
     ·rw[Dn el,S.mem l,decide_eq_decide];exact⟨λh=>mIns_mem.mpr (.inl h),λh=>(mIns_mem.mp h).elim id λe=>absurd e el⟩
 ·rintro σ H2 ⟨rs,Dj,r3,rfl,er,S,lk,lr⟩;rw[ai,la,ez] at er;rw[ai,la] at lr;have er:rs=rise xs:=er;rw[←er] at k;have ndr:rs.Nodup:=by rw[er];exact PU xt
  intro d2 H3 nd2 sb3 D3;have s3:Same H2 H3:=λb o e=>sb3 b o e (AG e nd2);obtain⟨bs,b1,b2⟩:=id S.L;have lb:bs.length=rs.length:=cn b2;have nd2':H d2=none:=S.same.free nd2;refine⟨V.ref ra,rfl,ra,_,rfl,SqL.of (s3 _ _ b1),E3 (n:=rs.length) (λi σ H'=>(Ex2 λr3 r5=>σ=[some (.ref va),some (.ref ra),some (.ref da),r3,some (.ref d2),r5])/\Same H2 H'/\Dx P w K H' d2 (rkV rs i)) ⟨⟨_,_,rfl⟩,s3,D3⟩ ?_ ?_ ?_ ?_⟩
  ·rintro i σ H' hi ⟨_,s4,_⟩;exact⟨_,.ref (bs[i]'(by omega)),SqL.of (s4 _ _ b1),by rw[au,aj (by omega)];rfl⟩
  ·rintro σ H' ⟨_,s4,_⟩;exact⟨_,SqL.of (s4 _ _ b1),by rw[ai,lb];exact aw _⟩
  ·rintro i v σ H4 H5 hi ⟨⟨r3,r5,rfl⟩,s4,D4⟩ ⟨T',xv,rfl,nT,rfl,hxv⟩;have hxv':=hxv _ (SqL.of (s4 _ _ b1));rw[au] at hxv';cases eb:bs[i]? with
   |none=>rw[eb] at hxv';cases hxv'
   |some b=>
    rw[eb] at hxv';cases hxv';obtain⟨l,hl2,tl⟩:=BD b2 eb;have Dl:i<rs.length:=hi;have eg:rs.getD i []=l:=by rw[bf,hl2];rfl
    have s5:Same H4 (upd H4 T' (.tup [.int (i:Nat),.ref b])):=Same.upd nT;have hn:=N5 ndr Dl;rw[eg] at hn;refine⟨T',_,rfl,SqT.of upd_same,rfl,_,_,rfl,_,_,rfl,rfl,?_⟩;refine⟨V.int (i:Nat),rfl,V.ref d2,rfl,V.ref b,rfl,d2,b,_,l,rfl,rfl,D4.same s5,s5.tup (s4.tup tl),hn,(by unfold rkV;rw[ai,mo,cf];omega),λH6 sb6 D6=>⟨⟨_,_,rfl⟩,?_,by rw[S8,eg];exact D6⟩⟩;exact λc o e=>sb6 c o (s5 _ _ (s4 _ _ e)) (AG e nd2)
  ·rintro σ H4 ⟨⟨r3,r5,rfl⟩,s4,D4⟩;exact⟨V.ref d2,rfl,k H4 d2 (S.same.trans s4) D4⟩
end
open PySem PySem.Spec PyProof.Rows L2
structure NoteP (fr co ba:List (List Int)) (ps:List Ln):Prop where
 fit:∀q∈ps,∀s∈q.2,plc fr co ba s=true
 one:∀q∈ps,∀s∈q.2,1<=s.course
 sm:∀q∈ps,∀s∈q.2,Sm (CC fr co ba s)
 few:∀q∈ps,q.2.length<=14
 len:ps.length<=512
theorem cZ {a b:Stop} (h:sL a=sL b):a=b:=by
 unfold sL at h;obtain⟨c,f⟩:=a;obtain⟨c',f'⟩:=b;simp at h;have h1:c=c':=by have:=h.1;omega
 have h2:f=f':=by have:=h.2;omega
 rw[h1,h2]
structure SoA (P:bb) (w:cb) (K:aa) (g:Stop->List Int) (H:Hp) (d:ag) (ds:List Stop):Prop where
 ex:∃Dj,Dx P w K H d Dj/\cg (λ(kv:List Int×V) (s:Stop)=>kv.1=sL s/\∃b,kv.2= .ref b/\SqT K H b ((g s).map V.int)) Dj ds
theorem XN {K:aa} {g:Stop->List Int}:∀{Dj:List (List Int×V)} {ds:List Stop},cg (λ(kv:List Int×V) (s:Stop)=>kv.1=sL s/\∃b,kv.2= .ref b/\SqT K H b ((g s).map V.int)) Dj ds->∀s,¬s∈ds->E2 Dj (sL s)=none
 |_,_,.nil,s,_=>rfl
 |_,_,.cons r t,s,h=>by
  rw[EN (λe=>h (by rw[cZ (r.1.symm.trans e)];exact bc))];exact XN t s λq=>h (aq _ q)
theorem RF {K:aa} {g:Stop->List Int}:∀{Dj:List (List Int×V)} {ds:List Stop},cg (λ(kv:List Int×V) (s:Stop)=>kv.1=sL s/\∃b,kv.2= .ref b/\SqT K H b ((g s).map V.int)) Dj ds->∀s,s∈ds->∃b,E2 Dj (sL s)=some (.ref b)/\SqT K H b ((g s).map V.int)
 |_,_,.nil,s,h=>absurd h (by simp)
 |_,_,.cons (a:=kv) (b:=s0) r t,s,h=>by
  by_cases e:s=s0
  ·obtain⟨b,h1,h2⟩:=r.2;refine⟨b,?_,by rw[e];exact h2⟩;rw[GE (by rw[r.1,e]),h1]
  ·rw[EN (λz=>e (cZ (r.1.symm.trans z)).symm)];exact RF t s ((bq.mp h).resolve_left e)
theorem SoA.same {K:aa} {g:Stop->List Int} {d:ag} {ds:List Stop} (h:SoA P w K g H d ds) (e:Same H H'):SoA P w K g H' d ds:=
 let ⟨Dj,a,b⟩:=h.ex;⟨Dj,Dx.same a e,AR b λ_ _ ⟨q1,c,q2,q3⟩=>⟨q1,c,q2,e.tup q3⟩⟩
def rW (P:bb) (w:cb) (K:aa) (CI CL:ag):Sp:=λvs H Q _=>Ex9 λ(ia af ac ab al:ag) (fr co ba:List (List Int)) (ps:List Ln)=>vs=[.ref ia,.ref al]/\InA K CI H ia af ac ab fr co ba/\LnsA K CL H al ps/\NoteP fr co ba ps/\
 ∀H' d ds,Same H H'->SoA P w K (CC fr co ba) H' d ds->(∀s,s∈ds↔∃q∈ps,s∈q.2)->ds.length<=7168->Q (.ref d) H'
section
variable {P:bb} {w:cb} {K:aa} {mg:Str->Option ah} {base:cr} {CI CL CN:ag}
theorem lV (af ac ab:ag):(ifs af ac ab).lookup ("sound":Str)=none:=US _ _ _ (by decide +kernel) (by decide +kernel) (by decide +kernel)
theorem XO:FnScope ["instrument","lines","sounds","line","stop"] ["instrument","lines"] (AH HK):={}
theorem rX (F:Fun K "sounds_of" "sounds_of" HK f fd) (T:InC K CI) (TL:LnC K CL) (MS:Mth P w K mg base 4 CI "sound" ["self","course","fret"] (iF K CI)):FnOk P w K mg base (CX1 P w) 5 f fd ["instrument","lines"] (rW P w K CI CL):=by
 refine F.okx XO λDk A outer s H vs Q E hr h=>?_;obtain⟨ia,af,ac,ab,al,fr,co,ba,ps,rfl,I,L,N,k⟩:=h;refine⟨_,(AB (AZ 2 XO RD)
  (AB (BR bh rfl (CW (pv 1)) (C0 3 XO)
  (AC (BR bh rfl (CW (AT (pv 3) rfl)) (C0 4 XO)
   (AC (AU (ZG (P2 (NC hr) (pv 4) (pv 2)))
    (AC (RB (NC hr) (pv 2) (pv 4) (MS.call (pv 0) hr AD (AA (BI DM (pv 4) AI (λ_ _=>rfl)) (AA (BI DM (pv 4) AI (λ_ _=>rfl)) AF))) rfl)) AK)))))
  (AC (AJ (pv 2))))),?_⟩
 and_intros
 obtain⟨as,a1,a2⟩:=id L;have la:as.length=ps.length:=cn a2;intro d H1 nd sb1 D1';have s1:Same H H1:=λb o e=>sb1 b o e (AG e nd);refine⟨V.ref al,rfl,al,rfl,⟨_,SqL.of (s1 _ _ a1)⟩,CO (K:=K) (a:=al) (xs:=as.map V.ref) (λi σ H'=>Ex3 λ(ds:List Stop) (r3 r4:Option V)=>σ=[some (.ref ia),some (.ref al),some (.ref d),r3,r4]/\Same H H'/\SoA P w K (CC fr co ba) H' d ds/\(∀s,s∈ds↔∃q∈ps.take i,s∈q.2)/\ds.length<=14*i)
  ⟨[],none,none,rfl,s1,⟨[],D1',.nil⟩,λs=>by simp,by simp⟩ ?_ ?_ ?_⟩
 ·rintro i σ H' _ ⟨ds,r3,r4,_,s2,_⟩;exact SqL.of (s2 _ _ a1)
 ·rintro i y σ H2 hi ⟨ds,r3,r4,rfl,s2,S2,mem,hl⟩
  subst_eqs
  rw[au] at hi;cases ea:as[i]? with
  |none=>rw[ea] at hi;cases hi
  |some x=>
   rw[ea] at hi;cases hi;obtain⟨p,hp,dl,sa,_,hx,Ls⟩:=BD a2 ea;obtain⟨n,st⟩:=p;have hq:(n,st)∈ps:=bn hp;have hx2:=s2 _ _ hx;have Ls2:=LT.same Ls s2;obtain⟨bs,b1,b2⟩:=id Ls2;have lb:bs.length=st.length:=by rw[cn b2,ai]
   refine⟨V.ref x,rfl,x,CL,dl,_,_,rfl,hx2,TL.cl,TL.ns,W3 _ _,sa,rfl,⟨_,SqL.of b1⟩,CO (K:=K) (a:=sa) (xs:=bs.map V.ref) (λj σ H'=>Ex2 λ(es:List Stop) (r4:Option V)=>σ=[some (.ref ia),some (.ref al),some (.ref d),some (.ref x),r4]/\(∀b o,H2 b=some o->b≠d->H' b=some o)/\SoA P w K (CC fr co ba) H' d es/\(∀s,s∈es↔s∈ds\/s∈st.take j)/\es.length<=ds.length+j)
    ⟨ds,r4,rfl,λb o e _=>e,S2,λs=>by simp,by omega⟩ ?_ ?_ ?_⟩
   ·rintro j σ H' _ ⟨es,r4,_,s3,_⟩;obtain⟨Dj,⟨zs,dz,_⟩,_⟩:=S2.ex;exact SqL.of (s3 _ _ b1 (B6 b1 dz (by intro z;cases z)))
   ·rintro j y σ H3 hj ⟨es,r4,rfl,s3,S3,mem3,hl3⟩
    subst_eqs
    rw[au] at hj;cases eb:bs[j]? with
    |none=>rw[eb] at hj;cases hj
    |some b=>
     rw[eb] at hj;cases hj;obtain⟨q,hq2,hb⟩:=BD b2 eb;rw[au] at hq2;cases es':st[j]? with
     |none=>rw[es'] at hq2;cases hq2
     |some s0=>
      rw[es'] at hq2;cases hq2;have hs0:s0∈st:=bn es';have hj':j<st.length:=(az.mp es').1;have few:st.length<=14:=N.few _ hq;have hi512:i<512:=by have:=(az.mp hp).1;have:=N.len;omega
      obtain⟨kvs2,⟨zs,dz,_⟩,_⟩:=S2.ex;have s03:Same H H3:=λc o e=>s3 c o (s2 _ _ e) (AG e nd);have nt:∀{c:ag} {l:List V},SqT K H2 c l->SqT K H3 c l:=λq=>Sb.tup2 (r:=d) s3 (λ_ z=>by rw[dz] at z;cases z) (λ_ _ z=>by rw[dz] at z;cases z) q;have hb3:=nt hb;obtain⟨Dj,DX,PX⟩:=S3.ex;have tk1:∀s,(s∈es\/s=s0)↔s∈ds\/s∈st.take (j+1):=λs=>by
       rw[dq,es',mem3 s,bu];simp[or_assoc]
      refine⟨V.ref b,rfl,V.ref d,rfl,d,b,Dj,sL s0,rfl,rfl,DX,hb3,_,rfl,?_⟩;by_cases hm:s0∈es
      ·obtain⟨c,hv,_⟩:=RF PX s0 hm;rw[hv];refine BH ⟨es,_,rfl,s3,S3,λs=>?_,by omega⟩;rw[←tk1 s];exact⟨.inl,λh=>h.elim id λe=>e▸hm⟩
      ·have hv:=XN PX s0 hm;rw[hv];have I3:=I.kp (Same.kp s03);obtain⟨dx,i3⟩:=I3.at_;refine BS ⟨V.ref ia,rfl,ia,dx,_,rfl,i3,lV _ _ _,V.ref b,rfl,b,_,0,V.int (s0.course:Nat),rfl,rfl,hb3,rfl,V.ref b,rfl,b,_,1,V.int (s0.fret:Nat),rfl,rfl,hb3,rfl,ia,af,ac,ab,fr,co,ba,s0,rfl,I3,N.fit _ hq _ hs0,N.one _ hq _ hs0,λH4 c s4 tc=>?_⟩;refine⟨V.ref d,rfl,V.ref b,rfl,d,b,Dj,sL s0,rfl,rfl,DX.same s4,s4.tup hb3,hv,(by rw[cn PX,cf];omega),λH5 sb5 D5=>?_⟩;obtain⟨zs4,dz4,_⟩:=Dx.same DX s4;have t5:∀{c:ag} {l:List V},SqT K H4 c l->SqT K H5 c l:=λq=>Sb.tup2 sb5 (λ_ z=>by rw[dz4] at z;cases z) (λ_ _ z=>by rw[dz4] at z;cases z) q;refine⟨es++[s0],_,rfl,λc o e n=>sb5 c o (s4 _ _ (s3 _ _ e n)) n,⟨_,D5,?_⟩,λs=>?_,by rw[bp];simp;omega⟩
       ·exact cg.app (AR PX λ_ _ ⟨q1,c,q2,q3⟩=>⟨q1,c,q2,t5 (s4.tup q3)⟩) (.cons ⟨rfl,c,rfl,t5 tc⟩ .nil)
       ·rw[←tk1 s,bu];simp
   ·rintro σ H3 ⟨es,r4,rfl,s3,S3,mem3,hl3⟩;rw[ai,lb,ez] at mem3;rw[ai,lb] at hl3;have few:=N.few _ hq;refine⟨es,_,_,rfl,λc o e=>s3 c o (s2 _ _ e) (AG e nd),S3,λs=>?_,by have:st.length<=14:=few;omega⟩;rw[mem3 s,dq,hp,mem s];constructor
    ·rintro (⟨q,h1,h2⟩|h)
     ·exact⟨q,bu.mpr (.inl h1),h2⟩
     ·exact⟨(n,st),by simp,h⟩
    ·rintro ⟨q,h1,h2⟩;rcases bu.mp h1 with h1|h1
     ·exact .inl ⟨q,h1,h2⟩
     ·have:q=(n,st):=by simpa using h1
      rw[this] at h2;exact .inr h2
 ·rintro σ H2 ⟨ds,r3,r4,rfl,s2,S2,mem,hl⟩;rw[ai,la,ez] at mem;rw[ai,la] at hl;exact⟨V.ref d,rfl,k H2 d ds s2 S2 mem (by have:=N.len;omega)⟩
end
end Lt
end
section
namespace L2
open PySem PySem.Spec PyProof.Rows
structure FunC (K:aa) (x qual:Str) (st:dm) (f:ag) (fd:fv) (c:ag):Prop where
 ex:∃(oc:ah) (od:Option ag) (kV doc pm:ah) (an:Option ag) (ct:ah) (osl:Array (Option ah)),
  fd=ik x qual (DJ st) (BX st) (AH st) .none kV doc pm an (.ref c) ct/\K.lookup f=some ⟨oc,od,.func fd,osl⟩/\jg K (.ref c) qual=true
 kp:fi K (.ref f)=true
theorem FunC.toFun {K:aa} {x qual:Str} {st:dm} {f:ag} {fd:fv} {c:ag} (F:FunC K x qual st f fd c):Fun K x qual st f fd:=let ⟨⟨oc,od,kV,doc,pm,an,ct,osl,h⟩,k⟩:=F;⟨⟨oc,od,kV,doc,pm,an,.ref c,ct,osl,h⟩,k⟩
theorem FunC.okx {P:bb} {w:cb} {K:aa} {mg:Str->Option ah} {base:cr} {x qual:Str} {st:dm} {f:ag} {fd:fv} {c:ag} {N ps:List Str} {k:Nat} {sp:Sp} (F:FunC K x qual st f fd c) (S:FnScope N ps (AH st))
 (hbody:∀(A:dj) (outer:List Env) (s:ak) (H:Hp) (vs:List V) (Q:VK) (E:XK),Room k (A.deeper (vk qual (AH st) s.heap.objs.size f (.ref c)))->sp vs H Q E->
  ∃t,PSs (OH (CX1 P w) P w K mg base N qual (AH st) f (.ref c) A outer s H E) (BX st) t/\t { nx:=λ_ H'=>Q .non H',rt:=Q } (FQ N vs) H) (len:∀vs H Q E,sp vs H Q E->vs.length=ps.length:=by intro _ _ _ _ h;cases h;rename_i h;exact congrArg qg h.1):FnOk P w K mg base (CX1 P w) (k+1) f fd ps sp:=by
 obtain⟨oc,od,kV,doc,pm,an,ct,osl,rfl,lk,hcd⟩:=F.ex;exact gG lk hcd S len λA outer s H vs Q E hr hsp=>hbody A outer s H vs Q E hr hsp
def Stt (H H':Hp):Prop:=∀b o,H b=some o->(∀t,o≠.tbl t)->H' b=some o
theorem Same.st {H H':Hp} (e:Same H H'):Stt H H':=λb o h _=>e b o h
theorem Stt.trans {H H1 H2:Hp} (a:Stt H H1) (b:Stt H1 H2):Stt H H2:=λc o h n=>b c o (a c o h n) n
theorem Stt.sb {H H':Hp} {r:ag} {t:Array ah} (s:Sb r H H') (h:H r=some (.tbl t)):Stt H H':=λb o e n=>s b o e λz=>n t (by rw[z,h] at e;exact(cz e).symm)
theorem Stt.seq {K:aa} {H H':Hp} {a:ag} {xs:List V} (s:Stt H H') (h:SqL K H a xs):SqL K H' a xs:=by
 rcases h with(h|⟨o,h⟩)|h
 ·exact .inl (.inl (s _ _ h (by intro t z;cases z)))
 ·exact .inl (.inr ⟨o,s _ _ h (by intro t z;cases z)⟩)
 ·exact .inr h
theorem Stt.tup {K:aa} {H H':Hp} {a:ag} {xs:List V} (s:Stt H H') (h:SqT K H a xs):SqT K H' a xs:=by
 rcases h with(h|⟨o,h⟩)|h
 ·exact .inl (.inl (s _ _ h (by intro t z;cases z)))
 ·exact .inl (.inr ⟨o,s _ _ h (by intro t z;cases z)⟩)
 ·exact .inr h
end L2
namespace Lt
open PySem PySem.Spec PyProof.Rows L2
variable {f a C CR CT r ta CI CL CN:ag} {fd:fv} {X:Cx} {x:List Int} {i n e p q:Nat} {pos:Pos} {z dz fz:Str} {xs:List V} {H H' H1:Hp} {E:XK} {cs t ci ct:List UInt8} {α β:Type} {Q:VK} {ls fr co ba:List (List Int)} {P:bb} {w:cb} {h:cr} {ps:List Str}
theorem LT.st {K:aa} (h:LT K H a ls) (s:Stt H H'):LT K H' a ls:=let ⟨as,h1,h2⟩:=h;⟨as,s _ _ h1 (by intro t z;cases z),AR h2 λ_ _ q=>s.tup q⟩
theorem InA.st {K:aa} {ia af ac ab:ag} (I:InA K CI H ia af ac ab fr co ba) (s:Stt H H'):InA K CI H' ia af ac ab fr co ba:=
 { I with at_:=let ⟨dx,h⟩:=I.at_;⟨dx,s _ _ h (by intro t z;cases z)⟩,fr_:=I.fr_.st s,co_:=I.co_.st s,ba_:=I.ba_.st s }
theorem LnsA.st {K:aa} {al:ag} {ps:List Ln} (h:LnsA K CL H al ps) (s:Stt H H'):LnsA K CL H' al ps:=
 let ⟨as,h1,h2⟩:=h;⟨as,s _ _ h1 (by intro t z;cases z),AR h2 λ_ _ ⟨dx,sa,q1,q2,q3⟩=>⟨dx,sa,q1,s _ _ q2 (by intro t z;cases z),q3.st s⟩⟩
theorem TbA.st {K:aa} {CB:ag} {x:ag} {s:St3} {ps:List Ln} (T:TbA K CI CL CB H x s ps) (e:Stt H H'):TbA K CI CL CB H' x s ps:=
 let ⟨⟨dx,ia,af,ac,ab,al,h1,h2,h3⟩,l⟩:=T;⟨⟨dx,ia,af,ac,ab,al,e _ _ h1 (by intro t z;cases z),h2.st e,h3.st e⟩,l⟩
def NoteA (K:aa) (CN:ag) (g:Stop->List Int) (hg:List Int->Nat) (H:Hp) (x:ag) (s:Sk):Prop:=
 Ex2 λdx ia=>H x=some (.ins CN dx (ntf (s.begins:Nat) (s.line:Nat) (s.halt_.course:Nat) (s.halt_.fret:Nat) ia ((hg (g s.halt_):Nat):Int)))/\SqT K H ia ((g s.halt_).map V.int)
def NotesA (K:aa) (CN:ag) (g:Stop->List Int) (hg:List Int->Nat) (H:Hp) (a:ag) (zs:List Sk):Prop:=∃as:List ag,H a=some (.lst (as.map V.ref))/\cg (NoteA K CN g hg H) as zs
theorem NoteA.st {K:aa} {g:Stop->List Int} {hg:List Int->Nat} {x:ag} {s:Sk} (h:NoteA K CN g hg H x s) (e:Stt H H'):NoteA K CN g hg H' x s:=let ⟨dx,ia,h1,h2⟩:=h;⟨dx,ia,e _ _ h1 (by intro t z;cases z),e.tup h2⟩
theorem NotesA.st {K:aa} {g:Stop->List Int} {hg:List Int->Nat} {zs:List Sk} (h:NotesA K CN g hg H a zs) (e:Stt H H'):NotesA K CN g hg H' a zs:=let ⟨as,h1,h2⟩:=h;⟨as,e _ _ h1 (by intro t z;cases z),AR h2 λ_ _ q=>q.st e⟩
def KC (g:Stop->List Int) (hg:List Int->Nat) (s:Sk):List Int:=[((s.begins:Nat):Int),((hg (g s.halt_):Nat):Int),((s.halt_.course:Nat):Int)]
def hgt (g:Stop->List Int) (ds:List Stop):List Int->Nat:=λiv=>(rise (ds.map g)).idxOf iv
def rY:dm->Expr
 | .Return (some (.Call _ _ [⟨_,e,_⟩] _)) _=>e
 |_=>.Constant .none 0 ⟨0,0,0,0⟩
def lW:Expr->Pos
 | .Lambda _ _ _ p=>p
 |_=>⟨0,0,0,0⟩
def XQ:Expr:=rY ((BX BM).getLastD (.Pass ⟨0,0,0,0⟩))
def lX:Expr->jr
 | .Lambda _ _ s _=>s
 |_=>AH (.Pass ⟨0,0,0,0⟩)
def LmT (H:Hp) (PT:ag):Prop:=LamTbl H PT (lW XQ) ("notes_in_order.<locals>."++"<lambda>")
def lY (P:bb) (w:cb) (K:aa) (CI CL CN PT:ag):Sp:=λvs H Q _=>Ex9 λ(ia af ac ab al:ag) (fr co ba:List (List Int)) (ps:List Ln)=>vs=[.ref ia,.ref al]/\InA K CI H ia af ac ab fr co ba/\LnsA K CL H al ps/\NoteP fr co ba ps/\LmT H PT/\
 ∀H' a zs ds,Stt H H'->LmT H' PT->(∀s,s∈ds↔∃q∈ps,s∈q.2)->zs.Perm (CP 0 0 ps)->zs.Pairwise (λa b=>HT.lexLt (KC (CC fr co ba) (hgt (CC fr co ba) ds) b) (KC (CC fr co ba) (hgt (CC fr co ba) ds) a)=false)->NotesA K CN (CC fr co ba) (hgt (CC fr co ba) ds) H' a zs->Q (.ref a) H'
theorem VW:jn "list"=some (.type "list"):=by decide +kernel
theorem lZ:LamScope "note" [] (lX XQ):=⟨rfl,rfl,rfl,by decide,rfl,by decide +kernel,λy hy=>nomatch hy⟩
theorem l0:LamFr X (lX XQ) [] []:=⟨by decide +kernel,λy hy e=>absurd e ((show∀y∈(lX XQ).names,y.2≠.free by decide +kernel) y hy),rfl,λj y h=>by simp at h⟩
theorem rZ (b l c f:Int) (ia:ag) (h:Int):(ntf b l c f ia h).lookup ("begin":Str)=some (.int b):=rfl
theorem c4 (b l c f:Int) (ia:ag) (h:Int):(ntf b l c f ia h).lookup ("line":Str)=some (.int l):=rfl
theorem iH (b l c f:Int) (ia:ag) (h:Int):(ntf b l c f ia h).lookup ("course":Str)=some (.int c):=rfl
theorem sA (b l c f:Int) (ia:ag) (h:Int):(ntf b l c f ia h).lookup ("interval":Str)=some (.ref ia):=rfl
theorem sB (b l c f:Int) (ia:ag) (h:Int):(ntf b l c f ia h).lookup ("height":Str)=some (.int h):=rfl
theorem N6:∀(ps:List Ln) (i x:Nat),(∀q∈ps,q.2.length<=14)->(CP i x ps).length<=14*ps.length
 |[],_,_,_=>aw _
 |(n,l)::r,i,x,h=>by
  have h1:l.length<=14:=h (n,l) bc;have h2:=N6 r (i+1) (x+n) λq hq=>h q (aq _ hq);rw[CP,bp,ai,de];omega
theorem XR {K:aa} {g:Stop->List Int}:∀{Dj:List (List Int×V)} {ds:List Stop},cg (λ(kv:List Int×V) (s:Stop)=>kv.1=sL s/\∃b,kv.2= .ref b/\SqT K H b ((g s).map V.int)) Dj ds->∃as:List ag,Dj.map (·.2)=as.map V.ref/\cg (λb l=>SqT K H b (l.map V.int)) as (ds.map g)
 |_,_,.nil=>⟨[],rfl,.nil⟩
 |_,_,.cons r t=>by
  obtain⟨b,h1,h2⟩:=r.2;obtain⟨as,e,p⟩:=XR t;exact⟨b::as,by rw[dc,dc,e,h1],.cons h2 p⟩
theorem NoteA.lst {K:aa} {g:Stop->List Int} {hg:List Int->Nat} {x:ag} {s:Sk} {o:HO} (h:NoteA K CN g hg H x s) (hr:H r=some (.lst xs)):NoteA K CN g hg (upd H r o) x s:=by
 obtain⟨dx,ia,h1,h2⟩:=h;exact⟨dx,ia,by rw[AE (B6 h1 hr (by intro z;cases z))];exact h1,Sb.tup2 (r:=r) (λc o e n=>by rw[AE n];exact e) (λ_ z=>by rw[hr] at z;cases z) (λ_ _ z=>by rw[hr] at z;cases z) h2⟩
def KN (K:aa) (CN:ag) (g:Stop->List Int) (hg:List Int->Nat) (H:Hp) (s:Sk) (z:List Int×V):Prop:=z.1=KC g hg s/\∃x,z.2= .ref x/\NoteA K CN g hg H x s
theorem c5 {K:aa} {g:Stop->List Int} {hg:List Int->Nat}:∀{as:List ag} {zs:List Sk},cg (NoteA K CN g hg H) as zs->cg (KN K CN g hg H) zs ((zs.map (KC g hg)).zip (as.map V.ref))
 |_,_,.nil=>.nil
 |_,_,.cons r t=>.cons ⟨rfl,_,rfl,r⟩ (c5 t)
theorem XS {K:aa} {g:Stop->List Int} {hg:List Int->Nat}:∀{zs:List Sk} {zs':List (List Int×V)},cg (KN K CN g hg H) zs zs'->∃as:List ag,zs'.map (·.2)=as.map V.ref/\cg (NoteA K CN g hg H) as zs
 |_,_,.nil=>⟨[],rfl,.nil⟩
 |_,_,.cons r t=>by
  obtain⟨x,h1,h2⟩:=r.2;obtain⟨as,e,p⟩:=XS t;exact⟨x::as,by rw[dc,dc,e,h1],.cons h2 p⟩
theorem c6 {K:aa} {g:Stop->List Int} {hg:List Int->Nat}:∀{zs:List Sk} {zs':List (List Int×V)},cg (KN K CN g hg H) zs zs'->∀s∈zs,∃z∈zs',z.1=KC g hg s
 |_,_,.nil,s,h=>absurd h (by simp)
 |_,_,.cons r t,s,h=>by
  rcases bq.mp h with rfl|h
  ·exact⟨_,bc,r.1⟩
  ·obtain⟨z,h1,h2⟩:=c6 t s h;exact⟨z,aq _ h1,h2⟩
theorem iI {K:aa} {g:Stop->List Int} {hg:List Int->Nat} {f:List Int->List Int->Bool}:∀{zs:List Sk} {zs':List (List Int×V)},cg (KN K CN g hg H) zs zs'->zs'.Pairwise (λa b=>f b.1 a.1=false)->zs.Pairwise λa b=>f (KC g hg b) (KC g hg a)=false
 |_,_,.nil,_=>mv
 |_,_,.cons r t,h=>by
  obtain⟨h1,h2⟩:=gh.mp h;refine gh.mpr ⟨λb hb=>?_,iI t h2⟩;obtain⟨z,hz,e⟩:=c6 t b hb;have:=h1 z hz;rw[r.1,e] at this;exact this
section
variable {P:bb} {w:cb} {K:aa} {mg:Str->Option ah} {base:cr} {CI CL CN c PT:ag}
theorem KD:FnScope ["instrument","lines","units","sounds","heights","notes","number","line","stop","interval"] ["instrument","lines"] (AH BM):={}
theorem sC (F:FunC K "notes_in_order" "notes_in_order" BM f fd c) (B:Blt mg) (hso:mg "sorted"=none) (BB:N4 mg base) (CH:vA base c PT) (TL:LnC K CL) (TN:NtC K CN)
 (D1:Def P w K mg base 1 "beginnings" ["lines"] (iG K CL)) (D2:Def P w K mg base 5 "sounds_of" ["instrument","lines"] (rW P w K CI CL)) (D3:Def P w K mg base 4 "ranks" ["intervals"] (rT P w K)) (MN:Mkr P w K mg base 1 CN "Note" ["self","begin","line","stop","interval","height"] (lL K CN)):
 FnOk P w K mg base (CX1 P w) 6 f fd ["instrument","lines"] (lY P w K CI CL CN PT):=by
 refine F.okx KD λA outer s H vs Q E hr h=>?_;obtain⟨ia,af,ac,ab,al,fr,co,ba,ps,rfl,I,L,N,LM,k⟩:=h;refine⟨_,(AB (AZ 2 KD (D1.call hr AD (AA (pv 1) AF)))
  (AB (AZ 3 KD (D2.call hr AD (AA (pv 0) (AA (pv 1) AF))))
  (AB (AZ 4 KD (D3.call hr AD (AA (KJ (VV rfl) (by rfl) B.list VW (AA (cU (pv 3)) AF)) AF)))
  (AB (AZ 5 KD (DL AF))
  (AB (BR bh rfl (MJ (by rfl) B.enum (AA (pv 1) AF)) (G3 rfl (BT (C0 6 KD) (BT (C0 7 KD) FO)))
  (AC (BR bh rfl (CW (AT (pv 7) rfl)) (C0 8 KD)
   (AB (AZ 9 KD (XL (NC hr) (pv 3) (pv 8) (λ_ _=>rfl)))
  (AC (AY (G7 dw fb ff CQ (pv 5) (AA (MN.call hr AD (AA (BI CD (pv 2) (pv 6) (λ_ _=>rfl)) (AA (pv 6) (AA (pv 8) (AA (pv 9) (AA (XL (NC hr) (pv 4) (pv 9) (λ_ _=>rfl)) AF)))))) AF))))))))
  (AC (AJ (Q9 (t:=iZ (B9 (OG K (BP 0) "begin") (B9 (OG K (BP 0) "height") (B9 (OG K (BP 0) "course") EQ)))) hso (by rfl) (hr.mono (by decide)) (pv 5) BB CH rfl l0 lZ (λ_ _ _ _ _=>rfl)
  (λ_ _ _ _ _ _ _=>E8 (AA (QW K (pv 0)) (AA (QW K (pv 0)) (AA (QW K (pv 0)) AF)))))))))))),?_⟩
 and_intros
 obtain⟨as,a1,a2⟩:=id L;have la:as.length=ps.length:=cn a2;generalize hgg:CC fr co ba=g at k;have Nsm:=N.sm;rw[hgg] at Nsm;refine⟨V.ref al,rfl,al,ps,rfl,L,N.len,λH1 ua s1 nu hu=>?_⟩;refine⟨V.ref ia,rfl,V.ref al,rfl,ia,af,ac,ab,al,fr,co,ba,ps,rfl,I.kp (Same.kp s1),L.same s1,N,λH2 d ds s2 S2 hds hdl=>?_⟩;rw[hgg] at S2;obtain⟨Dj,DX,PX⟩:=S2.ex;obtain⟨bs,eb,pb⟩:=XR PX;refine⟨V.ref d,rfl,d,Dj,rfl,DX,λv nv=>?_⟩;have sv:Same H2 (upd H2 v (P3 v d)):=Same.upd nv;refine⟨v,d,Dj,rfl,upd_same,DX.same sv,λl nl=>?_⟩;have sl:Same H2 (upd (upd H2 v (P3 v d)) l (.lst (Dj.map (·.2)))):=sv.trans (Same.upd nl);refine⟨l,ds.map g,rfl,⟨bs,by rw[upd_same,eb],AR pb λ_ _ q=>sl.tup q⟩,λx hx=>?_,by rw[ai];omega,λH3 hd s3 D3=>?_⟩
 ·obtain⟨s0,h1,rfl⟩:=il.mp hx;obtain⟨q,h2,h3⟩:=(hds s0).mp h1;exact Nsm q h2 s0 h3
 have s23:Same H2 H3:=sl.trans s3;have s03:Same H H3:=(s1.trans s2).trans s23;have ndR:(rise (ds.map g)).Nodup:=PU xt;refine⟨by rw[cf];show 0<=16777216;decide,λna nn=>?_⟩;have tot:∀i,(CP 0 0 (ps.take i)).length<=7168:=λi=>by
  have h1:=N6 (ps.take i) 0 0 λq hq=>N.few q (mw hq);have h2:(ps.take i).length<=512:=by rw[eq];have:=N.len;omega
  omega
 refine⟨V.ref al,rfl,al,_,rfl,SqL.of (by rw[AE (AG (s03 _ _ a1) nn)];exact s03 _ _ a1),E3 (n:=ps.length) (λi σ H'=>(Ex4 λr6 r7 r8 r9=>σ=[some (.ref ia),some (.ref al),some (.ref ua),some (.ref d),some (.ref hd),some (.ref na),r6,r7,r8,r9])/\Same H3 H'/\NotesA K CN g (hgt g ds) H' na (CP 0 0 (ps.take i)))
  ⟨⟨_,_,_,_,rfl⟩,Same.upd nn,[],upd_same,.nil⟩ ?_ ?_ ?_ ?_⟩
 ·rintro i σ H' hi ⟨_,s4,_⟩;exact⟨_,.ref (as[i]'(by omega)),SqL.of (s4 _ _ (s03 _ _ a1)),by rw[au,aj (by omega)];rfl⟩
 ·rintro σ H' ⟨_,s4,_⟩;exact⟨_,SqL.of (s4 _ _ (s03 _ _ a1)),by rw[ai,la];exact aw _⟩
 ·rintro i v' σ H5 H6 hi ⟨⟨r6,r7,r8,r9,rfl⟩,s5,A5⟩ ⟨T',xv,rfl,nT,rfl,hxv⟩;have hxv':=hxv _ (SqL.of (s5 _ _ (s03 _ _ a1)));rw[au] at hxv';cases ea:as[i]? with
  |none=>rw[ea] at hxv';cases hxv'
  |some x=>
   rw[ea] at hxv';cases hxv';obtain⟨p,hp,dl,sa,_,hx,Ls⟩:=BD a2 ea;obtain⟨n,st⟩:=p;have hq:(n,st)∈ps:=bn hp;have Dl:i<ps.length:=hi;have s6:Same H5 (upd H5 T' (.tup [.int (i:Nat),.ref x])):=Same.upd nT;have s36:Same H3 (upd H5 T' (.tup [.int (i:Nat),.ref x])):=s5.trans s6;have s06:=s03.trans s36;obtain⟨ds2,b1,b2⟩:=id (LT.same Ls s06);have lb:ds2.length=st.length:=by rw[cn b2,ai]
   have few:st.length<=14:=N.few _ hq;refine⟨T',_,rfl,SqT.of upd_same,rfl,_,_,rfl,_,_,rfl,rfl,?_⟩;have nsa:sa≠na:=by
    have:=LT.same Ls s03;obtain⟨cs,c1,_⟩:=this;exact AG c1 nn
   refine⟨V.ref x,rfl,x,CL,dl,_,_,rfl,s06 _ _ hx,TL.cl,TL.ns,W3 _ _,sa,rfl,⟨_,SqL.of b1⟩,CO (K:=K) (a:=sa) (xs:=ds2.map V.ref) (λj σ H'=>(Ex2 λr8 r9=>σ=[some (.ref ia),some (.ref al),some (.ref ua),some (.ref d),some (.ref hd),some (.ref na),some (.int (i:Nat)),some (.ref x),r8,r9])/\(∀b o,(upd H5 T' (.tup [.int (i:Nat),.ref x])) b=some o->b≠na->H' b=some o)/\NotesA K CN g (hgt g ds) H' na (CP 0 0 (ps.take i)++(st.take j).map λ(s:Stop)=>(⟨i,uL ps i,uL ps i+n,s⟩:Sk)))
    ⟨⟨_,_,rfl⟩,λb o e _=>e,by simpa using A5.st s6.st⟩ ?_ ?_ ?_⟩
   ·rintro j σ H' _ ⟨_,s7,_⟩;exact SqL.of (s7 _ _ b1 nsa)
   ·rintro j y σ H7 hj ⟨⟨r8,r9,rfl⟩,s7,A7⟩
    and_intros
    rw[au] at hj;cases ej:ds2[j]? with
    |none=>rw[ej] at hj;cases hj
    |some b=>
     rw[ej] at hj;cases hj;obtain⟨q,hq2,hb⟩:=BD b2 ej;rw[au] at hq2;cases es':st[j]? with
     |none=>rw[es'] at hq2;cases hq2
     |some s0=>
      rw[es'] at hq2;cases hq2;have hs0:s0∈st:=bn es';have s37:Same H3 H7:=λc o e=>s7 c o (s36 _ _ e) (AG e nn);have s27:=s23.trans s37;obtain⟨xs7,c1,c2⟩:=id A7;have hb0:SqT K H7 b ((sL s0).map V.int):=by
       rcases hb with(q|⟨o,q⟩)|q
       ·refine .inl (.inl (s7 _ _ q λz=>?_));obtain⟨w5,w1,_⟩:=id A5;have w2:=s6 _ _ w1;rw[z,w2] at q;cases q
       ·refine .inl (.inr ⟨o,s7 _ _ q λz=>?_⟩);obtain⟨w5,w1,_⟩:=id A5;have w2:=s6 _ _ w1;rw[z,w2] at q;cases q
       ·exact .inr q
      obtain⟨c0,hv,hc0⟩:=RF PX s0 ((hds s0).mpr ⟨_,hq,hs0⟩);refine⟨V.ref d,rfl,V.ref b,rfl,d,b,Dj,sL s0,_,rfl,rfl,DX.same s27,hb0,hv,?_⟩;have hin:g s0∈rise (ds.map g):=rise_mem.mpr (qz ((hds s0).mpr ⟨_,hq,hs0⟩));have hrk:=cY ndR (n:=(rise (ds.map g)).length) (aw _) (qe hin);refine⟨V.ref na,rfl,.inl ⟨rfl,_,SqL.of c1⟩,V.ref ua,rfl,V.int (i:Nat),rfl,ua,_,_,_,rfl,rfl,SqL.of (((s2.trans s23).trans s37) _ _ hu),DU (v:=V.int ((uL ps i:Nat):Int)) (by rw[au,xF (by omega)];rfl),V.int (i:Nat),rfl,V.ref b,rfl,V.ref c0,rfl,V.ref hd,rfl,V.ref c0,rfl,hd,c0,_,g s0,_,rfl,rfl,D3.same s37,s27.tup hc0,hrk,λxN dN nx nd hne=>?_⟩;have k7:∀b' o',H7 b'=some o'->(upd (upd H7 dN (.own xN)) xN (.ins CN dN [])) b'=some o':=λb' o' e=>by rw[AE (AG e nx),AE (AG e nd)];exact e
      refine⟨xN,dN,b,c0,_,_,_,s0,rfl,upd_same,Same.tup k7 hb0,λH8 h8 s8=>⟨rfl,?_⟩⟩;have s78:Same H7 H8:=B0 nx nd s8 Sb.refl;have c18:=s78 _ _ c1;have lx:xs7.length=(CP 0 0 (ps.take i)).length+j:=by
       rw[cn c2,bp,ai,eq];have:=(az.mp es').1;omega
      have:=tot i;have hj':=(az.mp es').1;refine⟨na,_,_,rfl,rfl,c18,(by rw[ai,lx,cf];omega),⟨_,_,rfl⟩,λb' o' e n'=>by rw[AE n'];exact s78 _ _ (s7 _ _ e n'),xs7++[xN],by rw[upd_same,dh];rfl,?_⟩;rw[dq,es',Option.toList_some,dh, ←vP];exact cg.app (AR c2 λ_ _ q=>(q.st s78.st).lst c18) (.cons (NoteA.lst ⟨dN,c0,h8,s78.tup (s27.tup hc0)⟩ c18) .nil)
   ·rintro σ H7 ⟨⟨r8,r9,rfl⟩,s7,A7⟩;rw[ai,lb,ez] at A7;refine⟨⟨_,_,_,_,rfl⟩,λc o e=>s7 c o (s36 _ _ e) (AG e nn),?_⟩;rw[YX hp];exact A7
 ·rintro σ H5 ⟨⟨r6,r7,r8,r9,rfl⟩,s5,A5⟩;rw[ez] at A5;obtain⟨xs5,c1,c2⟩:=id A5;have lx:xs5.length=(CP 0 0 ps).length:=cn c2;have s05:=s03.trans s5;have LM5:LmT H5 PT:=LamTbl.same s05 LM;obtain⟨tb,htb,_⟩:=id LM;have nPT:na≠PT:=cw (AG (s03 _ _ htb) nn);refine⟨V.ref na,rfl,na,xs5.map V.ref,(CP 0 0 ps).map (KC g (hgt g ds)),[],rfl,SqL.of c1,nPT,by rw[ai,ai,lx],λy hy=>?_,LM5,rfl,λj i' v' h=>by simp at h,λi' x k' hx hk H6 sb=>?_,λD H6 zs' nD sb lt pm pw=>?_⟩
  ·obtain⟨s0,_,rfl⟩:=il.mp hy;simp[KC]
  ·rw[au] at hx hk;cases ex:xs5[i']? with
   |none=>rw[ex] at hx;cases hx
   |some xn=>
    rw[ex] at hx;cases hx;obtain⟨s0,h1,h2⟩:=BD c2 ex;rw[h1] at hk;cases hk;obtain⟨dx,ja,h3,h4⟩:=h2.st (Stt.sb sb (s05 _ _ htb));refine⟨V.ref xn,rfl,xn,CN,dx,_,_,rfl,h3,TN.cl,TN.nb,rZ _ _ _ _ _ _,V.ref xn,rfl,xn,CN,dx,_,_,rfl,h3,TN.cl,TN.nh,sB _ _ _ _ _ _,V.ref xn,rfl,xn,CN,dx,_,_,rfl,h3,TN.cl,TN.nc,iH _ _ _ _ _ _,(by rw[cf];show 3<=16777216;decide),λp hp=>⟨p,rfl,hp,rfl⟩⟩
  ·obtain⟨zs,pm2,pr⟩:=cg.perm pm (c5 c2);obtain⟨as',e1,e2⟩:=XS pr;have st6:Stt H5 H6:=Stt.sb sb (s05 _ _ htb);have stD:Stt H6 (upd H6 D (.lst (zs'.map (·.2)))):=Same.st (Same.upd nD);refine k _ D zs ds ((s05.st.trans st6).trans stD) (LamTbl.same (Same.upd nD) lt) hds pm2 (iI (f:=HT.lexLt) pr pw) ⟨as',by rw[upd_same,e1],AR e2 λ_ _ q=>(q.st st6).st stD⟩
end
open PySem PySem.Spec PyProof.Rows L2
structure LmF (K:aa) (mg:Str->Option ah) (f:ag) (fd:fv) (c PT:ag):Prop where
 m:mg "notes_in_order"=some (.ref f)
 F:FunC K "notes_in_order" "notes_in_order" BM f fd c
 n:K.lookup PT=none
 h:yV K c PT=true
theorem l3 {K:aa} {mg:Str->Option ah} {c PT:ag} {oc kV doc pm ct:ah} {od an:Option ag} {osl:Array (Option ah)} (X:K.In h) (G:h.Ns fh mg) (a:u7 K fh "notes_in_order"=some (some (.ref f)))
 (l:K.lookup f=some ⟨oc,od,.func (ik "notes_in_order" "notes_in_order" (DJ BM) (BX BM) (AH BM) .none kV doc pm an (.ref c) ct),osl⟩) (c1:jg K (.ref c) "notes_in_order"=true) (k:fi K (.ref f)=true)
 {dd:Option ag} {vs:Array ah} {sl:Array (Option ah)} (cl:K.lookup c=some ⟨.type "code",dd,.fields vs,sl⟩) (v:vs[11]? =some (.ref PT)) (n:K.lookup PT=none) (hd:yV K c PT=true):Ex4 λf fd c PT=>LmF K mg f fd c PT:=
 ⟨f,_,c,PT,gc X G a,⟨⟨oc,od,kV,doc,pm,an,ct,osl,rfl,l,c1⟩,k⟩,n,hd⟩
theorem l4 {K:aa} {q:bb} {mg:Str->Option ah} {c PT:ag} (KX:K.In h) (TT:TopT q mg h) (hq:((recsOf q).any λd=>d.name==("notes_in_order":Str))=true) (L:LmF K mg f fd c PT):∃c,h.TableAt c PT #[]:=by
 obtain⟨d,hd,en⟩:=jw.mp hq;have en:d.name="notes_in_order":=by simpa using en
 obtain⟨a,o,fd',c',P',h1,h2,h3,h4,h5,h6⟩:=TT.tab d hd;rw[en,L.m] at h1;cases h1;obtain⟨oc,od,kV,doc,pm,an,ct,osl,rfl,lk,_⟩:=L.F.ex;have e1:=KX _ _ lk;rw[h2] at e1;cases e1;cases h3;have ec:c'=c:=by cases h4;rfl
 subst ec;have CH:=xJ KX L.h;obtain⟨o1,vs,_,_,_,_,_,_,_,g1,g2,g3,g4,_⟩:=CH;obtain⟨⟨o2,vs2,w1,w2,w3,w4⟩,w5⟩:=id h6;rw[g1] at w1;cases w1;rw[g3] at w3;cases w3;rw[g4] at w4;cases w4;exact⟨c',h6⟩
theorem sD {PT:ag} (h:H PT=some (.tbl #[])):LmT H PT:=⟨#[],h,by first|exact jj|simp[TriplesOk]|decide,.inl rfl⟩
open PySem.W (Codec OpenSpec) in
theorem S9 {r:OpenSpec} {k:Nat} {q:bb} {loose:List Str} {XP:(Str->Option ah)->cr->Prop} {YP:cb->cr->Prop} {d:DefRec} {K:xf->aa} {sp:aa->List ag->Sp}
 (hwell:r.wellSaid=true) (hdf:d.params.defaults=[]) (hlen:r.args.length=ps.length) (hr:Room k yu)
 (hY:∀(w:cb) (h:cr),YP w h->(K w.params).In h)
 (F:∀(w:cb) (mg:Str->Option ah) (fa:ag) (h:cr),YP w h->(K w.params).In h->h.Ns fh mg->TopT q mg h->mg d.name=some (.ref fa)->
  Ex2 λ(T:List ag) (fd:fv)=>(∀p∈T,(K w.params).lookup p=none/\∃c,h.TableAt c p #[])/\(∀(s:ak) (us:List ah),us.length=ps.length->xw s fd ⟨us,[]⟩ (ps.zip us))/\
   (∀base:cr,(K w.params).In base->base.Ns fh mg->N4 mg base->FnOk r.prog w (K w.params) mg base (CX1 r.prog w) k fa fd ps (sp (K w.params) T))/\
   ∀(H:Hp) (xs:List V) (a:uT r.args),XJ T H->(∀p∈T,H p=some (.tbl #[]))->zo r.args a=true->xy r.args r.asked a=true->DwAll (K w.params) H xs (ug r.args a)->
    sp (K w.params) T xs H (λv H'=>Dw (K w.params) H' v (r.ret.enc (xy r.args r.f a))) λ_ _ _=>False):
 z6 q loose XP YP r d [] (λf vs=>Cu f vs):=
 VT (K:=K) (CX:=λw=>CX1 r.prog w) (sp:=λw T=>sp (K w.params) T) hwell hdf hlen hr hY F λw H s e s' ⟨_,_,_,_,_,_,_,_,_,_,_,z⟩=>z
theorem XT:∀{f least p:Nat} {x y:Iv} {l:List UInt8},Lute.factorsAt f least x p l= .ok y->y.ok=true
 |0,least,p,x,y,l,h=>by rw[Lute.factorsAt] at h;cases h
 |f+1,least,p,x,y,l,h=>by
  rw[Lute.factorsAt] at h;split at h
  ·cases h
  ·split at h
   ·cases h
   ·split at h
    ·cases h
    ·simp only at h;split at h
     ·split at h
      ·cases h;assumption
      ·cases h
     ·split at h
      ·exact XT h
      ·cases h
theorem l6 {b:List UInt8} {x:Iv} (h:Lute.read b= .ok x):x.ok=true:=by
 unfold Lute.read at h;split at h
 ·split at h
  ·cases h;decide
  ·cases h
 ·exact XT h
theorem VX {fine:Iv->Bool} {l u:List UInt8} {x:Iv} (h:Lute.ivLine fine p l= .ok (x,q,u)):x.ok=true:=by
 unfold Lute.ivLine at h;split at h
 ·cases h
 ·simp only at h;split at h
  ·cases h
  ·rename_i h1;split at h
   ·cases h
   ·split at h
    ·cases h
    ·cases h;exact l6 h1
structure InO (t:Lute.Inst):Prop where
 f:∀x∈t.frets,x.ok=true
 c:∀x∈t.courses,x.ok=true
 b:∀x∈t.basses,x.ok=true
 s:∀x∈t.courses,Lute.soundsAll t.frets x=true
 n:t.opens.length<=14
theorem c7 {fine:Iv->Bool} {l u:List UInt8} {x:Iv} (h:Lute.ivLine fine p l= .ok (x,q,u)):fine x=true:=by
 unfold Lute.ivLine at h;split at h
 ·cases h
 ·simp only at h;split at h
  ·cases h
  ·split at h
   ·cases h
   ·rename_i hf;split at h
    ·cases h
    ·cases h;simpa using hf
theorem RG:∀{f p:Nat} {t t':Lute.Inst} {l:List UInt8},InO t->Lute.linesAt f t p l= .ok t'->InO t'
 |f,p,t,t',[],k,h=>by
  have h':Lute.linesAt f t p []=if t.courses.isEmpty=true then .error p else .ok t:=by cases f<;>rw[Lute.linesAt]
  rw[h'] at h;split at h
  ·cases h
  ·cases h;exact k
 |0,p,t,t',c::r,k,h=>by rw[Lute.linesAt] at h;cases h;simp
 |f+1,p,t,t',c::r,k,h=>by
  have sn:∀{P:Iv->Prop} {l:List Iv} {x:Iv},(∀y∈l,P y)->P x->∀y∈l++[x],P y:=λ{P l x} hl hx y hy=>by
   rcases bu.mp hy with hy|hy
   ·exact hl y hy
   ·rw[fq.mp hy];exact hx
  have ln:¬Lute.COURSES<=t.opens.length->t.courses.length+t.basses.length<14:=λq=>by
   have:¬14<=(t.courses++t.basses).length:=q;rw[bp] at this;omega
  rw[Lute.linesAt] at h;split at h
  ·rename_i hc;split at h
   ·cases h
   ·split at h
    ·cases h
    ·split at h
     ·cases h
     ·rename_i h1;refine RG (t:={ t with frets:=t.frets++[_] }) ⟨sn k.f (VX h1),k.c,k.b,λx hx=>?_,k.n⟩ h;have:t.courses=[]:=List.isEmpty_iff.mp hc.2;rw[show({ t with frets:=t.frets++[_] }:Lute.Inst).courses=t.courses from rfl,this] at hx;exact absurd hx (by simp)
  ·split at h
   ·split at h
    ·cases h
    ·split at h
     ·cases h
     ·rename_i hn;split at h
      ·cases h
      ·rename_i h1;refine RG (t:={ t with courses:=t.courses++[_] }) ⟨k.f,sn k.c (VX h1),k.b,sn k.s (c7 h1),?_⟩ h;show((t.courses++[_])++t.basses).length<=14;have:=ln hn;simp;omega
   ·split at h
    ·split at h
     ·cases h
     ·split at h
      ·cases h
      ·rename_i hn;split at h
       ·cases h
       ·rename_i h1;refine RG (t:={ t with basses:=t.basses++[_] }) ⟨k.f,k.c,sn k.b (VX h1),k.s,?_⟩ h;show(t.courses++(t.basses++[_])).length<=14;have:=ln hn;simp;omega
    ·cases h
theorem XU {t:Lute.Inst} (h:Lute.readInst cs= .ok t):InO t:=by
 unfold Lute.readInst at h;split at h
 ·cases h
 ·split at h
  ·cases h
  ·split at h
   ·cases h
   ·split at h
    ·cases h
    ·exact RG ⟨by simp,by simp,by simp,by simp,by show(0:Nat)<=14;omega⟩ h
theorem InO.k {t:Lute.Inst} (h:InO t):InK t:=⟨λx hx=>(ST (h.f x hx)).1,λx hx=>(ST (h.c x hx)).1,λx hx=>(ST (h.b x hx)).1⟩
theorem P5 {t:Lute.Inst} (h:InO t) {c f:Nat} (hp:t.place c f=true):t.sounds c f=if t.courses.length<c then t.basses.getD (c - t.courses.length - 1) Lute.unison else if f=0 then t.courses.getD (c - 1) Lute.unison else(t.frets.getD (f - 1) Lute.unison).plus (t.courses.getD (c - 1) Lute.unison):=by
 unfold Lute.Inst.place at hp;simp at hp;obtain⟨h1,h2,h3⟩:=hp;unfold Lute.Inst.sounds;unfold Lute.Inst.opens at h2 ⊢;rw[bp] at h2;unfold Lute.Inst.many at h3;by_cases hc:t.courses.length<c
 ·rw[Dm hc];rw[Dn (by omega)] at h3;have hf:f=0:=by omega
  subst hf;have e1:(t.courses++t.basses).getD (c - 1) Lute.unison=t.basses.getD (c - t.courses.length - 1) Lute.unison:=by
   rw[bf,bf,vm (by omega)];congr 2;omega
  rw[e1];unfold Lute.Inst.fret;rw[Dm rfl];refine WW ?_;rw[bf,aj (show c - t.courses.length - 1<t.basses.length by omega)];exact ST (h.b _ (jb _))
 ·rw[Dn hc];rw[Dm (by omega)] at h3;have e1:(t.courses++t.basses).getD (c - 1) Lute.unison=t.courses.getD (c - 1) Lute.unison:=by
   rw[bf,bf,vE (by omega)]
  rw[e1];unfold Lute.Inst.fret;by_cases hf:f=0
  ·subst hf;rw[Dm rfl,Dm rfl];refine WW ?_;rw[bf,aj (show c - 1<t.courses.length by omega)];exact ST (h.c _ (jb _))
  ·rw[Dn hf,Dn hf];exact GK _ _
theorem ZA {t:Lute.Inst} (h:InO t) {c f:Nat} (hp:t.place c f=true):(t.sounds c f).ok=true:=by
 rw[P5 h hp];unfold Lute.Inst.place at hp;simp at hp;obtain⟨h1,h2,h3⟩:=hp;unfold Lute.Inst.opens at h2;rw[bp] at h2;unfold Lute.Inst.many at h3;split
 ·rw[bf,aj (by omega)];exact h.b _ (jb _)
 ·rw[Dm (by omega)] at h3;have hc:t.courses.getD (c - 1) Lute.unison∈t.courses:=by
   rw[bf,aj (by omega)];exact jb _
  split
  ·exact h.c _ hc
  ·have hf:t.frets.getD (f - 1) Lute.unison∈t.frets:=by
    rw[bf,aj (by omega)];exact jb _
   rw[GK];exact jv.mp (h.s _ hc) _ hf
def sE (K:aa) (CL CN:ag):Sp:=λvs H Q _=>Ex7 λ(g:Stop->List Int) (hg:List Int->Nat) (xn al:ag) (s:Sk) (ps:List Ln) (ring:Nat)=>vs=[.ref xn,.ref al,.int (ring:Nat)]/\NoteA K CN g hg H xn s/\LnsA K CL H al ps/\s.line<ps.length/\ps.length<=512/\
 Q (.int ((mEL ring ps s.line s.halt_.course:Nat):Int)) H
theorem l7 (n:Int) (sa:ag):(lnf n sa).lookup ("strikes":Str)=none:=bC _ _ (by decide +kernel) (by decide +kernel)
theorem ZB {ps:List Ln} {q:Ln} (h:ps[i]? =some q):ps.drop i=q::ps.drop (i+1):=by
 obtain⟨h1,h2⟩:=az.mp h;rw[gy h1,h2]
section
variable {P:bb} {w:cb} {K:aa} {mg:Str->Option ah} {base:cr} {CI CL CN:ag}
theorem iJ:FnScope ["note","lines","ring","number"] ["note","lines","ring"] (AH JA):={}
theorem sF (F:Fun K "end_line" "end_line" JA f fd) (B:Blt mg) (g0:GI mg "RING_MOMENT" 0) (g2:GI mg "RING_BAR" 2) (TL:LnC K CL) (TN:NtC K CN) (MB:Mth P w K mg base 1 CL "is_bar" ["self"] (bD CL)) (MS:Mth P w K mg base 1 CL "strikes" ["self","course"] (cO K CL)):
 FnOk P w K mg base (CX1 P w) 2 f fd ["note","lines","ring"] (sE K CL CN):=by
 refine F.okx iJ λDk A outer s H vs Q E hr h=>?_;obtain⟨g,hg,xn,al,st,ps,ring,rfl,N,L,Dl,hl,k⟩:=h;refine⟨_,(AB (AU (AN CY (pv 2) (BZ g0) (AQ _)) (AC (AJ (BC C4 (AT (pv 0) rfl) AI))) AK)
  (AB (BR bh rfl (OS (by rfl) B.range (AA (BC C4 (AT (pv 0) rfl) AI) (AA (AX AO (by rfl) B.len cy (AA (pv 1) AF)) AF))) (C0 3 iJ)
  (AB (AU (GO (AN CY (pv 2) (BZ g2) (AQ _)) (E1 (CS (MB.call0 (BI CD (pv 1) (pv 3) (λ_ _=>rfl)) hr AD)))).pt (AC (AJ (pv 3))) AK)
  (AC (AU (CS (MS.call (BI CD (pv 1) (pv 3) (λ_ _=>rfl)) hr AD (AA (AT (pv 0) rfl) AF))) (AC (AJ (pv 3))) AK))))
  (AC (AJ (AX AO (by rfl) B.len cy (AA (pv 1) AF)))))),?_⟩
 and_intros
 obtain⟨dx,ia,n1,n2⟩:=id N;obtain⟨as,a1,a2⟩:=id L;have la:as.length=ps.length:=cn a2;unfold mEL at k;refine⟨_,rfl,rfl,_,rfl,B4 (λh0=>?_) (λh0=>?_)⟩
 ·have e0:ring=0:=by
   have q:=of_decide_eq_true h0;injection q with q;omega
  rw[Dm e0] at k;exact⟨_,rfl,xn,CN,dx,_,_,rfl,n1,TN.cl,TN.nl,c4 _ _ _ _ _ _,_,_,rfl,rfl,k⟩
 ·have e0:¬ring=0:=λq=>h0 (decide_eq_true (by rw[q];rfl));rw[Dn e0] at k;have en:(((as.map V.ref).length:Int) - (((st.line:Nat):Int)+1)).toNat=ps.length - (st.line+1):=by rw[ai,la];omega
  refine⟨_,rfl,xn,CN,dx,_,_,rfl,n1,TN.cl,TN.nl,c4 _ _ _ _ _ _,_,_,rfl,rfl,V.ref al,rfl,al,_,rfl,.inl (SqL.of a1),_,_,rfl,⟨by omega,by omega,by omega,by rw[ai,la];omega⟩,?_⟩;rw[en];refine OT (λj σ H'=>(∃r3,σ=[some (.ref xn),some (.ref al),some (.int (ring:Nat)),r3])/\H=H'/\j<=ps.length - (st.line+1)/\E5 ring st.halt_.course (ps.drop (st.line+1))=j+E5 ring st.halt_.course (ps.drop (st.line+1+j))) ⟨⟨none,rfl⟩,rfl,by omega,by simp⟩ ?_ ?_
  ·rintro j σ H' hj ⟨⟨r3,rfl⟩,rfl,hj2,em⟩
   and_intros
   have hm:st.line+1+j<as.length:=by omega
   obtain⟨q,hq,dl,sa,_,hx,Ls⟩:=BD a2 (aj hm);obtain⟨n,l⟩:=q;rw[ZB hq,E5] at em;have ei:((st.line:Nat):Int)+1+((j:Nat):Int)=((st.line+1+j:Nat):Int):=by omega
   have eat:atI (as.map V.ref) (((st.line:Nat):Int)+1+((j:Nat):Int))=some (V.ref as[st.line+1+j]):=by
    rw[ei];exact DU (by rw[au,aj hm];rfl)
   have done:((ring=2/\n=0)\/JH st.halt_.course l=true)->Q (V.int (((st.line:Nat):Int)+1+((j:Nat):Int))) H:=λhy=>by
    rw[Dm hy] at em;rw[em] at k;rw[ei];exact k
   have hit:¬(ring=2/\n=0)->(TZ (tB (RS CL "strikes" (cO K CL) [] E (tOp (nE K) (BP 1) (BP 3)) (B9 (OG K (BP 0) "course") EQ))) (RN (BP 3)) V0)
    { nx:=λσ H'=>(∃r3,σ=[some (.ref xn),some (.ref al),some (.int (ring:Nat)),r3])/\H=H'/\j+1<=ps.length - (st.line+1)/\E5 ring st.halt_.course (ps.drop (st.line+1))=j+1+E5 ring st.halt_.course (ps.drop (st.line+1+(j+1))),rt:=Q,ct:=λσ H'=>(∃r3,σ=[some (.ref xn),some (.ref al),some (.int (ring:Nat)),r3])/\H=H'/\j+1<=ps.length - (st.line+1)/\E5 ring st.halt_.course (ps.drop (st.line+1))=j+1+E5 ring st.halt_.course (ps.drop (st.line+1+(j+1))),bk:=λσ H=>(RN (tCB (λxs H Q=>Ex2 λp ys=>xs=[V.ref p]/\(SqL K H p ys\/SqT K H p ys)/\Q (.int ys.length) H) (B9 (BP 1) EQ))) { nx:=λ_ H'=>Q .non H',rt:=Q } σ H }
    [some (.ref xn),some (.ref al),some (.int (ring:Nat)),some (.int (((st.line:Nat):Int)+1+((j:Nat):Int)))] H:=λhno=>by
    refine⟨_,rfl,_,rfl,al,_,_,_,rfl,rfl,SqL.of a1,eat,_,dl,_,rfl,hx,l7 _ _,_,rfl,xn,CN,dx,_,_,rfl,n1,TN.cl,TN.nc,iH _ _ _ _ _ _,_,dl,sa,n,st.halt_.course,l,rfl,hx,Ls,_,rfl,?_⟩;cases hh:JH st.halt_.course l with
    |true=>exact BS ⟨_,rfl,done (.inr hh)⟩
    |false=>
     rw[Dn (by rintro (q|q);exact hno q;rw[hh] at q;cases q)] at em;exact BH ⟨⟨_,rfl⟩,rfl,by omega,by rw[em,show st.line+1+(j+1)=st.line+1+j+1 by omega];omega⟩
   refine⟨_,rfl,rfl,_,rfl,?_⟩;by_cases h2:ring=2
   ·rw[show decide (V.int ((ring:Nat):Int)=V.int 2)=true from decide_eq_true (by rw[h2];rfl)];refine BS ⟨_,rfl,_,rfl,al,_,_,_,rfl,rfl,SqL.of a1,eat,_,dl,_,rfl,hx,bH _ _,_,dl,sa,(n:Nat),rfl,hx,_,rfl,?_⟩;by_cases hn:n=0
    ·rw[show decide (((n:Nat):Int)=0)=true from decide_eq_true (by omega)];exact BS ⟨_,rfl,done (.inl ⟨h2,hn⟩)⟩
    ·rw[show decide (((n:Nat):Int)=0)=false from decide_eq_false (by omega)];exact BH (hit λq=>hn q.2)
   ·rw[show decide (V.int ((ring:Nat):Int)=V.int 2)=false from decide_eq_false λq=>h2 (by injection q with q;omega)];exact BH (BH (hit λq=>h2 q.1))
  ·rintro σ H' ⟨⟨r3,rfl⟩,rfl,_,em⟩;have ed:ps.drop (st.line+1+(ps.length - (st.line+1)))=[]:=List.drop_eq_nil_of_le (by omega);rw[ed,E5] at em;refine⟨_,rfl,al,_,rfl,.inl (SqL.of a1),?_⟩;rw[em] at k;rw[ai,la];rw[show st.line+1+(ps.length - (st.line+1)+0)=ps.length by omega] at k;exact k
end
open PySem PySem.Spec PyProof.Rows L2
section
variable {P:bb} {w:cb} {K:aa} {mg:Str->Option ah} {base:cr}
theorem MA:FnScope ["self"] ["self"] (AH DD):={}
theorem MC {fR:ag} {fdR:fv} (F:Fun K "__init__" "NoSuchChoice.__init__" DD f fd) (R:RfI P w K mg base CR fR fdR) (xc:XCls K C) (na:NoAttr K C "answer"):FnOkU P w K mg base (CX1 P w) 2 f fd ["self"] (JZ C (-1)):=by
 refine F.oku MA λDk A outer s H vs Q E hr h=>?_;obtain⟨a,rfl,ea,k⟩:=h;refine⟨_,AC (AY (JS (mc:=.type "type") (by rfl) R.mgR R.sp R.rd R.fc R.kp R.ok hr R.bd out_cxU.passes (AA (pv 0) (AA (G4 E7 AI) AF)))),?_⟩
 subst_eqs
 exact⟨_,rfl,_,rfl,a,C, -1,rfl,ea,xc,na,λH' hb'=>k H' hb'⟩
end
open PySem PySem.Spec PyProof.Rows L2
theorem l8 {ring line c:Nat} {ps:List Ln} (h:line<ps.length):mEL ring ps line c<=ps.length:=by
 unfold mEL;split
 ·omega
 ·have:=XA ring c (ps.drop (line+1));rw[fw] at this;omega
def c8 (C1:ag):Sp:=λvs H Q E=>∃(ring:Int),vs=[.int ring]/\(if 2<ring then E (.ref C1) none (xH [("answer",.int (-1))]) else Q .non H)
def c9 (P:bb) (w:cb) (K:aa) (CM CN PT:ag) (H:Hp) (Q:VK) (E:XK) (fr co ba:List (List Int)) (ps:List Ln):Option (Nat×Nat)->Prop
 |some (l,c)=>E (.ref CM) none (xH (mfs (l:Nat) (c:Nat)))
 |none=>NoteP fr co ba ps/\∀H' a zs ds,Stt H H'->LmT H' PT->(∀s,s∈ds↔∃q∈ps,s∈q.2)->zs.Perm (CP 0 0 ps)->zs.Pairwise (λa b=>HT.lexLt (KC (CC fr co ba) (hgt (CC fr co ba) ds) b) (KC (CC fr co ba) (hgt (CC fr co ba) ds) a)=false)->NotesA K CN (CC fr co ba) (hgt (CC fr co ba) ds) H' a zs->Q (.ref a) H'
def sG (P:bb) (w:cb) (K:aa) (CI CL CB CM CN PT:ag):Sp:=λvs H Q E=>Ex3 λ(x:ag) (s:St3) (ps:List Ln)=>vs=[.ref x]/\TbA K CI CL CB H x s ps/\LmT H PT/\c9 P w K CM CN PT H Q E s.1 s.2.1 s.2.2 ps (EO (plc s.1 s.2.1 s.2.2) 0 ps)
section
variable {P:bb} {w:cb} {K:aa} {mg:Str->Option ah} {base:cr} {CI CL CN CB CM PT:ag}
theorem fW:FnScope ["ring"] ["ring"] (AH GX):={}
theorem fX {C1:ag} (F:Fun K "check_ring" "check_ring" GX f fd) (g2:GI mg "MOST_RING" 2) (X1:XMr P w K mg base 2 C1 "NoSuchChoice" ["self"] (JZ C1 (-1))):FnOk P w K mg base (CX1 P w) 4 f fd ["ring"] (c8 C1):=by
 refine F.okx fW λDk A outer s H vs Q E hr h=>?_;obtain⟨ring,rfl,k⟩:=h;refine⟨_,(AC (AU (AN EZ (pv 0) (BZ g2) (AQ _)) (AC (HC AD rfl (X1.call0 hr.u AD))) AK)),?_⟩
 subst_eqs
 refine⟨_,rfl,_,_,rfl,rfl,_,rfl,B4 (λh0=>?_) (λh0=>?_)⟩
 ·rw[Dm (of_decide_eq_true h0)] at k;exact⟨by show 0<=100;decide,λa ha=>⟨a,rfl,upd_same,λH4 ⟨⟨d,dn,d0,e1,e2⟩,_⟩=>⟨rfl,a,C1,_,rfl,⟨d,dn,e1,e2⟩,X1.2.1,k⟩⟩⟩
 ·rw[Dn (λq=>h0 (decide_eq_true q))] at k;exact k
theorem sH:FnScope ["tablature"] ["tablature"] (AH EV):={}
theorem sI (F:Fun K "fitting_notes" "fitting_notes" EV f fd) (T:TbC K CB) (D1:Def P w K mg base 4 "check_fit" ["instrument","lines"] (g8 K CI CL CM)) (D2:Def P w K mg base 6 "notes_in_order" ["instrument","lines"] (lY P w K CI CL CN PT)):
 FnOk P w K mg base (CX1 P w) 7 f fd ["tablature"] (sG P w K CI CL CB CM CN PT):=by
 refine F.okx sH λDk A outer s H vs Q E hr h=>?_;obtain⟨x,⟨fr,co,ba⟩,ps,rfl,⟨⟨dx,ia,af,ac,ab,al,h1,I,L⟩,le⟩,LM,k⟩:=h;refine⟨_,(AB (AY (D1.call hr AD (AA (AT (pv 0) rfl) (AA (AT (pv 0) rfl) AF))))
  (AC (AJ (D2.call hr AD (AA (AT (pv 0) rfl) (AA (AT (pv 0) rfl) AF)))))),?_⟩
 and_intros
 refine⟨_,rfl,x,CB,dx,_,_,rfl,h1,T.cl,T.ni,g9 _ _,_,rfl,x,CB,dx,_,_,rfl,h1,T.cl,T.nl,bJ _ _,ia,af,ac,ab,al,fr,co,ba,ps,rfl,I,L,?_⟩;cases hm:EO (plc fr co ba) 0 ps with
 |some y=>
  obtain⟨l,c⟩:=y;have k:c9 P w K CM CN PT H Q E fr co ba ps (EO (plc fr co ba) 0 ps):=k;rw[hm] at k;exact k
 |none=>
  have k:c9 P w K CM CN PT H Q E fr co ba ps (EO (plc fr co ba) 0 ps):=k;rw[hm] at k;intro H1 s1;have h11:=s1 _ _ h1;exact⟨_,rfl,x,CB,dx,_,_,rfl,h11,T.cl,T.ni,g9 _ _,_,rfl,x,CB,dx,_,_,rfl,h11,T.cl,T.nl,bJ _ _,ia,af,ac,ab,al,fr,co,ba,ps,rfl,I.kp (Same.kp s1),L.same s1,k.1,LamTbl.same s1 LM,λH' a zs ds st lm hds pm pw na=>k.2 H' a zs ds (s1.st.trans st) lm hds pm pw na⟩
end
open PySem PySem.Spec PyProof.Rows L2
def EbP (cl:Int->ag) (Z:List Int) (A:List Int->Prop):XK:=λv _ Hx=>Ex2 λz fs=>v= .ref (cl z)/\z∈Z/\Hx=xH fs/\fs.lookup ("answer":Str)=some (V.int z)/\A [z]
theorem ebp {cl:Int->ag} {Z:List Int} {A:List Int->Prop} {z:Int} (hz:z∈Z) (h:A [z]):Rfl cl (EbP cl Z A) z:=λ_=>⟨z,_,rfl,hz,rfl,rfl,h⟩
theorem fY {z:Int} {Z:List Int} (h:GM dz fz ci ct= .error z) (hz:∀y∈([-2, -6, -8]:List Int),y∈Z):z∈Z:=hz z (lB h)
theorem l9 {K:aa} {cl:Int->ag} {Z:List Int} {A:List Int->Prop} {C':ag} {fs:List (Str×V)} {cx:Option ag} {σ':L2.St} {j:Nat} {D:Ends} (RC:RfC K CR cl Z) (eb:EbP cl Z A (.ref C') cx (xH fs)) (hl:j<σ'.length)
 (k:∀ans,A ans->∀H' l,H' l=some (.lst (ans.map V.int))->D.rt (.ref l) H') (tr:TH):
 WE K CR j (λ_=>RN (i5 (B9 (WD K (BP j) "answer") EQ))) tr a C' fs cx D σ' H1:=by
 obtain⟨z,fs',ev,hz,ex,el,ha⟩:=eb;have eC:C'=cl z:=by injection ev
 have efs:fs=fs':=Z1 ex;subst efs eC;exact⟨true,RC.r z hz,λ_ H2 n2=>e6 (D:={ nx:=λ_ _=>False,rt:=D.rt }) hl n2 (RC.x z hz) (RC.a z hz) el (ans:=[z]) rfl (k [z] ha),λq=>by cases q⟩
structure NtsP (s:St3) (ps:List Ln) (zs:List Sk) (ds:List Stop):Prop where
 hd:∀x,x∈ds↔∃q∈ps,x∈q.2
 pm:zs.Perm (CP 0 0 ps)
 pw:zs.Pairwise (λa b=>HT.lexLt (KC (CC s.1 s.2.1 s.2.2) (hgt (CC s.1 s.2.1 s.2.2) ds) b) (KC (CC s.1 s.2.1 s.2.2) (hgt (CC s.1 s.2.1 s.2.2) ds) a)=false)
def K7 (dz fz:Str) (ring:Int) (ci ct:List UInt8) (R:St3->List Ln->List Sk->List Stop->List Int->Prop) (ans:List Int):Prop:=match GM dz fz ci ct with
 | .error z=>ans=[z]
 | .ok (s,ps)=>if 2<ring then ans=[-1] else match EO (plc s.1 s.2.1 s.2.2) 0 ps with
   |some _=>ans=[-3]
   |none=>Ex2 λzs ds=>NtsP s ps zs ds/\R s ps zs ds ans
theorem mC {ring:Int} {R:St3->List Ln->List Sk->List Stop->List Int->Prop} {z:Int} (h:GM dz fz ci ct= .error z):K7 dz fz ring ci ct R [z]:=by unfold K7;rw[h]
theorem dA {ring:Int} {R:St3->List Ln->List Sk->List Stop->List Int->Prop} {s:St3} {ps:List Ln} (h:GM dz fz ci ct= .ok (s,ps)) (hr:2<ring):K7 dz fz ring ci ct R [-1]:=by unfold K7;simp only[h];rw[Dm hr];exact jj
theorem mD {ring:Int} {R:St3->List Ln->List Sk->List Stop->List Int->Prop} {s:St3} {ps:List Ln} {y:Nat×Nat} (h:GM dz fz ci ct= .ok (s,ps)) (hr:¬2<ring) (hm:EO (plc s.1 s.2.1 s.2.2) 0 ps=some y):K7 dz fz ring ci ct R [-3]:=by unfold K7;simp only[h];rw[Dn hr];simp only[hm]
theorem mE {ring:Int} {R:St3->List Ln->List Sk->List Stop->List Int->Prop} {s:St3} {ps:List Ln} {zs:List Sk} {ds:List Stop} {ans:List Int} (h:GM dz fz ci ct= .ok (s,ps)) (hr:¬2<ring) (hm:EO (plc s.1 s.2.1 s.2.2) 0 ps=none) (n:NtsP s ps zs ds) (r:R s ps zs ds ans):K7 dz fz ring ci ct R ans:=by
 unfold K7;simp only[h];rw[Dn hr];simp only[hm];exact⟨zs,ds,n,r⟩
def TxP (dz fz:Str) (ci ct:List UInt8):Prop:=∀s ps,GM dz fz ci ct= .ok (s,ps)->EO (plc s.1 s.2.1 s.2.2) 0 ps=none->NoteP s.1 s.2.1 s.2.2 ps
theorem dB {ps:List Ln} {zs:List Sk} (pm:zs.Perm (CP 0 0 ps)) {s:Sk} (h:s∈zs):s.line<ps.length:=(QR (pm.mem_iff.mp h)).lt
theorem fZ {ps:List Ln} {zs:List Sk} (pm:zs.Perm (CP 0 0 ps)) (few:∀q∈ps,q.2.length<=14) (hl:ps.length<=512):zs.length<=7168:=by
 have:=N6 ps 0 0 few;rw[pm.length_eq];omega
theorem mF {x y:Iv} (h:ro x=ro y):x=y:=by
 rw[IQ,IQ] at h;obtain⟨a,b,c,e,d⟩:=x;obtain⟨a',b',c',e',d'⟩:=y;simp at h;obtain⟨h1,h2,h3,h4,h5⟩:=h;rw[h1,h2,h3,h4,show d=d' by omega]
def RoL (l:List Int):Prop:=∃x:Iv,Lw x/\l=ro x
theorem dC:Ord BG RoL where
 irr:=λ_ ⟨x,h,e⟩=>by rw[e,LK x x h.1 h.1];exact lt_irrefl h.1
 tr:=λ_ _ _ ⟨x,h1,e1⟩ ⟨y,h2,e2⟩ ⟨z,h3,e3⟩ q1 q2=>by
  rw[e1,e2,LK x y h1.1 h2.1] at q1;rw[e2,e3,LK y z h2.1 h3.1] at q2;rw[e1,e3,LK x z h1.1 h3.1];exact lt_trans h1.1 h2.1 h3.1 q1 q2
 tot:=λ_ _ ⟨x,h1,e1⟩ ⟨y,h2,e2⟩ q1 q2=>by
  rw[e1,e2,LK x y h1.1 h2.1] at q1;rw[e1,e2,LK y x h2.1 h1.1] at q2;rw[e1,e2,SS h1 h2 q1 q2]
theorem dD {t:Lute.Inst} (h:InO t) {s:Stop} (hp:t.place s.course s.fret=true):CC (fr3 t).1 (fr3 t).2.1 (fr3 t).2.2 s=ro (t.sounds s.course s.fret):=by
 rw[P5 h hp];show CC (t.frets.map ro) (t.courses.map ro) (t.basses.map ro) s=_;unfold Lute.Inst.place at hp;simp at hp;obtain⟨h1,h2,h3⟩:=hp;unfold Lute.Inst.opens at h2;rw[bp] at h2;unfold Lute.Inst.many at h3;have gd:∀(l:List Iv) (i:Nat),i<l.length->(l.map ro).getD i []=ro (l.getD i Lute.unison):=λl i hi=>by
  rw[bf,bf,au,aj hi];rfl
 unfold CC;rw[ai];by_cases hc:t.courses.length<s.course
 ·rw[Dm hc,Dm hc];exact gd _ _ (by omega)
 ·rw[Dn hc,Dn hc];rw[Dm (by omega)] at h3;by_cases hf:s.fret=0
  ·rw[Dm hf,Dm hf];exact gd _ _ (by omega)
  ·rw[Dn hf,Dn hf,gd _ _ (by omega),gd _ _ (by omega),XD]
theorem sJ {x:Iv} (h:x.ok=true):Sm (ro x):=by
 unfold Lute.Iv.ok at h;simp only[iz,decide_eq_true_eq] at h;obtain⟨h1,h2,h3,h4,h5,h6,_⟩:=h;rw[N1,decide_eq_true_eq] at h1 h2 h3 h4;have h6:x.d<=24:=h6;refine⟨rfl,λk hk=>?_,?_,?_⟩
 ·match k,hk with
  |0,_=>exact h1
  |1,_=>exact h2
  |2,_=>exact h3
  |3,_=>exact h4
 ·show(1:Int)<=(x.d:Int);omega
 ·show(x.d:Int)<=24;omega
theorem RH {t:Lute.Inst} {p:LuteTab.Piece} (k:PcK (p.map BO)):EO (plc (fr3 t).1 (fr3 t).2.1 (fr3 t).2.2) 0 (p.map BO)=none↔LuteSound.fits t p=true:=by
 rw[fL k];unfold LuteSound.misfit LuteSound.fits;rw[jv];cases h:(LuteSound.struck p).find? λs=>!LuteSound.fitsStop t s.halt_ with
 |none=>
  refine⟨λ_ s hs=>?_,λ_=>rfl⟩;have:=lv.mp h s hs;simpa using this
 |some s=>
  refine⟨λq=>(by cases q),λq=>?_⟩;have h1:=q s (vF h);have h2:=zh h;rw[h1] at h2;cases h2
theorem TC {t:Lute.Inst} {p:LuteTab.Piece} (h:LuteSound.fits t p=true) {s:Sk} (hs:s∈LuteSound.struck p):t.place s.halt_.course s.halt_.fret=true:=jv.mp h s hs
theorem LP {p:LuteTab.Piece} {q:Ln} {s:Stop} (hq:q∈p.map BO) (hs:s∈q.2):∃x∈LuteSound.struck p,x.halt_=s:=by
 obtain⟨i,hi⟩:=kg hq;refine⟨⟨i,uL (p.map BO) i,uL (p.map BO) (i+1),s⟩,?_,rfl⟩;unfold LuteSound.struck;rw[←D7];exact mem_mStr.mpr ⟨i,q,by simp,hi,hs,by simp,by simp⟩
theorem TD:∀{l:List Stop} (a b:Nat),bA l->(∀s∈l,a<=s.course/\s.course<=b)->l.length+a<=b+1\/l=[]
 |[],_,_,_,_=>.inr rfl
 |s::r,a,b,h,hb=>by
  obtain⟨h1,h2⟩:=gh.mp h;have hs:=hb s bc;rcases TD (s.course+1) b h2 (λx hx=>⟨h1 x hx,(hb x (aq _ hx)).2⟩) with q|q
  ·left;rw[de];omega
  ·left;rw[q];simp;omega
theorem sK {t:Lute.Inst} {p:LuteTab.Piece} (hi:InO t) (k:PcK (p.map BO)) (hf:LuteSound.fits t p=true) (hl:(p.map BO).length<=512):NoteP (fr3 t).1 (fr3 t).2.1 (fr3 t).2.2 (p.map BO):=by
 have pl:∀q∈p.map BO,∀s∈q.2,t.place s.course s.fret=true:=λq hq s hs=>by
  obtain⟨x,hx,e⟩:=LP hq hs;have:=TC hf hx;rw[e] at this;exact this
 refine⟨λq hq s hs=>?_,k.one,λq hq s hs=>?_,λq hq=>?_,hl⟩
 ·show plc (t.frets.map ro) (t.courses.map ro) (t.basses.map ro) s=true;rw[cF t s (k.one q hq s hs)];exact pl q hq s hs
 ·rw[dD hi (pl q hq s hs)];exact sJ (ZA hi (pl q hq s hs))
 ·have hb:∀s∈q.2,1<=s.course/\s.course<=14:=λs hs=>⟨k.one q hq s hs,?_⟩
  ·rcases TD 1 14 (k.rise q hq) hb with h|h
   ·omega
   ·rw[h];simp
  ·have:=pl q hq s hs;unfold Lute.Inst.place at this;simp at this;have:=hi.n;omega
theorem XV {s:St3} {ps:List Ln} (h:GM dz0 fz0 ci ct= .ok (s,ps)):Ex3 λt k p=>Lute.readInst ci= .ok t/\LuteTab.read ct= .ok (k,p)/\s=fr3 t/\ps=p.map BO/\ps.length<=512:=by
 unfold GM mTb at h;split at h
 ·cases h
 ·split at h
  ·cases h
  ·rename_i hm;split at h
   ·cases h
   ·rename_i hp;cases h;have hl:=W9 hp;rw[N3] at hm;rw[VN] at hp;cases e1:Lute.readInst ci with
    |error e=>rw[e1] at hm;cases hm
    |ok t=>
     rw[e1] at hm;cases hm;cases e2:LuteTab.read ct with
     |error e=>rw[e2] at hp;cases hp
     |ok y=>
      obtain⟨k,p⟩:=y;rw[e2] at hp;cases hp;exact⟨t,k,p,rfl,rfl,rfl,rfl,hl⟩
theorem txp (ci ct:List UInt8):TxP dz0 fz0 ci ct:=λs ps h hm=>by
 obtain⟨t,k,p,h1,h2,rfl,rfl,hl⟩:=XV h;have hk:=(VP h2).2;exact sK (XU h1) hk ((RH hk).mp hm) hl
structure Fct (t:Lute.Inst) (p:LuteTab.Piece) (zs:List Sk) (hg:Sk->Nat):Prop where
 i:InO t
 m:bL p
 k:PcK (p.map BO)
 f:LuteSound.fits t p=true
 z:zs=LuteSound.notes t p
 h:bS t p hg
 snd:∀s∈LuteSound.struck p,CC (fr3 t).1 (fr3 t).2.1 (fr3 t).2.2 s.halt_=ro (LuteSound.tone t s)
theorem uG (a b c a' b' c':Nat):HT.lexLt [((a:Nat):Int),((b:Nat):Int),((c:Nat):Int)] [((a':Nat):Int),((b':Nat):Int),((c':Nat):Int)]=true↔a<a'\/(a=a'/\(b<b'\/(b=b'/\c<c'))):=by
 rw[HT.lexLt_cons,HT.lexLt_cons,HT.lexLt_cons,HT.lexLt_nil_nil];by_cases h1:(a:Int)=a'
 ·rw[Dm h1];by_cases h2:(b:Int)=b'
  ·rw[Dm h2];by_cases h3:(c:Int)=c'
   ·rw[Dm h3];simp;omega
   ·rw[Dn h3,decide_eq_true_eq];omega
  ·rw[Dn h2,decide_eq_true_eq];omega
 ·rw[Dn h1,decide_eq_true_eq];omega
theorem mG {t:Lute.Inst} {kd:LuteTab.Kind} {p:LuteTab.Piece} {zs:List Sk} {ds:List Stop} (h1:Lute.readInst ci= .ok t) (h2:LuteTab.read ct= .ok (kd,p)) (hf:LuteSound.fits t p=true) (n:NtsP (fr3 t) (p.map BO) zs ds):
 Fct t p zs λs=>hgt (CC (fr3 t).1 (fr3 t).2.1 (fr3 t).2.2) ds (CC (fr3 t).1 (fr3 t).2.1 (fr3 t).2.2 s.halt_):=by
 have hi:=XU h1;obtain⟨hm,hk⟩:=VP h2;have snd:∀s∈LuteSound.struck p,CC (fr3 t).1 (fr3 t).2.1 (fr3 t).2.2 s.halt_=ro (LuteSound.tone t s):=λs hs=>dD hi (TC hf hs);have hg:bS t p λs=>hgt (CC (fr3 t).1 (fr3 t).2.1 (fr3 t).2.2) ds (CC (fr3 t).1 (fr3 t).2.1 (fr3 t).2.2 s.halt_):=by
  have hR:∀y∈ds.map (CC (fr3 t).1 (fr3 t).2.1 (fr3 t).2.2),RoL y:=λy hy=>by
   obtain⟨s,hs,rfl⟩:=il.mp hy;obtain⟨q,hq,hs⟩:=(n.hd s).mp hs;obtain⟨x,hx,rfl⟩:=LP hq hs;exact⟨_,DK hi.k x,snd x hx⟩
  obtain⟨r1,r2⟩:=bO (d:=[]) dC hR;have mem:∀s∈LuteSound.struck p,CC (fr3 t).1 (fr3 t).2.1 (fr3 t).2.2 s.halt_∈rise (ds.map (CC (fr3 t).1 (fr3 t).2.1 (fr3 t).2.2)):=λs hs=>by
   refine(r1 _).mpr (qz ((n.hd _).mpr ?_));have hs:=hs;unfold LuteSound.struck at hs;rw[←D7] at hs;obtain⟨q,q1,q2⟩:=(QR hs).q;exact⟨q,bn q1,q2⟩
  intro a ha b hb;unfold hgt;have:=lC dC (λy hy=>hR y ((r1 y).mp hy)) r2 (mem a ha) (mem b hb);rw[show(rise (ds.map (CC (fr3 t).1 (fr3 t).2.1 (fr3 t).2.2))).idxOf _<(rise (ds.map (CC (fr3 t).1 (fr3 t).2.1 (fr3 t).2.2))).idxOf _↔_ from this,snd a ha,snd b hb,LK _ _ (DK hi.k a).1 (DK hi.k b).1]
 have pm:zs.Perm (LuteSound.struck p):=by
  unfold LuteSound.struck;rw[←D7];exact n.pm
 refine⟨hi,hm,hk,hf,VI hi.k hk hg pm (n.pw.imp λ{a b} q z=>?_),hg,snd⟩;unfold KC at q;rw[(uG _ _ _ _ _ _).mpr z] at q;cases q
theorem TF {ring:Nat} {R:St3->List Ln->List Sk->List Stop->List Int->Prop} {f:Lute.Inst->LuteTab.Piece->List Int} {ans:List Int} (ha:K7 dz0 fz0 ring ci ct R ans)
 (h:∀t p zs ds,ring<=2->Fct t p zs (λs=>hgt (CC (fr3 t).1 (fr3 t).2.1 (fr3 t).2.2) ds (CC (fr3 t).1 (fr3 t).2.1 (fr3 t).2.2 s.halt_))->NtsP (fr3 t) (p.map BO) zs ds->R (fr3 t) (p.map BO) zs ds ans->ans=f t p):ans=LuteD.fitting ci ct ring f:=by
 unfold LuteD.fitting;have e:=cG (ci:=ci) (ct:=ct) (F:=λs ps=>ans) (f:=λx p=>if 2<ring then LuteD.says (-1) else if LuteSound.fits x p=false then LuteD.says (-3) else f x p);unfold K7 at ha;cases hm:GM dz0 fz0 ci ct with
 |error z=>
  rw[hm] at ha;have:=cG (ci:=ci) (ct:=ct) (F:=λs ps=>match GM dz0 fz0 ci ct with| .error z=>[]| .ok (s,ps)=>[]) (f:=λx p=>if 2<ring then LuteD.says (-1) else if LuteSound.fits x p=false then LuteD.says (-3) else f x p);unfold GM mTb at hm;unfold LuteD.of;by_cases hl:4096<ci.length\/65536<ct.length
  ·rw[Dm hl] at hm;cases hm;rw[Dm (show LuteD.INST<ci.length\/LuteD.PIECE<ct.length from hl)];exact ha
  ·rw[Dn hl,N3] at hm;rw[Dn (show¬(LuteD.INST<ci.length\/LuteD.PIECE<ct.length) from hl)];cases hi:Lute.readInst ci with
   |error e=>rw[hi] at hm;cases hm;exact ha
   |ok t=>
    rw[hi] at hm;have hp:=VN ct;cases hr:LuteTab.read ct with
    |error e=>
     rw[hr] at hp;simp only[fe,Cv,hp,fJ] at hm;cases hm;exact ha
    |ok y=>
     obtain⟨k,p⟩:=y;rw[hr] at hp;simp only[fe,Cv,hp,fJ] at hm;cases hm
 |ok r=>
  obtain⟨s,ps⟩:=r;simp only[hm] at ha e;obtain⟨t,k,p,h1,h2,rfl,rfl,hl⟩:=XV hm;refine e λt' k' p' g1 g2=>?_;rw[h1] at g1;cases g1;rw[h2] at g2;cases g2;by_cases hr:2<ring
  ·rw[Dm (by omega)] at ha;rw[Dm hr];exact ha
  ·rw[Dn (by omega)] at ha;rw[Dn hr];have hk:=(VP h2).2;cases hf:LuteSound.fits t p with
   |false=>
    rw[Dm rfl];cases hmm:EO (plc (fr3 t).1 (fr3 t).2.1 (fr3 t).2.2) 0 (p.map BO) with
    |none=>rw[(RH hk).mp hmm] at hf;cases hf
    |some y=>rw[hmm] at ha;exact ha
   |true=>
    rw[Dn (by decide)];rw[(RH hk).mpr hf] at ha;obtain⟨zs,ds,n,r⟩:=ha;exact h t p zs ds (by omega) (mG h1 h2 hf n) n r
def dI (l:List Int):wZ:=.tuple (l.map .int)
theorem RJ {K:aa}:∀l:List Int,DpAll K H (l.map V.int) (l.map PyData.int)
 |[]=>.nil
 |_::r=>.cons (.int _) (RJ r)
theorem XW {K:aa}:∀{as:List ag} {ls:List (List Int)},cg (λb l=>SqT K H b (l.map V.int)) as ls->DpAll K H (as.map V.ref) (ls.map dI)
 |_,_,.nil=>.nil
 |_,_,.cons r t=>.cons (.tup r (RJ _)) (XW t)
theorem N7:∀l:List Int,uk (l.map .int)=true
 |[]=>rfl
 |_::r=>N7 r
theorem TJ:∀ls:List (List Int),uk (ls.map dI)=true
 |[]=>rfl
 |l::r=>by
  show(uk (l.map .int)&&uk (r.map dI))=true;rw[N7,TJ r];rfl
theorem TK:∀l:List Int,wI (l.map .int)=0
 |[]=>rfl
 |_::r=>by
  show max 0 (wI (r.map .int))=0;rw[TK r];rfl
theorem TM:∀l m:List Int,xU (l.map .int) (m.map .int)=decide (l=m)
 |[],[]=>rfl
 |[],_::_=>rfl
 |_::_,[]=>rfl
 |a::l,b::m=>by
  show((a==b)&&xU (l.map .int) (m.map .int))=_;rw[TM l m,ko];simp
theorem TQ (l:List Int):∀ls:List (List Int),(ls.map dI).any (λy=>PyData.eqv y (dI l))=ls.contains l
 |[]=>rfl
 |m::r=>by
  rw[dc,List.any_cons,TQ l r,lq];congr 1;show xU (m.map .int) (l.map .int)=(l==m);rw[TM,ko];rw[decide_eq_true_eq,beq_iff_eq];exact eq_comm
def uH (K:aa):R2:=λx y H Q=>Ex4 λ(a p:ag) (l:List Int) (ls:List (List Int))=>x= .ref a/\y= .ref p/\SqT K H a (l.map V.int)/\LT K H p ls/\Q (.bl (ls.contains l)) H
theorem mH (hu:X.A.units+64<wV):OpR X (kj .In) (uH X.K):=by
 intro Df s σ H x y v u Q I rx ry h;obtain⟨a,p,l,ls,rfl,rfl,hq,⟨as,h1,h2⟩,q⟩:=h;obtain⟨bs,r1⟩:=Dp.reads I _ _ _ (Dp.tup hq (RJ l)) rx;obtain⟨cs,r2⟩:=Dp.reads I _ _ _ (Dp.lst (SqL.of h1) (XW h2)) ry;refine SeqAt.in_list_reads r2 r1 (TJ ls) (N7 l) ?_ ⟨.bl _,H,I,rfl,by rw[show(PyData.tuple (l.map .int))=dI l from rfl,TQ];exact q⟩;show X.A.units+1+min _ (wI (l.map .int)+1)<wV;rw[TK];omega
def isX (l:List Int):Bool:=decide (l.length=5)&&EW l
def sM (K:aa):Sp:=λvs H Q _=>Ex2 λ(a:ag) (l:List Int)=>vs=[.ref a]/\SqL K H a (l.map V.int)/\∀H',Same H H'->Q (.bl (isX l)) H'
def sN (K:aa) (C1:ag):Sp:=λvs H Q E=>Ex2 λ(a:ag) (l:List Int)=>vs=[.ref a]/\SqL K H a (l.map V.int)/\(if isX l=true then∀H',Same H H'->Q .non H' else E (.ref C1) none (xH [("answer",.int (-1))]))
section
variable {P:bb} {w:cb} {K:aa} {mg:Str->Option ah} {base:cr} {C1:ag}
theorem sO (F:Fun K "is_interval" "is_interval" EI f fd) (B:Blt mg) (gw:GI mg "WIDEST_POWER" 99) (gf:GI mg "FINEST_PART" 24) (D1:Def P w K mg base 2 "common_factor_of_all" ["numbers"] (WH K)):
 FnOk P w K mg base (CX1 P w) 3 f fd ["numbers"] (sM K):=by
 refine F.okx WI λDk A outer s H vs Q E hr h=>?_;obtain⟨a,l,rfl,hl,k⟩:=h;refine⟨_,AB (AU (AN ZL (AX AO (by rfl) B.len cy (AA (pv 0) AF)) AI (AQ _)) (AC (AJ G2)) AK)
  (AB (BR bh rfl (CW (JO QB (pv 0) ME (MF AI))) (C0 1 WI)
   (AC (AU (AN EZ (AX JN (by rfl) B.abs JV (AA (pv 1) AF)) (BZ gw) (AQ _)) (AC (AJ G2)) AK)))
  (AC (AJ (TY (RR JM JM AI (BI CD (pv 0) AI (λ_ _=>rfl)) (BZ gf))
   (TX (DI CY (D1.call hr AD (AA (pv 0) AF)) AI (AQ _))))))),?_⟩
 and_intros
 by_cases h5:l.length=5
 case neg=>
  refine⟨_,rfl,a,l.map V.int,rfl,.inl hl,rfl,_,rfl,B4 (λ_=>?_) (λh0=>?_)⟩
  ·have q:=k _ (Same.refl _);unfold isX at q;rw[decide_eq_false h5,li] at q;exact q
  ·refine absurd ?_ h0;rw[ai,decide_eq_false]
   ·rfl
   ·intro z;injection z with z;omega
 replace k:∀H',Same H H'->Q (.bl (EW l)) H':=λH' s=>by
  have q:=k H' s;unfold isX at q;rw[decide_eq_true h5,jz] at q;exact q
 refine⟨_,rfl,a,l.map V.int,rfl,.inl hl,rfl,_,rfl,?_⟩;refine gI (by rw[ai,h5];rfl) ?_;have hc:II (l.map V.int) none (some 4)=(l.take 4).map V.int:=by
  unfold II;rw[ai,h5,pp];rfl
 refine⟨_,rfl,4,rfl,a,l.map V.int,rfl,hl,λp hp=>⟨p,rfl,⟨_,SqL.of upd_same⟩,?_⟩⟩;rw[hc];have s1:Same H (upd H p (.lst ((l.take 4).map V.int))):=Same.upd hp;refine CO (K:=K) (a:=p) (xs:=(l.take 4).map V.int) (λi σ H'=>H'=upd H p (.lst ((l.take 4).map V.int))/\(∃r,σ=[some (.ref a),r])/\((l.take 4).take i).all (λp=>decide (p.natAbs<=99))=true) ⟨rfl,⟨none,rfl⟩,rfl⟩
  (λi σ H' _ ⟨e,_⟩=>by rw[e];exact SqL.of upd_same) ?_ ?_
 ·rintro i y σ H' hi ⟨rfl,⟨r,rfl⟩,ha⟩
  subst_eqs
  obtain⟨z,hz,rfl⟩:=JW hi;refine⟨_,rfl,z,rfl,_,_,rfl,rfl,_,rfl,?_⟩;rw[MT];refine B4 (λh=>?_) (λh=>?_)
  ·have h9:(99:Int)<z.natAbs:=by simpa using h
   have e:=PB hz (by omega);have q:=k _ s1;rw[e] at q;exact q
  ·have h9:¬(99:Int)<z.natAbs:=by simpa using h
   refine⟨rfl,⟨some (.int z),rfl⟩,?_⟩;rw[dq,hz,wD,ha];simp;omega
 ·rintro σ H' ⟨rfl,⟨r,rfl⟩,ha⟩;rw[ai,ez] at ha;obtain⟨d,hd⟩:∃d,l[4]? =some d:=⟨_,aj (by omega:4<l.length)⟩
  have eg:l.getD 4 0=d:=by simp[vd,hd]
  refine⟨_,rfl,a,l.map V.int,4,.int d,rfl,rfl,s1.seq hl,DU (by rw[au,hd];rfl),_,_,rfl,rfl,_,rfl,?_⟩;have q:=k _ s1;unfold EW at q;rw[ha,eg,jz] at q;refine B4 (λh=>?_) (λh=>?_)
  ·have h1:(1:Int)<=d:=by simpa using h
   rw[decide_eq_true h1,jz] at q;refine⟨_,_,rfl,rfl,_,rfl,?_⟩;refine B4 (λh'=>?_) (λh'=>?_)
   ·have h2:d<=24:=by simpa using h'
    rw[decide_eq_true h2,jz] at q;refine⟨_,rfl,a,l,rfl,.inl (s1.seq hl),rfl,?_⟩;have e:decide (V.int ((BY l:Nat):Int)=V.int 1)=decide (BY l=1):=by
     rw[decide_eq_decide];constructor
     ·intro z;injection z with z;omega
     ·intro z;rw[z];rfl
    rw[e];exact q
   ·have h2:¬d<=24:=by simpa using h'
    rw[decide_eq_false h2,li] at q;exact q
  ·have h1:¬(1:Int)<=d:=by simpa using h
   rw[decide_eq_false h1,li,li] at q;exact⟨_,rfl,BH q⟩
theorem sP:FnScope ["x"] ["x"] (AH EE):={}
theorem sQ (F:Fun K "check_interval" "check_interval" EE f fd) (D1:Def P w K mg base 3 "is_interval" ["numbers"] (sM K)) (X1:XMr P w K mg base 2 C1 "NoSuchChoice" ["self"] (JZ C1 (-1))):FnOk P w K mg base (CX1 P w) 4 f fd ["x"] (sN K C1):=by
 refine F.okx sP λDk A outer s H vs Q E hr h=>?_;obtain⟨a,l,rfl,hl,k⟩:=h;refine⟨_,(AC (AU (DT (CS (D1.call hr AD (AA (pv 0) AF)))) (AC (HC AD rfl (X1.call0 hr.u AD))) AK)),?_⟩
 subst_eqs
 refine⟨_,rfl,a,l,rfl,hl,λH1 s1=>⟨_,rfl,?_⟩⟩;cases hx:isX l with
 |true=>
  rw[Dm hx] at k;exact BH (k H1 s1)
 |false=>
  rw[Dn (by rw[hx];decide)] at k;exact BS ⟨by show 0<=100;decide,λa ha=>⟨a,rfl,upd_same,λH4 ⟨⟨d,dn,d0,e1,e2⟩,_⟩=>⟨rfl,a,C1,_,rfl,⟨d,dn,e1,e2⟩,X1.2.1,k⟩⟩⟩
end
open PySem PySem.Spec PyProof.Rows L2
def N8 (up:List Int->List Int) (ls:List (List Int)) (n:Nat):Bool:=(jm n).any λk=>(ls.take k++ls.drop (k+1)).contains (up (ls.getD k []))
theorem ZC (up:List Int->List Int) (ls:List (List Int)) (n:Nat):N8 up ls (n+1)=(N8 up ls n||(ls.take n++ls.drop (n+1)).contains (up (ls.getD n []))):=by
 unfold N8;rw[uW,wF];simp
theorem f6 {up:List Int->List Int} {m:Nat} (h:N8 up ls n=true) (hm:n<=m):N8 up ls m=true:=by
 unfold N8 at h ⊢;rw[jw] at h ⊢;obtain⟨k,h1,h2⟩:=h;exact⟨k,qf.mpr (bv (qf.mp h1) hm),h2⟩
theorem LQ {F:α->β->Prop}:∀{l:List α} {m:List β} (n:Nat),cg F l m->cg F (l.take n) (m.take n)
 |_,_,0,_=>.nil
 |_,_,_+1,.nil=>.nil
 |_,_,n+1,.cons r t=>.cons r (LQ n t)
theorem LR {F:α->β->Prop}:∀{l:List α} {m:List β} (n:Nat),cg F l m->cg F (l.drop n) (m.drop n)
 |_,_,0,h=>h
 |_,_,_+1,.nil=>.nil
 |_,_,n+1,.cons _ t=>LR n t
theorem N9 {F:α->β->Prop}:∀{l l':List α} {m m':List β},cg F l m->cg F l' m'->cg F (l++l') (m++m')
 |_,_,_,_,.nil,h=>h
 |_,_,_,_,.cons r t,h=>.cons r (N9 t h)
theorem TR {k:Nat} (h:k<=xs.length):II xs none (some (k:Int))=xs.take k:=by
 unfold II;rw[HT.sIx_nat,HT.sIx_none,zp h];rfl
theorem TU {k:Nat} (h:k<=xs.length):II xs (some (k:Int)) none=xs.drop k:=by
 unfold II;rw[HT.sIx_nat,HT.sIx_none,zp h,oy];rw[fw];exact aw _
def sR (K:aa):Sp:=λvs H Q _=>Ex4 λ(la xa:ag) (ls:List (List Int)) (x:List Int)=>vs=[.ref la,.ref xa]/\LT K H la ls/\SqL K H xa (x.map V.int)/\(∀l∈ls,Sm l)/\Sm x/\ls.length<=100000/\∀H',Same H H'->Q (.bl (N8 (BQ x) ls ls.length)) H'
section
variable {P:bb} {w:cb} {K:aa} {mg:Str->Option ah} {base:cr}
theorem XY:FnScope ["intervals","x","k","first","others"] ["intervals","x"] (AH JC):={}
theorem sS (F:Fun K "has_pair" "has_pair" JC f fd) (B:Blt mg) (D1:Def P w K mg base 3 "upon" ["x","y"] (aC K)):FnOk P w K mg base (CX1 P w) 4 f fd ["intervals","x"] (sR K):=by
 refine F.okx XY λDk A outer s H vs Q E hr h=>?_;obtain⟨la,xa,ls,x,rfl,L,hx,hsm,sx,hlen,k⟩:=h;refine⟨_,(AB (BR bh rfl (MJ (by rfl) B.enum (AA (pv 0) AF)) (G3 rfl (BT (C0 2 XY) (BT (C0 3 XY) FO)))
  (AB (AZ 4 XY (BC jA (JO QB (pv 0) ME (MF (pv 2))) (JO QB (pv 0) (MF (BC C4 (pv 2) AI)) ME)))
  (AC (AU (AN (mH hr.units) (D1.call hr AD (AA (pv 1) (AA (pv 3) AF))) (pv 4) (by with_unfolding_all rfl)) (AC (AJ G2)) AK))))
  (AC (AJ G2))),?_⟩
 and_intros
 obtain⟨as,a1,a2⟩:=id L;have la_:as.length=ls.length:=cn a2;refine⟨V.ref la,rfl,la,_,rfl,SqL.of a1,E3 (n:=ls.length) (λi σ H'=>Same H H'/\(Ex3 λr2 r3 r4=>σ=[some (.ref la),some (.ref xa),r2,r3,r4])/\N8 (BQ x) ls i=false) ⟨Same.refl _,⟨none,none,none,rfl⟩,rfl⟩ ?_ ?_ ?_ ?_⟩
 ·rintro i σ H' hi ⟨s1,_⟩;exact⟨_,.ref (as[i]'(by omega)),SqL.of (s1 _ _ a1),by rw[au,aj (by omega)];rfl⟩
 ·rintro σ H' ⟨s1,_⟩;exact⟨_,SqL.of (s1 _ _ a1),by rw[ai,la_];exact aw _⟩
 ·rintro i v σ H1 H2 hi ⟨s1,⟨r2,r3,r4,rfl⟩,hall⟩ ⟨T',xv,rfl,nT,rfl,hxv⟩;have hxv':=hxv _ (SqL.of (s1 _ _ a1));rw[au,aj (show i<as.length by omega)] at hxv';cases hxv';obtain⟨l,hl,hb⟩:=BD a2 (aj (show i<as.length by omega));have s2:Same H (upd H1 T' (.tup [.int (i:Nat),.ref as[i]])):=s1.trans (Same.upd nT);have eg:ls.getD i []=l:=by rw[bf,hl];rfl
  have sl:=hsm l (bn hl);have b1:=sx.b60;have b2:=sl.b60;have hn1:(as.map V.ref).length=ls.length:=by rw[ai,la_]
  refine⟨T',_,rfl,SqT.of upd_same,rfl,_,_,rfl,_,_,rfl,rfl,?_⟩
  and_intros
  refine⟨V.ref la,rfl,V.int (i:Nat),rfl,_,rfl,la,_,rfl,SqL.of (s2 _ _ a1),λp1 hp1=>?_⟩;have s3:=s2.trans (Same.upd (o:=.lst (II (as.map V.ref) none (some ((i:Nat):Int)))) hp1);refine⟨V.ref la,rfl,V.int (i:Nat),rfl,_,_,rfl,rfl,_,rfl,la,_,rfl,SqL.of (s3 _ _ a1),λp2 hp2=>?_⟩;have s4:=s3.trans (Same.upd (o:=.lst (II (as.map V.ref) (some (((i:Nat):Int)+1)) none)) hp2);have n12:p1≠p2:=λe=>by rw[←e,upd_same] at hp2;cases hp2
  refine⟨p1,p2,_,_,rfl,rfl,(by rw[AE n12];exact upd_same),upd_same,?_,λp3 hp3=>?_⟩
  ·have h1:=FS (as.map V.ref) none (some ((i:Nat):Int));have h2:=FS (as.map V.ref) (some (((i:Nat):Int)+1)) none;rw[cf];omega
  rw[TR (by omega),show((i:Nat):Int)+1=((i+1:Nat):Int) by omega,TU (by omega)] at hp3 ⊢;have s5:=s4;rw[TR (by omega),show((i:Nat):Int)+1=((i+1:Nat):Int) by omega,TU (by omega)] at s5;have s6:=s5.trans (Same.upd (o:=.lst ((as.map V.ref).take i++(as.map V.ref).drop (i+1))) hp3);refine⟨V.ref xa,rfl,V.ref as[i],rfl,xa,as[i],x,l,rfl,.inl (s6.seq hx),s6.tup hb,sx.1,sl.1,b1.1,b1.2.1,b2.2.1,b2.2.2,λH7 ua s7 hu=>?_⟩;have s8:=s6.trans s7;have L7:LT K H7 p3 (ls.take i++ls.drop (i+1)):=⟨as.take i++as.drop (i+1),by rw[dh,pp,uz];exact s7 _ _ upd_same,AR (N9 (LQ i a2) (LR (i+1) a2)) λ_ _ q=>s8.tup q⟩
  have es:=ZC (BQ x) ls i;rw[eg,hall,Bool.false_or] at es;refine⟨V.ref p3,rfl,ua,p3,_,_,rfl,rfl,SqT.of hu,L7,_,rfl,B4 (λh0=>?_) (λh0=>?_)⟩
  ·have q:=k H7 s8;rw[f6 (n:=i+1) (by rw[es];exact h0) hi] at q;exact q
  ·exact⟨s8,⟨_,_,_,rfl⟩,by rw[es];exact jq.mpr h0⟩
 ·rintro σ H' ⟨s1,⟨r2,r3,r4,rfl⟩,h0⟩;have q:=k H' s1;rw[h0] at q;exact q
end
def f8 {β:Type} (up:β->β) (l:List β):Prop:=∃(k:Nat) (y:β),l[k]? =some y/\up y∈l.take k++l.drop (k+1)
theorem XZ {L:List α} (nd:L.Nodup) {k:Nat} {a b:α} (h:L[k]? =some a):b∈L.take k++L.drop (k+1)↔b∈L/\b≠a:=by
 obtain⟨hk,e⟩:=az.mp h;have es:L=L.take k++a::L.drop (k+1):=by rw[←e, ←gy hk,iu]
 have nd':=nd;rw[es,ui] at nd';obtain⟨_,n2,n3⟩:=nd';have n4:=(iy.mp n2).1;constructor
 ·intro hb;refine⟨?_,?_⟩
  ·rw[es];rcases bu.mp hb with hb|hb
   ·exact bu.mpr (.inl hb)
   ·exact bu.mpr (.inr (aq _ hb))
  ·rintro rfl;rcases bu.mp hb with hb|hb
   ·exact n3 b hb b bc rfl
   ·exact n4 hb
 ·rintro ⟨hb,hne⟩;rw[es] at hb;rcases bu.mp hb with hb|hb
  ·exact bu.mpr (.inl hb)
  ·rcases bq.mp hb with hb|hb
   ·exact absurd hb hne
   ·exact bu.mpr (.inr hb)
theorem dE {up:β->β} {iv:α->β} {L:List α} (nd:L.Nodup):f8 up (L.map iv)↔∃a∈L,∃b∈L,a≠b/\up (iv a)=iv b:=by
 constructor
 ·rintro ⟨k,y,h1,h2⟩;rw[au] at h1;cases e:L[k]? with
  |none=>rw[e] at h1;cases h1
  |some a=>
   rw[e] at h1;cases h1;rw[←pp, ←uz, ←dh,il] at h2;obtain⟨b,hb,eb⟩:=h2;obtain⟨b1,b2⟩:=(XZ nd e).mp hb;exact⟨a,bn e,b,b1,λq=>b2 q.symm,eb.symm⟩
 ·rintro ⟨a,ha,b,hb,hne,e⟩;obtain⟨k,hk⟩:=kg ha;refine⟨k,iv a,by rw[au,hk];rfl,?_⟩;rw[←pp, ←uz, ←dh,il];exact⟨b,(XZ nd hk).mpr ⟨hb,λq=>hne q.symm⟩,e.symm⟩
def JK (g:Nat->Bool):Nat->List Ln->Nat
 |_,[]=>0
 |i,(n,_)::r=>(if g i=true then n else 0)+JK g (i+1) r
theorem K8 (G:Nat->Bool):∀(p:LuteTab.Piece) (x i:Nat) (g:Nat->Bool),(∀(j:Nat) (q:Ln),(p.map BO)[j]? =some q->q.1≠0->G (x+uL (p.map BO) j)=g (i+j))->
 ((LuteSound.spans x p).map λ(m:Nat×Nat)=>if G m.1=true then m.2 else 0).sum=JK g i (p.map BO)
 |[],_,_,_,_=>rfl
 | .bar::r,x,i,g,h=>by
   rw[LuteSound.spans,K8 G r x (i+1) g λj q hq h0=>?_]
   ·show _=JK g i ((0,[])::r.map BO);rw[JK];split<;>omega
   ·have:=h (j+1) q (by simpa using hq) h0;rw[dc,CK] at this;rw[show i+1+j=i+(j+1) by omega, ←this];show G (x+uL _ j)=G (x+(0+uL _ j));rw[ke]
 | .moment n l::r,x,i,g,h=>by
   rw[LuteSound.spans,dc,xS,K8 G r (x+n) (i+1) g λj q hq h0=>?_]
   ·show _=JK g i ((n,l)::r.map BO);rw[JK];congr 1;show(if G x=true then n else 0)=if g i=true then n else 0;by_cases h0:n=0
    ·subst h0;split<;>split<;>rfl
    ·have:=h 0 (n,l) rfl h0;rw[EK,yx,yx] at this;rw[this]
   ·have:=h (j+1) q (by simpa using hq) h0;rw[dc,CK] at this;rw[show i+1+j=i+(j+1) by omega, ←this];show G (x+n+uL _ j)=G (x+(n+uL _ j));rw[uy]
def TV (el:Sk->Nat) (i:Nat) (s:Sk):Bool:=decide (s.line<=i)&&decide (i<el s)
theorem OA {ps:List Ln} (k:PcK ps) {s:Sk} (h:SkAt ps s) {q:Ln} (hi:ps[i]? =some q) (h0:q.1≠0):LuteSound.lasting (uL ps i) (s,uL ps e)=(decide (s.line<=i)&&decide (i<e)):=by
 have u:=QQ hi;unfold LuteSound.lasting;congr 1
 ·rw[decide_eq_decide];show s.begins<=uL ps i↔_;rw[h.beg];constructor
  ·intro z;apply Nat.le_of_not_lt;intro z2;have:=PP ps (show i+1<=s.line from z2);omega
  ·exact λz=>PP ps z
 ·rw[decide_eq_decide];show uL ps i<uL ps e↔_;constructor
  ·intro z;apply uw;intro z2;have:=PP ps z2;omega
  ·intro z;have:=PP ps (show i+1<=e from z);omega
section
variable {t:Lute.Inst} {p:LuteTab.Piece}
open Classical in
theorem ZD (hm:bL p) (k:PcK (p.map BO)) {ring:Nat} (hr:ring<=2) (x:Iv) {zs:List Sk} (pm:zs.Perm (LuteSound.struck p)) (g:Nat->Bool)
 (hg:∀(i:Nat) (q:Ln),(p.map BO)[i]? =some q->q.1≠0->(g i=true↔f8 (λy=>y.plus x) ((zs.filter (TV (λs=>mEL ring (p.map BO) s.line s.halt_.course) i)).map (LuteSound.tone t)))):
 LuteSound.pure_ t p ring x=JK g 0 (p.map BO):=by
 unfold LuteSound.pure_;refine K8 (λu=>LuteSound.twoApart t x ((LuteSound.ended p ring (LuteSound.struck p)).filter (LuteSound.lasting u))) p 0 0 g λi q hi h0=>?_;rw[ke,ke,ko,hg i q hi h0];have nds:(LuteSound.struck p).Nodup:=by
  unfold LuteSound.struck;rw[←D7];exact UZ 0 0 k
 have nd:zs.Nodup:=pm.nodup_iff.mpr nds;rw[dE (nd.sublist List.filter_sublist)];have mem:∀a:Sk,a∈zs.filter (TV (λs=>mEL ring (p.map BO) s.line s.halt_.course) i)↔a∈LuteSound.struck p/\LuteSound.lasting (uL (p.map BO) i) (a,LuteSound.ends p ring a)=true:=λa=>by
  rw[pc,pm.mem_iff];constructor
  ·rintro ⟨h1,h2⟩;refine⟨h1,?_⟩;have ha:=h1;unfold LuteSound.struck at ha;rw[←D7] at ha;rw[XB hm k h1 hr,OA k (QR ha) hi h0];exact h2
  ·rintro ⟨h1,h2⟩;refine⟨h1,?_⟩;have ha:=h1;unfold LuteSound.struck at ha;rw[←D7] at ha;rw[XB hm k h1 hr,OA k (QR ha) hi h0] at h2;exact h2
 have memL:∀z:Sk×Nat,z∈(LuteSound.ended p ring (LuteSound.struck p)).filter (LuteSound.lasting (uL (p.map BO) i))↔z.1∈zs.filter (TV (λs=>mEL ring (p.map BO) s.line s.halt_.course) i)/\z.2=LuteSound.ends p ring z.1:=λz=>by
  rw[pc,mem];unfold LuteSound.ended;rw[il];constructor
  ·rintro ⟨⟨s,h1,rfl⟩,h2⟩;exact⟨⟨h1,h2⟩,rfl⟩
  ·rintro ⟨⟨h1,h2⟩,h3⟩;obtain⟨s,e⟩:=z;simp only at h1 h2 h3;subst h3;exact⟨⟨s,h1,rfl⟩,h2⟩
 unfold LuteSound.twoApart;rw[jw];constructor
 ·rintro ⟨a,ha,h⟩;rw[jw] at h;obtain⟨b,hb,h⟩:=h;simp at h;exact⟨a.1,((memL a).mp ha).1,b.1,((memL b).mp hb).1,h.1,h.2⟩
 ·rintro ⟨a,ha,b,hb,hne,e⟩;refine⟨(a,LuteSound.ends p ring a),(memL _).mpr ⟨ha,rfl⟩,?_⟩;rw[jw];refine⟨(b,LuteSound.ends p ring b),(memL _).mpr ⟨hb,rfl⟩,?_⟩;simp;exact⟨hne,e⟩
end
open PySem PySem.Spec PyProof.Rows L2
def dF (K:aa) (H0 H:Hp) (sa:ag) (n:Nat) (F:Nat->List (List Int)):Prop:=∃bs:List ag,H sa=some (.lst (bs.map V.ref))/\bs.length=n/\(sa::bs).Nodup/\(∀b∈sa::bs,H0 b=none)/\∀(i:Nat) (b:ag),bs[i]? =some b->LT K H b (F i)
def ivL (g:Stop->List Int) (ring:Nat) (ps:List Ln) (zs:List Sk) (i:Nat):List (List Int):=(zs.filter (TV (λs=>mEL ring ps s.line s.halt_.course) i)).map λs=>g s.halt_
def sU (K:aa) (CL CN:ag):Sp:=λvs H Q _=>Ex7 λ(g:Stop->List Int) (hg:List Int->Nat) (na al:ag) (zs:List Sk) (ps:List Ln) (ring:Nat)=>vs=[.ref na,.ref al,.int (ring:Nat)]/\NotesA K CN g hg H na zs/\LnsA K CL H al ps/\(∀s∈zs,s.line<ps.length)/\ps.length<=512/\zs.length<=100000/\
 ∀H' a,Same H H'->dF K H H' a ps.length (ivL g ring ps zs)->Q (.ref a) H'
def ivJ (g:Stop->List Int) (ring:Nat) (ps:List Ln) (zs:List Sk) (st:Sk) (j m:Nat):List (List Int):=ivL g ring ps zs m++if st.line<=m/\m<st.line+j then[g st.halt_] else[]
theorem LT.ext {K:aa} {l l':List (List Int)} (h:LT K H a l) (e:l=l'):LT K H a l':=e▸h
theorem f9 {K:aa} {H0:Hp} {sa b ia:ag} {m:Nat} {F F':Nat->List (List Int)} {bs cs:List ag} {l:List Int} (h1:H sa=some (.lst (bs.map V.ref))) (h2:bs.length=n) (h3:(sa::bs).Nodup) (h4:∀b∈sa::bs,H0 b=none) (h5:∀(i:Nat) (b:ag),bs[i]? =some b->LT K H b (F i))
 (hb:bs[m]? =some b) (c1:H b=some (.lst (cs.map V.ref))) (c2:cg (λb l=>SqT K H b (l.map V.int)) cs (F m)) (hi:SqT K H ia (l.map V.int)) (e1:F' m=F m++[l]) (e2:∀q,q≠m->F' q=F q):
 dF K H0 (upd H b (.lst (cs.map V.ref++[.ref ia]))) sa n F':=by
 have hm:=bn hb;have ns:sa≠b:=λe=>(iy.mp h3).1 (e▸hm);refine⟨bs,by rw[AE ns];exact h1,h2,h3,h4,λi b' hb'=>?_⟩;by_cases e:i=m
 ·subst e;rw[hb] at hb';cases hb';exact(LT.add c1 c2 hi).ext e1.symm
 ·have nb:b'≠b:=λq=>by
   subst q;obtain⟨k1,k2⟩:=az.mp hb;obtain⟨k3,k4⟩:=az.mp hb';exact e ((vZ (iy.mp h3).2).mp (k4.trans k2.symm))
  exact(LT.upd (h5 i b' hb') c1 nb).ext (e2 i e).symm
theorem Same.own {H0:Hp} {b:ag} {o:HO} (s:Same H0 H) (n:H0 b=none):Same H0 (upd H b o):=λc u e=>by rw[AE (AG e n)];exact s c u e
section
variable {P:bb} {w:cb} {K:aa} {mg:Str->Option ah} {base:cr} {CL CN:ag}
theorem sc_ibl:FnScope ["notes","lines","ring","sounding","note","number","line"] ["notes","lines","ring"] (AH BU):={}
theorem gA:BlkOk ["notes","lines","ring","sounding","note","number","line"] (AH BU) (MU (rhs ((BX BU).getD 0 (.Pass ⟨0,0,0,0⟩)))) [("line",6)]:={}
theorem mI (F:Fun K "intervals_by_line" "intervals_by_line" BU f fd) (B:Blt mg) (TN:NtC K CN) (D1:Def P w K mg base 2 "end_line" ["note","lines","ring"] (sE K CL CN)):FnOk P w K mg base (CX1 P w) 3 f fd ["notes","lines","ring"] (sU K CL CN):=by
 refine F.okx sc_ibl λDk A outer s H vs Q E hr h=>?_;obtain⟨g,hg,na,al,zs,ps,ring,rfl,N,L,Dl,hl,hz,k⟩:=h;refine⟨_,(AB (O4 (i:=3) (own:=[("line",6)]) rfl sc_ibl.nd rfl rfl (by rfl) (CW (pv 1)) gA (λ_ _ _ _ _=>C0 6 sc_ibl) (λ_ _ _ _ _=>QD) (λ_ _ _ _ _=>DL AF))
  (AB (BR bh rfl (CW (pv 0)) (C0 4 sc_ibl)
   (AC (BR bh rfl (OS (by rfl) B.range (AA (AT (pv 4) rfl) (AA (D1.call hr AD (AA (pv 4) (AA (pv 1) (AA (pv 2) AF)))) AF))) (C0 5 sc_ibl)
    (AC (AY (G7 dw fb ff CQ (BI CD (pv 3) (pv 5) (λ_ _=>rfl)) (AA (AT (pv 4) rfl) AF)))))))
  (AC (AJ (pv 3))))),?_⟩
 and_intros
 obtain⟨as,a1,a2⟩:=id N;have la:as.length=zs.length:=cn a2;obtain⟨ls,l1,l2⟩:=id L;have ll:ls.length=ps.length:=cn l2;refine⟨V.ref al,rfl,al,rfl,⟨_,SqL.of l1⟩,λD nD=>UJ (n:=ps.length) (λi H'=>Same H H'/\∃bs:List ag,H' D=some (.lst (bs.map V.ref))/\bs.length=i/\(D::bs).Nodup/\(∀b∈D::bs,H b=none)/\∀b∈bs,H' b=some (.lst [])) ⟨Same.upd nD,[],upd_same,rfl,by simp,by simpa using nD,by simp⟩ ?_ ?_ ?_ ?_⟩
 ·rintro i H' hi ⟨s1,_⟩;exact⟨_,.ref (ls[i]'(by omega)),SqL.of (s1 _ _ l1),by rw[au,aj (by omega)];rfl⟩
 ·rintro H' ⟨s1,_⟩;exact⟨_,SqL.of (s1 _ _ l1),by rw[ai,ll];exact aw _⟩
 ·rintro i v H2 H3 hi ⟨s1,bs,b1,b2,b3,b4,b5⟩ ⟨rfl,_⟩;refine⟨rfl,by decide,λp hp=>?_⟩;have np:p≠D:=λe=>by rw[e,b1] at hp;cases hp
  have np2:∀b∈bs,b≠p:=λb hb e=>by rw[←e,b5 b hb] at hp;cases hp
  have hp0:=s1.free hp;refine⟨_,by rw[AE np.symm];exact b1,by rw[ai,cf];omega,λc u e=>?_,bs++[p],by rw[upd_same,dh];rfl,by rw[bp,b2];rfl,?_,?_,?_⟩
  ·rw[AE (AG e nD),AE (AG e hp0)];exact s1 c u e
  ·have q:=iy.mp b3;refine iy.mpr ⟨λz=>?_,ui.mpr ⟨q.2,by simp,λa ha b hb=>?_⟩⟩
   ·rcases bu.mp z with z|z
    ·exact q.1 z
    ·exact np (fq.mp z).symm
   ·rw[fq.mp hb];exact np2 a ha
  ·intro b hb;rcases bq.mp hb with rfl|hb
   ·exact nD
   ·rcases bu.mp hb with hb|hb
    ·exact b4 b (aq _ hb)
    ·rw[fq.mp hb];exact hp0
  ·intro b hb;rcases bu.mp hb with hb|hb
   ·have nb:b≠D:=λe=>(iy.mp b3).1 (e▸hb);rw[AE nb,AE (np2 b hb)];exact b5 b hb
   ·rw[fq.mp hb,AE np,upd_same]
 ·rintro H2 ⟨s1,bs,b1,b2,b3,b4,b5⟩;have i0:dF K H H2 D ps.length (ivL g ring ps (zs.take 0)):=⟨bs,b1,b2,b3,b4,λi b hb=>⟨[],b5 b (bn hb),.nil⟩⟩
  refine⟨V.ref na,rfl,na,rfl,⟨_,SqL.of (s1 _ _ a1)⟩,CO (K:=K) (a:=na) (xs:=as.map V.ref) (λi σ H'=>(Ex3 λr4 r5 r6=>σ=[some (.ref na),some (.ref al),some (.int (ring:Nat)),some (.ref D),r4,r5,r6])/\Same H H'/\dF K H H' D ps.length (ivL g ring ps (zs.take i))) ⟨⟨none,none,none,rfl⟩,s1,i0⟩ ?_ ?_ ?_⟩
  ·rintro i σ H' _ ⟨_,s2,_⟩;exact SqL.of (s2 _ _ a1)
  ·rintro i y σ H' hi ⟨⟨r4,r5,r6,rfl⟩,s2,S⟩;rw[au] at hi;cases ea:as[i]? with
   |none=>rw[ea] at hi;cases hi
   |some x=>
    rw[ea] at hi;cases hi;obtain⟨st,hst,nt⟩:=BD a2 ea;have hs:=Dl st (bn hst);have hle:=l8 (ring:=ring) (c:=st.halt_.course) hs;have nt2:=nt.st s2.st;obtain⟨dn,ja,h2,h3⟩:=id nt2;refine⟨V.ref x,rfl,x,CN,dn,_,_,rfl,h2,TN.cl,TN.nl,c4 _ _ _ _ _ _,V.ref x,rfl,V.ref al,rfl,V.int (ring:Nat),rfl,g,hg,x,al,st,ps,ring,rfl,nt2,L.same s2,hs,hl,_,_,rfl,⟨by omega,by omega,by omega,by omega⟩,?_⟩;have en:((((mEL ring ps st.line st.halt_.course:Nat):Int)) - ((st.line:Nat):Int)).toNat=mEL ring ps st.line st.halt_.course - st.line:=by omega
    rw[en];have et:zs.take (i+1)=zs.take i++[st]:=by rw[dq,hst];rfl
    refine OT (n:=mEL ring ps st.line st.halt_.course - st.line) (λj σ H3=>(Ex2 λr5 r6=>σ=[some (.ref na),some (.ref al),some (.int (ring:Nat)),some (.ref D),some (.ref x),r5,r6])/\Same H H3/\dF K H H3 D ps.length (ivJ g ring ps (zs.take i) st j))
     ⟨⟨r5,r6,rfl⟩,s2,by obtain⟨bs,q1,q2,q3,q4,q5⟩:=S;exact⟨bs,q1,q2,q3,q4,λm b hb=>(q5 m b hb).ext (by unfold ivJ;rw[Dn (by omega),jh])⟩⟩ ?_ ?_
    ·rintro j σ H3 hj ⟨⟨r5,r6,rfl⟩,s3,bs,q1,q2,q3,q4,q5⟩;obtain⟨dn3,ja3,h23,h33⟩:=id (nt.st s3.st);have hlt2:st.line+j<bs.length:=by omega
     obtain⟨cs,c1,c2⟩:=q5 (st.line+j) _ (aj hlt2);refine⟨V.ref D,rfl,V.int (((st.line:Nat):Int)+((j:Nat):Int)),rfl,D,_,_,_,rfl,rfl,SqL.of q1,RY (j:=st.line+j) (v:=V.ref bs[st.line+j]) (by omega) (by rw[au,aj hlt2];rfl),.inl ⟨rfl,_,SqL.of c1⟩,V.ref x,rfl,x,CN,dn3,_,_,rfl,h23,TN.cl,TN.ni,sA _ _ _ _ _ _,bs[st.line+j],_,_,rfl,rfl,c1,?_,⟨_,_,rfl⟩,Same.own s3 (q4 _ (aq _ (jb hlt2))),?_⟩
     ·have hc:cs.length=_:=cn c2;have h9:(ivL g ring ps (zs.take i) (st.line+j)).length<=zs.length:=by
       unfold ivL;rw[ai];refine cu (wS _ _) ?_;rw[eq];omega
      unfold ivJ at hc;rw[bp,Dn (by omega)] at hc;rw[ai,cf,hc];show(ivL g ring ps (zs.take i) (st.line+j)).length+0<_;omega
     ·refine f9 q1 q2 q3 q4 q5 (aj hlt2) c1 c2 h33 ?_ λq hq=>?_
      ·unfold ivJ;rw[Dm (by omega),Dn (by omega),jh]
      ·unfold ivJ;by_cases hc:st.line<=q/\q<st.line+j
       ·rw[Dm hc,Dm (by omega)]
       ·rw[Dn hc,Dn (by omega)]
    ·rintro σ H3 ⟨⟨r5,r6,rfl⟩,s3,bs,q1,q2,q3,q4,q5⟩;refine⟨⟨_,_,_,rfl⟩,s3,bs,q1,q2,q3,q4,λm b hb=>(q5 m b hb).ext ?_⟩;have em:ivL g ring ps (zs.take (i+1)) m=ivL g ring ps (zs.take i) m++ivL g ring ps [st] m:=by
      unfold ivL;rw[et,List.filter_append,dh]
     rw[em];unfold ivJ;congr 1;unfold ivL;by_cases hc:st.line<=m/\m<mEL ring ps st.line st.halt_.course
     ·rw[Dm (by omega),List.filter_cons_of_pos (by unfold TV;simp;exact hc)];rfl
     ·rw[Dn (by omega),List.filter_cons_of_neg (by unfold TV;simp;omega)];rfl
  ·rintro σ H' ⟨⟨r4,r5,r6,rfl⟩,s2,S⟩;rw[ai,la,ez] at S;exact⟨V.ref D,rfl,k H' D s2 S⟩
end
open PySem PySem.Spec PyProof.Rows L2
theorem P6 (g:Nat->Bool):∀(ps:List Ln) (k i:Nat) (p:Ln),ps[i]? =some p->JK g k (ps.take (i+1))=JK g k (ps.take i)+if g (k+i)=true then p.1 else 0
 |[],_,_,_,h=>by simp at h
 |(n,l)::r,k,0,p,h=>by
  simp at h;subst h;simp[JK]
 |(n,l)::r,k,i+1,p,h=>by
  have ih:=P6 g r (k+1) i p (by simpa using h);rw[xK,xK,JK,JK,ih,show k+1+i=k+(i+1) by omega];omega
def gB (g:Stop->List Int) (ring:Nat) (ps:List Ln) (zs:List Sk) (x:List Int) (i:Nat):Bool:=N8 (BQ x) (ivL g ring ps zs i) (ivL g ring ps zs i).length
def sV (K:aa) (CL CN:ag):Sp:=λvs H Q _=>Ex9 λ(g:Stop->List Int) (hg:List Int->Nat) (na al xa:ag) (zs:List Sk) (ps:List Ln) (ring:Nat) (x:List Int)=>vs=[.ref na,.ref al,.int (ring:Nat),.ref xa]/\NotesA K CN g hg H na zs/\LnsA K CL H al ps/\(∀s∈zs,s.line<ps.length)/\ps.length<=512/\zs.length<=100000/\SqL K H xa (x.map V.int)/\Sm x/\(∀s∈zs,Sm (g s.halt_))/\
 ∀H',Same H H'->Q (.int ((JK (gB g ring ps zs x) 0 ps:Nat):Int)) H'
section
variable {P:bb} {w:cb} {K:aa} {mg:Str->Option ah} {base:cr} {CL CN:ag}
theorem sc_pun:FnScope ["notes","lines","ring","x","total","line","intervals"] ["notes","lines","ring","x"] (AH GW):={}
theorem mJ (F:Fun K "pure_units" "pure_units" GW f fd) (bz:mg "zip"=none) (TL:LnC K CL) (D1:Def P w K mg base 3 "intervals_by_line" ["notes","lines","ring"] (sU K CL CN)) (D2:Def P w K mg base 4 "has_pair" ["intervals","x"] (sR K)):FnOk P w K mg base (CX1 P w) 5 f fd ["notes","lines","ring","x"] (sV K CL CN):=by
 refine F.okx sc_pun λDk A outer s H vs Q E hr h=>?_;obtain⟨g,hg,na,al,xa,zs,ps,ring,x,rfl,N,L,Dl,hl,hz,hx,sx,sz,k⟩:=h;refine⟨_,(AB (AZ 4 sc_pun AI)
  (AB (BR bh rfl (jD (by rfl) bz (AA (pv 1) (AA (D1.call hr AD (AA (pv 0) (AA (pv 1) (AA (pv 2) AF)))) AF))) (G3 rfl (BT (C0 5 sc_pun) (BT (C0 6 sc_pun) FO)))
   (AC (AU (CS (D2.call hr AD (AA (pv 6) (AA (pv 3) AF)))) (AC (IR (i:=4) sc_pun.nd rfl (vT rfl) (AT (pv 5) rfl) IS)) AK)))
  (AC (AJ (pv 4))))),?_⟩
 and_intros
 obtain⟨ls,l1,l2⟩:=id L;have ll:ls.length=ps.length:=cn l2;refine⟨V.ref al,rfl,V.ref na,rfl,V.ref al,rfl,V.int (ring:Nat),rfl,g,hg,na,al,zs,ps,ring,rfl,N,L,Dl,hl,hz,λH1 sa s1 S=>?_⟩;obtain⟨bs,q1,q2,q3,q4,q5⟩:=S;refine⟨al,sa,_,_,rfl,SqL.of (s1 _ _ l1),SqL.of q1,E3 (n:=ps.length) (λi σ H'=>Same H1 H'/\Ex2 λr5 r6=>σ=[some (.ref na),some (.ref al),some (.int (ring:Nat)),some (.ref xa),some (.int ((JK (gB g ring ps zs x) 0 (ps.take i):Nat):Int)),r5,r6]) ⟨Same.refl _,none,none,rfl⟩ ?_ ?_ ?_ ?_⟩
 ·rintro i σ H' hi ⟨s2,_⟩;exact⟨_,_,.ref (ls[i]'(by omega)),.ref (bs[i]'(by omega)),SqL.of (s2 _ _ (s1 _ _ l1)),SqL.of (s2 _ _ q1),by rw[au,aj (by omega)];rfl,by rw[au,aj (by omega)];rfl⟩
 ·rintro σ H' ⟨s2,_⟩;exact⟨_,_,SqL.of (s2 _ _ (s1 _ _ l1)),SqL.of (s2 _ _ q1),.inl (by rw[ai,ll];exact aw _)⟩
 ·rintro i v σ H2 H3 hi ⟨s2,r5,r6,rfl⟩ ⟨T',xv,yv,rfl,nT,rfl,hx1,hy1⟩;have hx2:=hx1 _ (SqL.of (s2 _ _ (s1 _ _ l1)));have hy2:=hy1 _ (SqL.of (s2 _ _ q1));rw[au,aj (show i<ls.length by omega)] at hx2;rw[au,aj (show i<bs.length by omega)] at hy2;cases hx2;cases hy2;obtain⟨p,hp,dl,sa',_,hxl,Ls⟩:=BD l2 (aj (show i<ls.length by omega));have L1:=q5 i _ (aj (show i<bs.length by omega));have s3:Same H1 (upd H2 T' (.tup [.ref ls[i],.ref bs[i]])):=s2.trans (Same.upd nT);have et:=P6 (gB g ring ps zs x) ps 0 i p hp;rw[ke] at et;have hlen:(ivL g ring ps zs i).length<=100000:=by
   unfold ivL;rw[ai];exact cu (wS _ _) hz
  refine⟨T',_,rfl,SqT.of upd_same,rfl,_,_,rfl,_,_,rfl,rfl,?_⟩;refine⟨V.ref bs[i],rfl,V.ref xa,rfl,bs[i],xa,ivL g ring ps zs i,x,rfl,L1.same s3,(s1.trans s3).seq hx,λl hl=>?_,sx,hlen,λH4 s4=>⟨_,rfl,?_⟩⟩
  ·unfold ivL at hl;obtain⟨z,hz1,rfl⟩:=il.mp hl;exact sz z (pc.mp hz1).1
  show if gB g ring ps zs x i=true then _ else _;cases hgb:gB g ring ps zs x i with
  |true=>
   rw[hgb,Dm rfl] at et;refine BS ⟨_,rfl,V.ref ls[i],rfl,ls[i],CL,dl,_,_,rfl,s4 _ _ ((s1.trans s3) _ _ hxl),TL.cl,TL.nl,W2 _ _,_,_,rfl,rfl,s3.trans s4,some (.ref ls[i]),some (.ref bs[i]),?_⟩;rw[et,Int.natCast_add];rfl
  |false=>
   rw[hgb,Dn (by decide),yx] at et;refine BH ⟨s3.trans s4,some (.ref ls[i]),some (.ref bs[i]),?_⟩;rw[et];rfl
 ·rintro σ H' ⟨s2,r5,r6,rfl⟩;rw[ez];exact⟨_,rfl,k H' (s1.trans s2)⟩
end
open PySem PySem.Spec PyProof.Rows L2
def rgN (ring:Nat) (x:List Int):Nat:=if isX x=true then ring else 3
def X0 (ring:Nat) (x:List Int) (s:St3) (ps:List Ln) (zs:List Sk) (_:List Stop) (ans:List Int):Prop:=ans=[((JK (gB (CC s.1 s.2.1 s.2.2) ring ps zs x) 0 ps:Nat):Int)]
theorem dG (h:isX x=true):Sm x:=by
 unfold isX EW at h;simp only[iz,decide_eq_true_eq,jv] at h;obtain⟨h5,h1,⟨h2,h3⟩,_⟩:=h;refine⟨h5,λk hk=>h1 _ ?_,h2,h3⟩;rw[bf,aj (by omega)];exact bn (i:=k) (by rw[vS hk,aj (by omega)];rfl)
def OB (K:aa) (PT:ag) (dz fz:Str):Sp:=λvs H Q _=>Ex7 λ(ring:Nat) (ia ta xa:ag) (ci ct:List UInt8) (x:List Int)=>vs=[.int (ring:Nat),.ref ia,.ref ta,.ref xa]/\SqL K H ia (ci.map cV)/\SqL K H ta (ct.map cV)/\SqL K H xa (x.map V.int)/\ct.length<=100000/\LmT H PT/\TxP dz fz ci ct/\
 ∀ans,K7 dz fz (rgN ring x:Nat) ci ct (X0 ring x) ans->∀H' l,H' l=some (.lst (ans.map V.int))->Q (.ref l) H'
section
variable {P:bb} {w:cb} {K:aa} {mg:Str->Option ah} {base:cr} {CI CL CN CB CR PT:ag} {cl:Int->ag} {dz fz:Str}
theorem sc_pure:FnScope ["ring","i","t","x","tablature","notes","refusal"] ["ring","i","t","x"] (AH QI):={}
theorem gC (F:Fun K "pure" "pure" QI f fd) (T:TbC K CB) (hmR:mg "Refusal"=some (.ref CR)) (RC:RfC K CR cl [-1, -2, -3, -6, -8])
 (D1:Def P w K mg base 15 "read_tablature" ["i","t"] (eZ K CI CL CB cl (GM dz fz))) (D2:Def P w K mg base 4 "check_ring" ["ring"] (c8 (cl (-1)))) (D0:Def P w K mg base 4 "check_interval" ["x"] (sN K (cl (-1)))) (D3:Def P w K mg base 7 "fitting_notes" ["tablature"] (sG P w K CI CL CB (cl (-3)) CN PT))
 (D4:Def P w K mg base 5 "pure_units" ["notes","lines","ring","x"] (sV K CL CN)):
 FnOk P w K mg base (CX1 P w) 16 f fd ["ring","i","t","x"] (OB K PT dz fz):=by
 refine F.okx sc_pure λDk A outer s H vs Q E hr h=>?_;obtain⟨ring,ia,ta,xa,ci,ct,xL,rfl,hi,ht,hx,hct,LM,hP,k⟩:=h;refine⟨_,(AB (UF (Eb:=EbP cl [-1, -2, -3, -6, -8] (K7 dz fz (rgN ring xL:Nat) ci ct (X0 ring xL))) rfl rfl (λpn E' o=>(AB (AZ 4 sc_pure (D1.call hr o (AA (pv 1) (AA (pv 2) AF))))
  (AB (AY (D2.call hr o (AA (pv 0) AF)))
  (AB (AY (D0.call hr o (AA (pv 3) AF)))
  (AC (AZ 5 sc_pure (D3.call hr o (AA (pv 4) AF))))))))
  (YI (i:=6) (by rfl) hmR sc_pure.nd rfl rfl (λa E'=>(AC (AJ (DL (AA (bI K (pv 6)) AF))))) UE))
  (AC (AJ (DL (AA (D4.call hr AD (AA (pv 5) (AA (AT (pv 4) rfl) (AA (pv 0) (AA (pv 3) AF))))) AF))))),?_⟩
 and_intros
 refine⟨⟨V.ref ia,rfl,V.ref ta,rfl,ia,ta,ci,ct,rfl,hi,ht,hct,?_⟩,λa C' fs cx σ' H1 nt eb hl=>l9 RC eb (by rw[hl];show 6<7;decide) k _⟩;cases hm:GM dz fz ci ct with
 |error z=>exact ebp (fY hm (by simp)) (mC hm)
 |ok r=>
  obtain⟨st,ps⟩:=r;intro H1 x s1 TB;refine⟨_,rfl,_,rfl,?_⟩;by_cases hr2:(2:Int)<((ring:Nat):Int)
  ·rw[Dm hr2];exact ebp (by simp) (dA hm (by unfold rgN;split<;>omega)) _
  ·rw[Dn hr2];refine⟨V.ref xa,rfl,xa,xL,rfl,s1.seq hx,?_⟩;cases hX:isX xL with
   |false=>
    rw[Dn (by decide)];exact ebp (by simp) (dA hm (by unfold rgN;rw[hX];show(2:Int)<((3:Nat):Int);decide)) _
   |true=>
    have er:rgN ring xL=ring:=by unfold rgN;rw[hX];rfl
    rw[Dm rfl];rw[er] at k ⊢;intro H1' s1';have s11:=s1.trans s1';refine⟨_,rfl,x,st,ps,rfl,TB.st s1'.st,LamTbl.same s11 LM,?_⟩;cases hf:EO (plc st.1 st.2.1 st.2.2) 0 ps with
    |some y=>
     obtain⟨l,c⟩:=y;exact⟨-3,_,rfl,by simp,rfl,rfl,mD hm hr2 hf⟩
    |none=>
     have NP:=hP st ps hm hf;refine⟨NP,λH2 na zs ds st2 LM2 hds pm pw NA=>?_⟩;have nts:NtsP st ps zs ds:=⟨hds,pm,pw⟩
     have hzl:=fZ pm NP.few NP.len;have TB2:=(TB.st s1'.st).st st2;obtain⟨⟨dx,xa',af,ac,ab,al,h1,I1,L2⟩,le⟩:=TB2;refine⟨_,rfl,_,rfl,x,CB,dx,_,_,rfl,h1,T.cl,T.nl,bJ _ _,_,rfl,_,rfl,_,_,na,al,xa,zs,ps,ring,xL,rfl,NA,L2,λs hs=>dB pm hs,le,by omega,st2.seq (s11.seq hx),dG hX,λs hs=>?_,λH3 s3=>?_⟩
     ·have q:=(QR (pm.mem_iff.mp hs)).q;exact NP.sm _ (bn q.choose_spec.1) _ q.choose_spec.2
     ·exact⟨(by rw[cf];show 1<=16777216;decide),λq hq=>k _ (mE hm hr2 hf nts rfl) _ q (by rw[upd_same];rfl)⟩
end
open PySem PySem.Spec PyProof.Rows L2
theorem VY (h:isX x=true):∃z:Iv,LuteD.given x=some z/\x=ro z:=by
 have h0:=dG h;unfold isX at h;simp only[iz,decide_eq_true_eq] at h;obtain⟨h5,h6⟩:=h;match x,h5 with
 |[a,b,c,e,d],_=>
  have hd:1<=d:=h0.2.2.1;have ex:([a,b,c,e,d]:List Int)=ro ⟨a,b,c,e,d.toNat⟩:=by
   rw[IQ];show _=[a,b,c,e,((d.toNat:Nat):Int)];rw[kq (by omega)]
  refine⟨_,?_,ex⟩;show(if(decide (1<=d)&&(⟨a,b,c,e,d.toNat⟩:Iv).ok)=true then _ else _)=_;rw[Dm];rw[ex,XC] at h6;rw[h6,decide_eq_true hd];rfl
theorem VZ (h:isX x=false):LuteD.given x=none:=by
 unfold LuteD.given;split
 ·rename_i a b c e d;rw[Dn];intro q;simp only[iz,decide_eq_true_eq] at q;have ex:([a,b,c,e,d]:List Int)=ro ⟨a,b,c,e,d.toNat⟩:=by
   rw[IQ];show _=[a,b,c,e,((d.toNat:Nat):Int)];rw[kq (by omega)]
  unfold isX at h;rw[ex,XC,q.2] at h;cases h
 ·rfl
theorem mK {up:List Int->List Int} {vp:Iv->Iv} (L:List Iv) (hu:∀y∈L,up (ro y)=ro (vp y)):N8 up (L.map ro) (L.map ro).length=true↔f8 vp L:=by
 unfold N8 f8;rw[jw];have key:∀(k:Nat) (y:Iv),L[k]? =some y->(((L.map ro).take k++(L.map ro).drop (k+1)).contains (up ((L.map ro).getD k []))=true↔vp y∈L.take k++L.drop (k+1)):=λk y hy=>by
  rw[bf,au,hy];show List.contains _ (up (ro y))=true↔_;rw[hu y (bn hy), ←pp, ←uz, ←dh,List.contains_iff_mem,il];exact⟨λ⟨z,h1,h2⟩=>mF h2▸h1,λh=>⟨_,h,rfl⟩⟩
 constructor
 ·rintro ⟨k,h1,h2⟩;rw[qf,ai] at h1;exact⟨k,_,aj h1,(key k _ (aj h1)).mp h2⟩
 ·rintro ⟨k,y,h1,h2⟩;refine⟨k,?_,(key k y h1).mpr h2⟩;rw[qf,ai];exact(az.mp h1).1
theorem dH {ring:Nat} {ans:List Int} (h:K7 dz0 fz0 (rgN ring x:Nat) ci ct (X0 ring x) ans):ans=LuteD.answer (.pure_ ci ct ring x):=by
 cases hX:isX x with
 |false=>
  have er:rgN ring x=3:=by unfold rgN;rw[hX];rfl
  rw[er] at h;have:=TF (f:=λ_ _=>[]) h λt p zs ds hr=>absurd hr (by decide);rw[this];show _=LuteD.of ci ct _;rw[VZ hX];rfl
 |true=>
  have er:rgN ring x=ring:=by unfold rgN;rw[hX];rfl
  rw[er] at h;obtain⟨z,hz,rfl⟩:=VY hX;have:=TF (f:=λt p=>LuteD.says ((LuteSound.pure_ t p ring z:Nat):Int)) h λt p zs ds hr F n r=>?_
  ·rw[this];show _=LuteD.of ci ct _;rw[hz];rfl
  ·unfold X0 at r;have pm:zs.Perm (LuteSound.struck p):=by rw[F.z];exact N0 p
   rw[r,ZD (t:=t) F.m F.k hr z pm _ λi q hi h0=>?_]
   ·rfl
   ·unfold gB ivL;have em:(zs.filter (TV (λs=>mEL ring (p.map BO) s.line s.halt_.course) i)).map (λs=>CC (fr3 t).1 (fr3 t).2.1 (fr3 t).2.2 s.halt_)=((zs.filter (TV (λs=>mEL ring (p.map BO) s.line s.halt_.course) i)).map (LuteSound.tone t)).map ro:=by
     rw[wy];exact xM λs hs=>F.snd s (pm.mem_iff.mp (pc.mp hs).1)
    rw[em];exact mK _ λy _=>by rw[XD,GK]
def GFn (K:aa) (mg:Str->Option ah) (x nm:Str) (st:dm):Prop:=∃f fd,mg x=some (.ref f)/\Fun K nm nm st f fd
def GMt (K:aa) (C:ag) (m qual:Str) (st:dm):Prop:=∃f fd,Meth K C m f/\Fun K m qual st f fd
def GMk (K:aa) (C:ag) (qual:Str) (st:dm):Prop:=∃f fd,Mk K C f/\Fun K "__init__" qual st f fd
def GXk (K:aa) (C:ag) (qual:Str) (st:dm):Prop:=∃f fd,XMk K C f/\Fun K "__init__" qual st f fd
structure Rf1 (K:aa) (mg:Str->Option ah) (CR C:ag) (x qual:Str) (st:dm):Prop where
 m:mg x=some (.ref C)
 r:oe K (.ref C) (.ref CR)=some true
 x:XCls K C
 a:NoAttr K C "answer"
 i:GXk K C qual st
theorem gD {K:aa} {cl:Int->ag}:RfC K CR cl []:=⟨λ_ h=>(nomatch h),λ_ h=>(nomatch h),λ_ h=>(nomatch h)⟩
theorem HY {K:aa} {mg:Str->Option ah} {cl:Int->ag} {z:Int} {Z:List Int} {x q:Str} {st:dm} (h:Rf1 K mg CR (cl z) x q st) (r:RfC K CR cl Z):RfC K CR cl (z::Z):=
 ⟨λy hy=>(bq.mp hy).elim (λe=>e▸h.r) (r.r y),λy hy=>(bq.mp hy).elim (λe=>e▸h.x) (r.x y),λy hy=>(bq.mp hy).elim (λe=>e▸h.a) (r.a y)⟩
structure TxF (K:aa) (mg:Str->Option ah):Prop where
 common_factor:GFn K mg "common_factor" "common_factor" ER
 common_factor_of_all:GFn K mg "common_factor_of_all" "common_factor_of_all" CF
 is_interval:GFn K mg "is_interval" "is_interval" EI
 upon:GFn K mg "upon" "upon" IY
 raised:GFn K mg "raised" "raised" NL
 narrower:GFn K mg "narrower" "narrower" IZ
 place_among:GFn K mg "place_among" "place_among" FZ
 ranks:GFn K mg "ranks" "ranks" QH
 sign_number:GFn K mg "sign_number" "sign_number" F1
 read_interval:GFn K mg "read_interval" "read_interval" ES
 read_unison:GFn K mg "read_unison" "read_unison" F7
 read_factors:GFn K mg "read_factors" "read_factors" FE
 power_of_factor:GFn K mg "power_of_factor" "power_of_factor" DV
 read_power:GFn K mg "read_power" "read_power" GQ
 read_signed:GFn K mg "read_signed" "read_signed" F8
 read_instrument:GFn K mg "read_instrument" "read_instrument" DY
 read_length_instruments:GFn K mg "read_length_instruments" "read_length" B2
 read_line_instruments:GFn K mg "read_line_instruments" "read_line" CA
 read_fret:GFn K mg "read_fret" "read_fret" HE
 read_course:GFn K mg "read_course" "read_course" F9
 read_bass:GFn K mg "read_bass" "read_bass" HF
 skip_word:GFn K mg "skip_word" "skip_word" HG
 read_rest:GFn K mg "read_rest" "read_rest" HH
 check_fit:GFn K mg "check_fit" "check_fit" HJ
 beginnings:GFn K mg "beginnings" "beginnings" GR
 sounds_of:GFn K mg "sounds_of" "sounds_of" HK
 end_line:GFn K mg "end_line" "end_line" JA
 read_french_stops:GFn K mg "read_french_stops" "read_french_stops" DF
 read_italian_stops:GFn K mg "read_italian_stops" "read_italian_stops" C7
 read_german_stops:GFn K mg "read_german_stops" "read_german_stops" DG
 read_neck:GFn K mg "read_neck" "read_neck" HL
 add_stop:GFn K mg "add_stop" "add_stop" JB
 read_french_bass:GFn K mg "read_french_bass" "read_french_bass" DO
 read_bass_number:GFn K mg "read_bass_number" "read_bass_number" DP
 read_german_stop:GFn K mg "read_german_stop" "read_german_stop" DQ
 read_crossing:GFn K mg "read_crossing" "read_crossing" ET
 read_piece:GFn K mg "read_piece" "read_piece" GU
 read_kind:GFn K mg "read_kind" "read_kind" HN
 read_line_pieces:GFn K mg "read_line_pieces" "read_line" DR
 read_length_pieces:GFn K mg "read_length_pieces" "read_length" C9
 read_stops:GFn K mg "read_stops" "read_stops" GV
 pure_units:GFn K mg "pure_units" "pure_units" GW
 intervals_by_line:GFn K mg "intervals_by_line" "intervals_by_line" BU
 has_pair:GFn K mg "has_pair" "has_pair" JC
 read_tablature:GFn K mg "read_tablature" "read_tablature" ED
 tablature_of:GFn K mg "tablature_of" "tablature_of" FG
 check_sizes:GFn K mg "check_sizes" "check_sizes" GB
 instrument_of:GFn K mg "instrument_of" "instrument_of" EU
 piece_of:GFn K mg "piece_of" "piece_of" JD
 check_ring:GFn K mg "check_ring" "check_ring" GX
 check_interval:GFn K mg "check_interval" "check_interval" EE
 fitting_notes:GFn K mg "fitting_notes" "fitting_notes" EV
structure TxG (K:aa) (mg:Str->Option ah):Prop where
 B:Blt mg
 b_sorted:mg "sorted"=none
 b_zip:mg "zip"=none
 WIDEST_POWER:GI mg "WIDEST_POWER" 99
 FINEST_PART:GI mg "FINEST_PART" 24
 NO_BYTE:GI mg "NO_BYTE" 256
 MOST_DIGITS:GI mg "MOST_DIGITS" ((4:Nat):Int)
 LEAST_LENGTH:GI mg "LEAST_LENGTH" 10000
 GREATEST_LENGTH:GI mg "GREATEST_LENGTH" 200000
 LENGTH_DIGITS:GI mg "LENGTH_DIGITS" ((7:Nat):Int)
 MOST_FRETS:GI mg "MOST_FRETS" 15
 MOST_STRINGS:GI mg "MOST_STRINGS" 14
 LINE_FEED:GI mg "LINE_FEED" 10
 RING_MOMENT:GI mg "RING_MOMENT" 0
 RING_BAR:GI mg "RING_BAR" 2
 NECK_COURSES:GI mg "NECK_COURSES" 6
 FIRST_BASS:GI mg "FIRST_BASS" 7
 MOST_CROSSING_BYTES:GI mg "MOST_CROSSING_BYTES" 3
 MOST_LINES:GI mg "MOST_LINES" 512
 FRENCH:GI mg "FRENCH" 0
 ITALIAN:GI mg "ITALIAN" 1
 MOST_INSTRUMENT_BYTES:GI mg "MOST_INSTRUMENT_BYTES" 4096
 MOST_PIECE_BYTES:GI mg "MOST_PIECE_BYTES" 65536
 MOST_RING:GI mg "MOST_RING" 2
 DIGITS:GS mg "DIGITS" dz0
 FACTORS:GS mg "FACTORS" fz0
 FRENCH_FRETS:GS mg "FRENCH_FRETS" zF
 FRENCH_LOWEST:GS mg "FRENCH_LOWEST" "4567"
 ITALIAN_FRETS:GS mg "ITALIAN_FRETS" zI
 GERMAN_UNSTOPPED:GS mg "GERMAN_UNSTOPPED" "54321"
 GERMAN_SIXTH:GS mg "GERMAN_SIXTH" zP
 GERMAN_CROSSINGS:GS mg "GERMAN_CROSSINGS" zX
 LENGTH_SIGNS:GS mg "LENGTH_SIGNS" zL
 PRIMES:GT K mg "PRIMES" (prm.map V.int)
 UNISON:GT K mg "UNISON" (un5.map V.int)
 LENGTHS:GT K mg "LENGTHS" (lens.map V.int)
 KIND_WORDS:GT K mg "KIND_WORDS" (kws.map V.str)
structure TxR (K:aa) (mg:Str->Option ah) (C:ag):Prop where
 m:mg "Reader"=some (.ref C)
 T:RdC K C
 i:GMk K C "Reader.__init__" F2
 en:GMt K C "ended" "Reader.ended" FD
 by_:GMt K C "byte" "Reader.byte" F3
 se:GMt K C "sees" "Reader.sees" F4
 pi:GMt K C "pick" "Reader.pick" F5
 sk:GMt K C "skip" "Reader.skip" F6
 wn:GMt K C "whole_number" "Reader.whole_number" CV
structure TxI (K:aa) (mg:Str->Option ah) (C:ag):Prop where
 m:mg "Instrument"=some (.ref C)
 T:InC K C
 i:GMk K C "Instrument.__init__" DW
 sc:GMt K C "string_count" "Instrument.string_count" B1
 hp:GMt K C "has_place" "Instrument.has_place" CG
 so:GMt K C "sound" "Instrument.sound" DN
structure TxL (K:aa) (mg:Str->Option ah) (C:ag):Prop where
 m:mg "Line"=some (.ref C)
 T:LnC K C
 i:GMk K C "Line.__init__" HM
 ib:GMt K C "is_bar" "Line.is_bar" GA
 st:GMt K C "strikes" "Line.strikes" FF
structure TxB_ (K:aa) (mg:Str->Option ah) (C:ag):Prop where
 m:mg "Tablature"=some (.ref C)
 T:TbC K C
 i:GMk K C "Tablature.__init__" EC
structure TxN (K:aa) (mg:Str->Option ah) (C:ag):Prop where
 m:mg "Note"=some (.ref C)
 T:NtC K C
 i:GMk K C "Note.__init__" HI
structure TxX (K:aa) (mg:Str->Option ah) (CT CR C1 C2 C3 C6 C8:ag):Prop where
 mT:mg "TextFault"=some (.ref CT)
 mR:mg "Refusal"=some (.ref CR)
 xT:XCls K CT
 aT:NoAttr K CT "place"
 eT:oe K (.ref CT) (.ref CT)=some true
 iT:GXk K CT "TextFault.__init__" EB
 r1:Rf1 K mg CR C1 "NoSuchChoice" "NoSuchChoice.__init__" DD
 r2:Rf1 K mg CR C2 "TooLong" "TooLong.__init__" FB
 r3:Rf1 K mg CR C3 "Misfit" "Misfit.__init__" F0
 r6:Rf1 K mg CR C6 "NoInstrument" "NoInstrument.__init__" DE
 r8:Rf1 K mg CR C8 "NoPiece" "NoPiece.__init__" FC
 lm:NoAttr K C3 "line"
 cm:NoAttr K C3 "course"
 sp:vK K (.ref CR) "__getattribute__"=some (some (.builtin "type.__getattribute__"))
 rd:wC K CR (.type "type")=true
 fc:∃f fd,rq K (.ref CR) (.type "type") "__init__"=some (.val (.ref f))/\Fun K "__init__" "Refusal.__init__" FA f fd
section
variable {P:bb} {w:cb} {K:aa} {mg:Str->Option ah} {base:cr}
abbrev Bd (x qual:Str) (st:dm) (ps:List Str):Prop:=∀(kV doc pm:ah) (an:Option ag) (Dk ct:ah) (us:List ah),us.length=ps.length->wW (ik x qual (DJ st) (BX st) (AH st) .none kV doc pm an Dk ct) ⟨us,[]⟩=pure (ps.zip us)
theorem AS {k:Nat} {x nm:Str} {st:dm} {sp:Sp} (h:GFn K mg x nm st) (hb:Bd nm nm st ps) (ok:∀f fd,Fun K nm nm st f fd->FnOk P w K mg base (CX1 P w) k f fd ps sp):Def P w K mg base k x ps sp:=
 let ⟨f,fd,hm,F⟩:=h;⟨f,fd,hm,F.kp,F.binds hb,ok f fd F⟩
theorem FL {k:Nat} {m qual:Str} {st:dm} {sp:Sp} (c:Cls K C) (h:GMt K C m qual st) (hb:Bd m qual st ps) (ok:∀f fd,Fun K m qual st f fd->FnOk P w K mg base (CX1 P w) k f fd ps sp):Mth P w K mg base k C m ps sp:=
 let ⟨f,fd,hm,F⟩:=h;⟨c,f,fd,hm,F.binds hb,ok f fd F⟩
theorem OC {k:Nat} {x qual:Str} {st:dm} {sp:Sp} (hx:mg x=some (.ref C)) (h:GMk K C qual st) (hb:Bd "__init__" qual st ps) (ok:∀f fd,Fun K "__init__" qual st f fd->FnOk P w K mg base (CX1 P w) k f fd ps sp):Mkr P w K mg base k C x ps sp:=
 let ⟨f,fd,hm,F⟩:=h;⟨hx,f,fd,hm,F.binds hb,ok f fd F⟩
theorem K9 {k:Nat} {x qual:Str} {st:dm} {sp:Sp} (hx:mg x=some (.ref C)) (c:XCls K C) (h:GXk K C qual st) (hb:Bd "__init__" qual st ps) (ok:∀f fd,Fun K "__init__" qual st f fd->FnOkU P w K mg base (CX1 P w) k f fd ps sp):XMr P w K mg base k C x ps sp:=
 let ⟨f,fd,hm,F⟩:=h;⟨hx,c,f,fd,hm,F.binds hb,ok f fd F⟩
theorem mL {CR0 CB C1 C2 C3 C6 C8 fN cN PT:ag} {fdN:fv} (F:TxF K mg) (G:TxG K mg) (R:TxR K mg CR0) (I:TxI K mg CI) (L:TxL K mg CL) (B_:TxB_ K mg CB) (N:TxN K mg CN) (X:TxX K mg CT CR C1 C2 C3 C6 C8) (LN:LmF K mg fN fdN cN PT) (BB:N4 mg base) (CH:vA base cN PT) (Ff:Fun K "pure" "pure" QI f fd):
 FnOk P w K mg base (CX1 P w) 16 f fd ["ring","i","t","x"] (OB K PT dz0 fz0):=by
 have B:=G.B;have d_cf:=AS (P:=P) (w:=w) (base:=base) F.common_factor (λ_ _ _ _ _ _ us hl=>match us,hl with|[_,_],_=>rfl) λf fd h=>n6 h B;have d_cfa:=AS (P:=P) (w:=w) (base:=base) F.common_factor_of_all (λ_ _ _ _ _ _ us hl=>match us,hl with|[_],_=>rfl) λf fd h=>jN h d_cf;have d_ii:=AS (P:=P) (w:=w) (base:=base) F.is_interval (λ_ _ _ _ _ _ us hl=>match us,hl with|[_],_=>rfl) λf fd h=>n8 h B G.WIDEST_POWER G.FINEST_PART d_cfa;have d_up:=AS (P:=P) (w:=w) (base:=base) F.upon (λ_ _ _ _ _ _ us hl=>match us,hl with|[_,_],_=>rfl) λf fd h=>oB h B d_cfa;have d_ra:=AS (P:=P) (w:=w) (base:=base) F.raised (λ_ _ _ _ _ _ us hl=>match us,hl with|[_,_],_=>rfl) λf fd h=>oE h;have d_nr:=AS (P:=P) (w:=w) (base:=base) F.narrower (λ_ _ _ _ _ _ us hl=>match us,hl with|[_,_],_=>rfl) λf fd h=>oF h B G.PRIMES d_ra;have X1:TFm P w K mg base CT:=K9 X.mT X.xT X.iT (λ_ _ _ _ _ _ us hl=>match us,hl with|[_,_],_=>rfl) λf fd h=>oJ h X.xT X.aT;obtain⟨fR,fdR,hfR,FR⟩:=X.fc;have RI:RfI P w K mg base CR fR fdR:=⟨X.mR,X.sp,X.rd,hfR,FR.kp,FR.binds (λ_ _ _ _ _ _ us hl=>match us,hl with|[_,_],_=>rfl),oM FR⟩
 have XM:XMr P w K mg base 2 C3 "Misfit" ["self","line","course"] (jP C3):=K9 X.r3.m X.r3.x X.r3.i (λ_ _ _ _ _ _ us hl=>match us,hl with|[_,_,_],_=>rfl) λf fd h=>oO h RI X.r3.x X.r3.a X.lm X.cm;have X1_:XMr P w K mg base 2 C1 "NoSuchChoice" ["self"] (JZ C1 (-1)):=K9 X.r1.m X.r1.x X.r1.i (λ_ _ _ _ _ _ us hl=>match us,hl with|[_],_=>rfl) λf fd h=>MC h RI X.r1.x X.r1.a;have X2:XMr P w K mg base 2 C2 "TooLong" ["self"] (JZ C2 (-2)):=K9 X.r2.m X.r2.x X.r2.i (λ_ _ _ _ _ _ us hl=>match us,hl with|[_],_=>rfl) λf fd h=>UM h RI X.r2.x X.r2.a;have X6:XMr P w K mg base 2 C6 "NoInstrument" ["self"] (JZ C6 (-6)):=K9 X.r6.m X.r6.x X.r6.i (λ_ _ _ _ _ _ us hl=>match us,hl with|[_],_=>rfl) λf fd h=>LY h RI X.r6.x X.r6.a;have X8:XMr P w K mg base 2 C8 "NoPiece" ["self"] (JZ C8 (-8)):=K9 X.r8.m X.r8.x X.r8.i (λ_ _ _ _ _ _ us hl=>match us,hl with|[_],_=>rfl) λf fd h=>UO h RI X.r8.x X.r8.a;have d_sn:=AS (P:=P) (w:=w) (base:=base) F.sign_number (λ_ _ _ _ _ _ us hl=>match us,hl with|[_,_],_=>rfl) λf fd h=>oP h B;have m_en:=FL (P:=P) (w:=w) (mg:=mg) (base:=base) R.T.cl R.en (λ_ _ _ _ _ _ us hl=>match us,hl with|[_],_=>rfl) λf fd h=>oU h R.T;have m_by:=FL (P:=P) (w:=w) (mg:=mg) (base:=base) R.T.cl R.by_ (λ_ _ _ _ _ _ us hl=>match us,hl with|[_],_=>rfl) λf fd h=>oW h R.T G.NO_BYTE m_en;have m_se:=FL (P:=P) (w:=w) (mg:=mg) (base:=base) R.T.cl R.se (λ_ _ _ _ _ _ us hl=>match us,hl with|[_,_],_=>rfl) λf fd h=>oY h d_sn m_by;have m_pi:=FL (P:=P) (w:=w) (mg:=mg) (base:=base) R.T.cl R.pi (λ_ _ _ _ _ _ us hl=>match us,hl with|[_,_],_=>rfl) λf fd h=>oZ h R.T X1 d_sn m_by;have m_sk:=FL (P:=P) (w:=w) (mg:=mg) (base:=base) R.T.cl R.sk (λ_ _ _ _ _ _ us hl=>match us,hl with|[_,_],_=>rfl) λf fd h=>o5 h m_pi;have m_wn:=FL (P:=P) (w:=w) (mg:=mg) (base:=base) R.T.cl R.wn (λ_ _ _ _ _ _ us hl=>match us,hl with|[_,_],_=>rfl) λf fd h=>o6 h R.T X1 G.DIGITS (oks (by decide +kernel)) m_pi m_se;have k_r:Mkr P w K mg base 1 CR0 "Reader" ["self","text","place","end"] (jR CR0):=OC R.m R.i (λ_ _ _ _ _ _ us hl=>match us,hl with|[_,_,_,_],_=>rfl) λf fd h=>oS h R.T;have RE:RdE P w K mg base CR0 CT dz0:=⟨R.T,X1,k_r,m_en,m_by,m_se,m_pi,m_sk,m_wn⟩
 have d_un:=AS (P:=P) (w:=w) (base:=base) F.read_unison (λ_ _ _ _ _ _ us hl=>match us,hl with|[_],_=>rfl) λf fd h=>pE h RE G.UNISON;have d_sg:=AS (P:=P) (w:=w) (base:=base) F.read_signed (λ_ _ _ _ _ _ us hl=>match us,hl with|[_],_=>rfl) λf fd h=>pG h RE G.MOST_DIGITS;have d_pw:=AS (P:=P) (w:=w) (base:=base) F.read_power (λ_ _ _ _ _ _ us hl=>match us,hl with|[_,_],_=>rfl) λf fd h=>pH h RE G.MOST_DIGITS d_sg d_cf;have d_pf:=AS (P:=P) (w:=w) (base:=base) F.power_of_factor (λ_ _ _ _ _ _ us hl=>match us,hl with|[_,_],_=>rfl) λf fd h=>pK h B;have d_fc:=AS (P:=P) (w:=w) (base:=base) F.read_factors (λ_ _ _ _ _ _ us hl=>match us,hl with|[_],_=>rfl) λf fd h=>pL h RE G.UNISON G.FACTORS (oks (by decide +kernel)) (by decide +kernel) (by decide +kernel) d_pw d_pf d_up;have d_riv:=AS (P:=P) (w:=w) (base:=base) F.read_interval (λ_ _ _ _ _ _ us hl=>match us,hl with|[_,_,_],_=>rfl) λf fd h=>jY h RE d_un d_fc d_ii;have d_rr:=AS (P:=P) (w:=w) (base:=base) F.read_rest (λ_ _ _ _ _ _ us hl=>match us,hl with|[_],_=>rfl) λf fd h=>pM h RE G.LINE_FEED d_riv;have d_sw:=AS (P:=P) (w:=w) (base:=base) F.skip_word (λ_ _ _ _ _ _ us hl=>match us,hl with|[_,_,_],_=>rfl) λf fd h=>pO h RE;have m_sc:=FL (P:=P) (w:=w) (mg:=mg) (base:=base) I.T.cl I.sc (λ_ _ _ _ _ _ us hl=>match us,hl with|[_],_=>rfl) λf fd h=>j5 h B I.T;have m_hp:=FL (P:=P) (w:=w) (mg:=mg) (base:=base) I.T.cl I.hp (λ_ _ _ _ _ _ us hl=>match us,hl with|[_,_,_],_=>rfl) λf fd h=>pY h B I.T m_sc;have k_i:Mkr P w K mg base 1 CI "Instrument" ["self"] (aX CI):=OC I.m I.i (λ_ _ _ _ _ _ us hl=>match us,hl with|[_],_=>rfl) λf fd h=>j3 h I.T;have IE:InE P w K mg base CR0 CI CT dz0 fz0:=⟨RE,B,I.T,G.UNISON,m_sc,d_sw,d_rr,d_nr,d_ii,d_up⟩
 have d_fr:=AS (P:=P) (w:=w) (base:=base) F.read_fret (λ_ _ _ _ _ _ us hl=>match us,hl with|[_,_],_=>rfl) λf fd h=>pP h IE G.MOST_FRETS;have d_co:=AS (P:=P) (w:=w) (base:=base) F.read_course (λ_ _ _ _ _ _ us hl=>match us,hl with|[_,_],_=>rfl) λf fd h=>pQ h IE G.MOST_STRINGS;have d_ba:=AS (P:=P) (w:=w) (base:=base) F.read_bass (λ_ _ _ _ _ _ us hl=>match us,hl with|[_,_],_=>rfl) λf fd h=>pS h IE G.MOST_STRINGS;have d_ln:=AS (P:=P) (w:=w) (base:=base) F.read_line_instruments (λ_ _ _ _ _ _ us hl=>match us,hl with|[_,_],_=>rfl) λf fd h=>pU h IE d_fr d_co d_ba;have d_le:=AS (P:=P) (w:=w) (base:=base) F.read_length_instruments (λ_ _ _ _ _ _ us hl=>match us,hl with|[_],_=>rfl) λf fd h=>pV h RE G.LENGTH_DIGITS G.LEAST_LENGTH G.GREATEST_LENGTH;have d_rin:=AS (P:=P) (w:=w) (base:=base) F.read_instrument (λ_ _ _ _ _ _ us hl=>match us,hl with|[_],_=>rfl) λf fd h=>j8 h IE k_i d_le d_ln;have d_add:=AS (P:=P) (w:=w) (base:=base) F.add_stop (λ_ _ _ _ _ _ us hl=>match us,hl with|[_,_,_],_=>rfl) λf fd h=>kI h B X1;have d_bn:=AS (P:=P) (w:=w) (base:=base) F.read_bass_number (λ_ _ _ _ _ _ us hl=>match us,hl with|[_],_=>rfl) λf fd h=>p6 h RE G.FIRST_BASS;have d_nk:=AS (P:=P) (w:=w) (base:=base) F.read_neck (λ_ _ _ _ _ _ us hl=>match us,hl with|[_,_,_],_=>rfl) λf fd h=>p7 h B RE;have d_fb:=AS (P:=P) (w:=w) (base:=base) F.read_french_bass (λ_ _ _ _ _ _ us hl=>match us,hl with|[_],_=>rfl) λf fd h=>p8 h RE G.FIRST_BASS G.FRENCH_LOWEST;have d_cr:=AS (P:=P) (w:=w) (base:=base) F.read_crossing (λ_ _ _ _ _ _ us hl=>match us,hl with|[_],_=>rfl) λf fd h=>p9 h RE G.MOST_CROSSING_BYTES G.GERMAN_CROSSINGS;have d_gs:=AS (P:=P) (w:=w) (base:=base) F.read_german_stop (λ_ _ _ _ _ _ us hl=>match us,hl with|[_],_=>rfl) λf fd h=>qB h RE G.GERMAN_UNSTOPPED G.GERMAN_SIXTH G.NECK_COURSES d_bn d_cr;have d_frs:=AS (P:=P) (w:=w) (base:=base) F.read_french_stops (λ_ _ _ _ _ _ us hl=>match us,hl with|[_],_=>rfl) λf fd h=>kJ h B RE G.NECK_COURSES G.FRENCH_FRETS d_nk d_fb d_add;have d_its:=AS (P:=P) (w:=w) (base:=base) F.read_italian_stops (λ_ _ _ _ _ _ us hl=>match us,hl with|[_],_=>rfl) λf fd h=>kK h B RE G.NECK_COURSES G.ITALIAN_FRETS d_nk d_bn d_add;have d_grs:=AS (P:=P) (w:=w) (base:=base) F.read_german_stops (λ_ _ _ _ _ _ us hl=>match us,hl with|[_],_=>rfl) λf fd h=>kL h RE d_gs d_add;have d_rst:=AS (P:=P) (w:=w) (base:=base) F.read_stops (λ_ _ _ _ _ _ us hl=>match us,hl with|[_,_],_=>rfl) λf fd h=>kN h G.FRENCH G.ITALIAN d_frs d_its d_grs;have m_ib:=FL (P:=P) (w:=w) (mg:=mg) (base:=base) L.T.cl L.ib (λ_ _ _ _ _ _ us hl=>match us,hl with|[_],_=>rfl) λf fd h=>qF h L.T;have k_l:Mkr P w K mg base 1 CL "Line" ["self","length","stops"] (kO CL):=OC L.m L.i (λ_ _ _ _ _ _ us hl=>match us,hl with|[_,_,_],_=>rfl) λf fd h=>qD h L.T;have d_rk:=AS (P:=P) (w:=w) (base:=base) F.read_kind (λ_ _ _ _ _ _ us hl=>match us,hl with|[_],_=>rfl) λf fd h=>qG h B RE G.KIND_WORDS;have d_rl:=AS (P:=P) (w:=w) (base:=base) F.read_length_pieces (λ_ _ _ _ _ _ us hl=>match us,hl with|[_,_],_=>rfl) λf fd h=>qH h RE G.LENGTH_SIGNS G.LENGTHS;have d_pl:=AS (P:=P) (w:=w) (base:=base) F.read_line_pieces (λ_ _ _ _ _ _ us hl=>match us,hl with|[_,_,_],_=>rfl) λf fd h=>qJ h RE k_l d_rl d_rst;have d_pc:=AS (P:=P) (w:=w) (base:=base) F.read_piece (λ_ _ _ _ _ _ us hl=>match us,hl with|[_],_=>rfl) λf fd h=>qL h B RE L.T G.MOST_LINES m_ib d_rk d_pl;have d_ck:=AS (P:=P) (w:=w) (base:=base) F.check_fit (λ_ _ _ _ _ _ us hl=>match us,hl with|[_,_],_=>rfl) λf fd h=>qO h B I.T L.T m_hp XM;have d_sz:=AS (P:=P) (w:=w) (base:=base) F.check_sizes (λ_ _ _ _ _ _ us hl=>match us,hl with|[_,_],_=>rfl) λf fd h=>qQ h B G.MOST_INSTRUMENT_BYTES G.MOST_PIECE_BYTES X2;have d_io:=AS (P:=P) (w:=w) (base:=base) F.instrument_of (λ_ _ _ _ _ _ us hl=>match us,hl with|[_],_=>rfl) λf fd h=>qW h X.mT X.eT d_rin X6;have d_po:=AS (P:=P) (w:=w) (base:=base) F.piece_of (λ_ _ _ _ _ _ us hl=>match us,hl with|[_],_=>rfl) λf fd h=>qY h X.mT X.eT d_pc X8;have k_b:Mkr P w K mg base 1 CB "Tablature" ["self","instrument","lines"] (kY CB):=OC B_.m B_.i (λ_ _ _ _ _ _ us hl=>match us,hl with|[_,_,_],_=>rfl) λf fd h=>k6 h B_.T;have d_tbo:=AS (P:=P) (w:=w) (base:=base) F.tablature_of (λ_ _ _ _ _ _ us hl=>match us,hl with|[_,_],_=>rfl) λf fd h=>k8 (cl:=(λz:Int=>([0,C1,C2,C3,0,0,C6,0,C8,0,0]:List ag).getD z.natAbs 0)) h k_b d_io d_po;have d_rtb:=AS (P:=P) (w:=w) (base:=base) F.read_tablature (λ_ _ _ _ _ _ us hl=>match us,hl with|[_,_],_=>rfl) λf fd h=>lA (cl:=(λz:Int=>([0,C1,C2,C3,0,0,C6,0,C8,0,0]:List ag).getD z.natAbs 0)) h d_sz d_tbo;have m_so:=FL (P:=P) (w:=w) (mg:=mg) (base:=base) I.T.cl I.so (λ_ _ _ _ _ _ us hl=>match us,hl with|[_,_,_],_=>rfl) λf fd h=>lN h B I.T d_up;have m_st:=FL (P:=P) (w:=w) (mg:=mg) (base:=base) L.T.cl L.st (λ_ _ _ _ _ _ us hl=>match us,hl with|[_,_],_=>rfl) λf fd h=>lP h L.T;have k_n:Mkr P w K mg base 1 CN "Note" ["self","begin","line","stop","interval","height"] (lL K CN):=OC N.m N.i (λ_ _ _ _ _ _ us hl=>match us,hl with|[_,_,_,_,_,_],_=>rfl) λf fd h=>rL h N.T;have d_beg:=AS (P:=P) (w:=w) (base:=base) F.beginnings (λ_ _ _ _ _ _ us hl=>match us,hl with|[_],_=>rfl) λf fd h=>lO h L.T;have d_pa:=AS (P:=P) (w:=w) (base:=base) F.place_among (λ_ _ _ _ _ _ us hl=>match us,hl with|[_,_],_=>rfl) λf fd h=>rS h B d_nr;have d_rks:=AS (P:=P) (w:=w) (base:=base) F.ranks (λ_ _ _ _ _ _ us hl=>match us,hl with|[_],_=>rfl) λf fd h=>lU h B d_pa;have d_so:=AS (P:=P) (w:=w) (base:=base) F.sounds_of (λ_ _ _ _ _ _ us hl=>match us,hl with|[_,_],_=>rfl) λf fd h=>rX h I.T L.T m_so;have d_no:Def P w K mg base 6 "notes_in_order" ["instrument","lines"] (lY P w K CI CL CN PT):=⟨fN,fdN,LN.m,LN.F.kp,LN.F.toFun.binds (λ_ _ _ _ _ _ us hl=>match us,hl with|[_,_],_=>rfl),sC LN.F B G.b_sorted BB CH L.T N.T d_beg d_so d_rks k_n⟩
 have d_el:=AS (P:=P) (w:=w) (base:=base) F.end_line (λ_ _ _ _ _ _ us hl=>match us,hl with|[_,_,_],_=>rfl) λf fd h=>sF h B G.RING_MOMENT G.RING_BAR L.T N.T m_ib m_st;have d_ring:=AS (P:=P) (w:=w) (base:=base) F.check_ring (λ_ _ _ _ _ _ us hl=>match us,hl with|[_],_=>rfl) λf fd h=>fX h G.MOST_RING X1_;have d_fn:=AS (P:=P) (w:=w) (base:=base) F.fitting_notes (λ_ _ _ _ _ _ us hl=>match us,hl with|[_],_=>rfl) λf fd h=>sI h B_.T d_ck d_no;have d_il:=AS (P:=P) (w:=w) (base:=base) F.is_interval (λ_ _ _ _ _ _ us hl=>match us,hl with|[_],_=>rfl) λf fd h=>sO h B G.WIDEST_POWER G.FINEST_PART d_cfa;have d_ci:=AS (P:=P) (w:=w) (base:=base) F.check_interval (λ_ _ _ _ _ _ us hl=>match us,hl with|[_],_=>rfl) λf fd h=>sQ h d_il X1_;have d_hr:=AS (P:=P) (w:=w) (base:=base) F.has_pair (λ_ _ _ _ _ _ us hl=>match us,hl with|[_,_],_=>rfl) λf fd h=>sS h B d_up;have d_ibl:=AS (P:=P) (w:=w) (base:=base) F.intervals_by_line (λ_ _ _ _ _ _ us hl=>match us,hl with|[_,_,_],_=>rfl) λf fd h=>mI h B N.T d_el;have d_pun:=AS (P:=P) (w:=w) (base:=base) F.pure_units (λ_ _ _ _ _ _ us hl=>match us,hl with|[_,_,_,_],_=>rfl) λf fd h=>mJ h G.b_zip L.T d_ibl d_hr;exact gC (cl:=(λz:Int=>([0,C1,C2,C3,0,0,C6,0,C8,0,0]:List ag).getD z.natAbs 0)) Ff B_.T X.mR (HY X.r1 (HY X.r2 (HY X.r3 (HY X.r6 (HY X.r8 gD))))) d_rtb d_ring d_ci d_fn d_pun
end
open PySem PySem.Spec PyProof.Rows L2
section
variable {K:aa} {h:cr} {mg:Str->Option ah} {x nm m qual:Str} {st:dm} {f C:ag} {oc kV doc pm Dk ct:ah} {od an:Option ag} {osl:Array (Option ah)}
theorem dJ (X:K.In h) (G:h.Ns fh mg) (a:u7 K fh x=some (some (.ref f))) (l:K.lookup f=some ⟨oc,od,.func (ik nm nm (DJ st) (BX st) (AH st) .none kV doc pm an Dk ct),osl⟩) (c:jg K Dk nm=true) (k:fi K (.ref f)=true):GFn K mg x nm st:=
 ⟨f,_,gc X G a,NB l c k⟩
theorem FM (a:im K (.ref C) m=some (some (.ref f))) (i:qo K (.ref f)=true) (l:K.lookup f=some ⟨oc,od,.func (ik m qual (DJ st) (BX st) (AH st) .none kV doc pm an Dk ct),osl⟩) (c:jg K Dk qual=true) (k:fi K (.ref f)=true):GMt K C m qual st:=
 ⟨f,_,⟨a,i,k⟩,NB l c k⟩
theorem OE (mk:wA K C=true) (kc:fi K (.ref C)=true) (a:im K (.ref C) "__init__"=some (some (.ref f))) (i:qo K (.ref f)=true) (l:K.lookup f=some ⟨oc,od,.func (ik "__init__" qual (DJ st) (BX st) (AH st) .none kV doc pm an Dk ct),osl⟩) (c:jg K Dk qual=true) (k:fi K (.ref f)=true):GMk K C qual st:=
 ⟨f,_,⟨mk,a,i,kc⟩,NB l c k⟩
theorem LA (mk:HB K C=true) (kc:fi K (.ref C)=true) (a:im K (.ref C) "__init__"=some (some (.ref f))) (i:qo K (.ref f)=true) (l:K.lookup f=some ⟨oc,od,.func (ik "__init__" qual (DJ st) (BX st) (AH st) .none kV doc pm an Dk ct),osl⟩) (c:jg K Dk qual=true) (k:fi K (.ref f)=true):GXk K C qual st:=
 ⟨f,_,⟨mk,a,i,kc⟩,NB l c k⟩
theorem mM (a:rq K (.ref C) (.type "type") "__init__"=some (.val (.ref f))) (l:K.lookup f=some ⟨oc,od,.func (ik "__init__" qual (DJ st) (BX st) (AH st) .none kV doc pm an Dk ct),osl⟩) (c:jg K Dk qual=true) (k:fi K (.ref f)=true):
 ∃f fd,rq K (.ref C) (.type "type") "__init__"=some (.val (.ref f))/\Fun K "__init__" qual st f fd:=⟨f,_,a,NB l c k⟩
theorem sW {i:Int} {t:Tok} (X:K.In h) (G:h.Ns fh mg) (a:u7 K fh x=some (some (.int i t))):GI mg x i:=⟨_,gc X G a,t,rfl⟩
theorem sX {t:Tok} (X:K.In h) (G:h.Ns fh mg) (a:u7 K fh x=some (some (.str z t))):GS mg x z:=⟨_,gc X G a,t,rfl⟩
theorem sY {Di:Array ah} (X:K.In h) (G:h.Ns fh mg) (a:u7 K fh x=some (some (.ref f))) (l:K.lookup f=some ⟨.type "tuple",od,.seq Di n,osl⟩) (hz:Di.size<=100) (r:Vals xs Di.toList):GT K mg x xs:=
 ⟨f,gc X G a,λH=>.inr ⟨_,Di,n,l,rfl,rfl,by rw[cf];omega,r⟩⟩
end
theorem dL {l:List Int} (h:∀z∈l,0<=z/\z<=255):(LuSoundNeutral.bytes l).map cV=l.map V.int:=by
 unfold LuSoundNeutral.bytes;rw[wy];refine xM λz hz=>?_;have:=h z hz;show V.int (((vQ z.toNat).toNat:Nat):Int)=V.int z;congr 1;rw[x8];omega
theorem inI {lo hi:Int} {l:List Int} (h:l.all (kr lo hi)=true):∀z∈l,lo<=z/\z<=hi:=λz hz=>by
 have:=jv.mp h z hz;unfold kr at this;simpa using this
theorem sZ {K:aa} {pi pt px PT:ag} {ring:Int} {i t:List Int} (hT:H PT=some (.tbl #[])) (hsi:SqL K H pi (i.map V.int)) (hst:SqL K H pt (t.map V.int)) (hsx:SqL K H px (x.map V.int)) (hnring:0<=ring) (hii:i.all (kr 0 255)=true) (hit:t.all (kr 0 255)=true) (Dl:t.length<=66000):
 OB K PT dz0 fz0 [.int ring,.ref pi,.ref pt,.ref px] H (λv H'=>Dw K H' v (.list ((PyWqaucn.pure ring i t x).map .int))) λ_ _ _=>False:=by
 refine⟨ring.toNat,pi,pt,px,LuSoundNeutral.bytes i,LuSoundNeutral.bytes t,x,by rw[kq hnring],by rw[dL (inI hii)];exact hsi,by rw[dL (inI hit)];exact hst,hsx,?_,sD hT,txp _ _,λans ha H' l hl'=>?_⟩
 ·unfold LuSoundNeutral.bytes;rw[ai];omega
 ·rw[dH ha] at hl';exact .lst (SqL.of hl') (WF _)
theorem uI {lo hi x:Int} (h:kr lo hi x=true):lo<=x/\x<=hi:=by
 unfold kr at h;simpa using h
theorem gE {C:Prop} {K:aa} {mg:Str->Option ah} {q:bb} {fa:ag} (KX:K.In h) (TT:TopT q mg h) (hq:((recsOf q).any λd=>d.name==("notes_in_order":Str))=true) (hfa:mg "pure"=some (.ref fa)) (a:GFn K mg "pure" "pure" QI) (LN:Ex4 λf fd c PT=>LmF K mg f fd c PT) (F:TxF K mg) (G':TxG K mg) (R:∃C,TxR K mg C) (I:∃C,TxI K mg C) (L:∃C,TxL K mg C) (B_:∃C,TxB_ K mg C) (N:∃C,TxN K mg C)
 (XX:∃CT CR C1 C2 C3 C6 C8,TxX K mg CT CR C1 C2 C3 C6 C8)
 (k:∀(PT:ag) (fd:fv),(∀p∈[PT],K.lookup p=none/\∃c,h.TableAt c p #[])->(∀(s:ak) (us:List ah),us.length=(["ring","i","t","x"]:List Str).length->xw s fd ⟨us,[]⟩ ((["ring","i","t","x"]:List Str).zip us))->(∀base:cr,K.In base->base.Ns fh mg->N4 mg base->FnOk P w K mg base (CX1 P w) 16 fa fd ["ring","i","t","x"] (OB K PT dz0 fz0))->C):C:=by
 obtain⟨f,fd,hm,Ff⟩:=a;have e:=hfa.symm.trans hm;cases e;obtain⟨fN,fdN,cN,PT,LN⟩:=LN;obtain⟨_,R⟩:=R;obtain⟨_,I⟩:=I;obtain⟨_,L⟩:=L;obtain⟨_,B_⟩:=B_;obtain⟨_,N⟩:=N;obtain⟨_,_,_,_,_,_,_,XX⟩:=XX;refine k PT fd (λp hp=>?_) (λs us hu=>?_) λbase KB _ BB=>mL F G' R I L B_ N XX LN BB (xJ KB LN.h) Ff
 ·rw[fq.mp hp];exact⟨LN.n,l4 KX TT hq LN⟩
 ·obtain⟨oc,od,kV,doc,pm,an,Dk,ct,osl,rfl,lk,hcd⟩:=Ff.ex;match us,hu with
  |[_,_,_,_],_=>exact .of_eq rfl
end Lt
end
def PySem.W.Fast.tw6629323940725754177:Nat:=0
def PySem.W.Fast.tw5231640993404494032:Nat:=0
def PySem.W.Fast.tw12007753752793626493:Nat:=0
def PySem.W.Fast.tw17200266529159203009:Nat:=0
def PySem.W.Fast.tw13296875360274103423:Nat:=0
def PySem.W.Fast.tw5554309180547888324:Nat:=0
def PySem.W.Fast.tw14571040963380459522:Nat:=0
def PySem.W.Fast.tw14966321915830444448:Nat:=0
def PySem.W.Fast.tw9198567848725173430:Nat:=0
def PySem.W.Fast.tw13106937731607474083:Nat:=0
def PySem.W.Fast.tw5596470622045949201:Nat:=0
def PySem.W.Fast.tw12290689131801473905:Nat:=0
def PySem.W.Fast.tw17314030169549814801:Nat:=0
def PySem.W.Fast.tw1019581692341449935:Nat:=0
def PySem.W.Fast.tw13544825073049272161:Nat:=0
def PySem.W.Fast.tw2615232543556850324:Nat:=0
def PySem.W.Fast.tw13084522325987558662:Nat:=0
def PySem.W.Fast.tw15718689197579919554:Nat:=0
def PySem.W.Fast.tw5921118282855356495:Nat:=0
def PySem.W.Fast.tw1778693019386894915:Nat:=0
def PySem.W.Fast.tw12857373740747188270:Nat:=0
def PySem.W.Fast.tw4939838212879798000:Nat:=0
def PySem.W.Fast.tw1330422929259487405:Nat:=0
def PySem.W.Fast.tw17466434423983057985:Nat:=0
def PySem.W.Fast.tw7215199821996390917:Nat:=0
def PySem.W.Fast.tw303220356612119031:Nat:=0
def PySem.W.Fast.tw13489266904087514742:Nat:=0
def PySem.W.Fast.tw17364688939402426190:Nat:=0
def PySem.W.Fast.tw4993022961723888707:Nat:=0
def PySem.W.Fast.tw11196561682586125549:Nat:=0
def PySem.W.Fast.tw15936216538311570479:Nat:=0
def PySem.W.Fast.tw4677546956442720212:Nat:=0
def PySem.W.Fast.tw15872452155814859698:Nat:=0
def PySem.W.Fast.tw15726954968170774368:Nat:=0
def PySem.W.Fast.tw5584834989122974780:Nat:=0
def PySem.W.Fast.tw9974156814316258079:Nat:=0
def PySem.W.Fast.tw12137223162382640939:Nat:=0
def PySem.W.Fast.tw5190270839770659492:Nat:=0
def PySem.W.Fast.tw260114126938882158:Nat:=0
def PySem.W.Fast.tw11930512898568077535:Nat:=0
def PySem.W.Fast.tw7879988322296184409:Nat:=0
def PySem.W.Fast.tw4790931096164004480:Nat:=0
def PySem.W.Fast.tw15492191769693082013:Nat:=0
def PySem.W.Fast.tw16470898336635257360:Nat:=0
def PySem.W.Fast.tw3811584655678909549:Nat:=0
def PySem.W.Fast.tw4057537191046634095:Nat:=0
def PySem.W.Fast.tw13085043008401532339:Nat:=0
def PySem.W.Fast.tw5131303424537314601:Nat:=0
def PySem.W.Fast.tw3069744146429443969:Nat:=0
def PySem.W.Fast.tw1007087329875310705:Nat:=0
def PySem.W.Fast.tw546188332425047584:Nat:=0
def PySem.W.Fast.tw7567611510146269895:Nat:=0
def PySem.W.Fast.tw3207371415749659280:Nat:=0
def PySem.W.Fast.tw10562690369960583873:Nat:=0
def PySem.W.Fast.tw7130293615179385812:Nat:=0
def PySem.W.Fast.tw10025529894890908919:Nat:=0
def PySem.W.Fast.tw6351196770398854452:Nat:=0
def PySem.W.Fast.tw402084982721978074:Nat:=0
def PySem.W.Fast.tw12513427705046818383:Nat:=0
def PySem.W.Fast.tw10719683897326948540:Nat:=0
def PySem.W.Fast.tw14433084324087159088:Nat:=0
def PySem.W.Fast.tw9741036159630762780:Nat:=0
def PySem.W.Fast.tw6679395600982652033:Nat:=0
def PySem.W.Fast.tw5489450972365440137:Nat:=0
def PySem.W.Fast.tw3294157639733895149:Nat:=0
def PySem.W.Fast.tw1009715870854564374:Nat:=0
def PySem.W.Fast.tw9557093303426526529:Nat:=0
def PySem.W.Fast.tw10934762084389852539:Nat:=0
def PySem.W.Fast.tw2905738846873982833:Nat:=0
def PySem.W.Fast.tw17361720822524298450:Nat:=0
def PySem.W.Fast.tw11642697157544288182:Nat:=0
def PySem.W.Fast.tw10428053639499535830:Nat:=0
def PySem.W.Fast.tw12137472541650553080:Nat:=0
def PySem.W.Fast.tw13414347917592072941:Nat:=0
def PySem.W.Fast.tw13159486320032868674:Nat:=0
def PySem.W.Fast.tw7444221650154311010:Nat:=0
def PySem.W.Fast.tw12070143791062928097:Nat:=0
def PySem.W.Fast.tw3391391343220629029:Nat:=0
def PySem.W.Fast.tw6066601990595193253:Nat:=0
def PySem.W.Fast.tw4927834307944391124:Nat:=0
def PySem.W.Fast.tw17521001514001535938:Nat:=0
def PySem.W.Fast.tw16906080554198061001:Nat:=0
def PySem.W.Fast.tw17098192545867073748:Nat:=0
def PySem.W.Fast.tw16351704444598791043:Nat:=0
def PySem.W.Fast.tw8292279454376618767:Nat:=0
def PySem.W.Fast.tw938110773502554131:Nat:=0
def PySem.W.Fast.tw18159032088665854857:Nat:=0
def PySem.W.Fast.tw6204335278015706301:Nat:=0
def PySem.W.Fast.tw16798357271500119006:Nat:=0
def PySem.W.Fast.tw14369750159365830213:Nat:=0
def PySem.W.Fast.tw15160195216889877482:Nat:=0
def PySem.W.Fast.tw249728531309027048:Nat:=0
def PySem.W.Fast.tw13342767008439343318:Nat:=0
def PySem.W.Fast.tw12286727656533832558:Nat:=0
def PySem.W.Fast.tw16668285774828915034:Nat:=0
def PySem.W.Fast.tw7363497851335096384:Nat:=0
def PySem.W.Fast.tw5932237831145482464:Nat:=0
def PySem.W.Fast.tw1836747681546064667:Nat:=0
def PySem.W.Fast.tw5323858544618663302:Nat:=0
def PySem.W.Fast.tw5030612649563121507:Nat:=0
def PySem.W.Fast.tw285505059622590013:Nat:=0
def PySem.W.Fast.tw4030760956429392837:Nat:=0
def PySem.W.Fast.tw14814421728465785023:Nat:=0
def PySem.W.Fast.tw15720100149977248282:Nat:=0
def PySem.W.Fast.tw17471065717224945535:Nat:=0
def PySem.W.Fast.tw2239526197263686561:Nat:=0
def PySem.W.Fast.tw445970676631646256:Nat:=0
def PySem.W.Fast.tw10700884833849013991:Nat:=0
def PySem.W.Fast.tw17358529810476613265:Nat:=0
def PySem.W.Fast.tw9861761661711572214:Nat:=0
def PySem.W.Fast.tw5899934114759561376:Nat:=0
def PySem.W.Fast.tw452145134300273426:Nat:=0
def PySem.W.Fast.tw5303392310508027474:Nat:=0
def PySem.W.Fast.tw4075414806765640927:Nat:=0
def PySem.W.Fast.tw6485764133184039538:Nat:=0
def PySem.W.Fast.tw6377573414406462074:Nat:=0
def PySem.W.Fast.tw4382981851965890814:Nat:=0
def PySem.W.Fast.tw14988857152595581083:Nat:=0
def PySem.W.Fast.tw15583085851691341822:Nat:=0
def PySem.W.Fast.tw10912948290483164448:Nat:=0
def PySem.W.Fast.tw970113091003277011:Nat:=0
def PySem.W.Fast.tw356301344078634333:Nat:=0
def PySem.W.Fast.tw6660428500043430729:Nat:=0
def PySem.W.Fast.tw18164773247783849018:Nat:=0
def PySem.W.Fast.tw16874481508838270963:Nat:=0
def PySem.W.Fast.tw4266071083132112133:Nat:=0
def PySem.W.Fast.tw9716296324457680508:Nat:=0
def PySem.W.Fast.tw1823202232840582653:Nat:=0
def PySem.W.Fast.tw1037099584810676429:Nat:=0
def PySem.W.Fast.tw15631741445521741105:Nat:=0
def PySem.W.Fast.tw7079939834278165210:Nat:=0
def PySem.W.Fast.tw3111566641657383664:Nat:=0
def PySem.W.Fast.tw1776035723540005550:Nat:=0
def PySem.W.Fast.tw10367543356074883600:Nat:=0
def PySem.W.Fast.tw14374535999855587162:Nat:=0
def PySem.W.Fast.tw7355538608546044096:Nat:=0
def PySem.W.Fast.tw4492459228053913624:Nat:=0
def PySem.W.Fast.tw7982148638814491139:Nat:=0
def PySem.W.Fast.tw4630925136784373273:Nat:=0
def PySem.W.Fast.tw6212756512478970812:Nat:=0
def PySem.W.Fast.tw3089366268476231552:Nat:=0
def PySem.W.Fast.tw14430006292586609011:Nat:=0
def PySem.W.Fast.tw17916937666801284829:Nat:=0
def PySem.W.Fast.tw6058649237038600728:Nat:=0
def PySem.W.Fast.tw16747593569234780277:Nat:=0
def PySem.W.Fast.tw7368409756029416080:Nat:=0
def PySem.W.Fast.tw9860682749784381478:Nat:=0
def PySem.W.Fast.tw16797713773904773693:Nat:=0
def PySem.W.Fast.tw11312444190547231173:Nat:=0
def PySem.W.Fast.tw15477289799657818613:Nat:=0
def PySem.W.Fast.tw4074148742822564444:Nat:=0
def PySem.W.Fast.tw5222664380048810287:Nat:=0
def PySem.W.Fast.tw17117365548206742412:Nat:=0
def PySem.W.Fast.tw16179612767850704108:Nat:=0
def PySem.W.Fast.tw8607416999114456437:Nat:=0
def PySem.W.Fast.tw16090542147427869266:Nat:=0
def PySem.W.Fast.tw17231545575022164595:Nat:=0
def PySem.W.Fast.tw10532147850021819883:Nat:=0
def PySem.W.Fast.tw12301652249835637523:Nat:=0
def PySem.W.Fast.tw1098272769086089295:Nat:=0
def PySem.W.Fast.tw10573362210757356742:Nat:=0
def PySem.W.Fast.tw11493885019874586935:Nat:=0
def PySem.W.Fast.tw7980885818894885742:Nat:=0
def PySem.W.Fast.tw17684339969107429469:Nat:=0
def PySem.W.Fast.tw11086680404811822190:Nat:=0
def PySem.W.Fast.tw12525284924994619228:Nat:=0
def PySem.W.Fast.tw4275834114567251911:Nat:=0
def PySem.W.Fast.tw15600992685288096639:Nat:=0
def PySem.W.Fast.tw12777381138716928809:Nat:=0
def PySem.W.Fast.tw1217374918795063449:Nat:=0
def PySem.W.Fast.tw5632287732809883377:Nat:=0
def PySem.W.Fast.tw13646290166567762602:Nat:=0
def PySem.W.Fast.tw9362337923186727363:Nat:=0
def PySem.W.Fast.tw16427868366722582042:Nat:=0
def PySem.W.Fast.tw13620082993403921067:Nat:=0
def PySem.W.Fast.tw14841958854896358548:Nat:=0
def PySem.W.Fast.tw4733199614464512255:Nat:=0
def PySem.W.Fast.tw2712706945635098951:Nat:=0
def PySem.W.Fast.tw5701799668165631695:Nat:=0
def PySem.W.Fast.tw9796465373149673483:Nat:=0
def PySem.W.Fast.tw12004070394442875967:Nat:=0
def PySem.W.Fast.tw18258499187774540105:Nat:=0
def PySem.W.Fast.tw8991709499006592359:Nat:=0
def PySem.W.Fast.tw13148600425962973206:Nat:=0
def PySem.W.Fast.tw9523046629983133082:Nat:=0
def PySem.W.Fast.tw2319001910211795615:Nat:=0
def PySem.W.Fast.tw5620790395463039167:Nat:=0
def PySem.W.Fast.tw6705369604231918342:Nat:=0
def PySem.W.Fast.tw3705494829936392375:Nat:=0
def PySem.W.Fast.tw10244221091135419721:Nat:=0
def PySem.W.Fast.tw14488222829686222753:Nat:=0
def PySem.W.Fast.tw9308477542597846642:Nat:=0
def PySem.W.Fast.tw16906873659740731110:Nat:=0
def PySem.W.Fast.tw17871715560674905674:Nat:=0
def PySem.W.Fast.tw15482344032669684897:Nat:=0
def PySem.W.Fast.tw5116362662247663479:Nat:=0
def PySem.W.Fast.tw10102905130075129110:Nat:=0
def PySem.W.Fast.tw7433357666222868908:Nat:=0
def PySem.W.Fast.tw4351809592376717398:Nat:=0
def PySem.W.Fast.tw5033875504419062223:Nat:=0
def PySem.W.Fast.tw13598569213817642348:Nat:=0
def PySem.W.Fast.tw2613082402917800558:Nat:=0
def PySem.W.Fast.tw11789753188987384837:Nat:=0
def PySem.W.Fast.tw9267288684095176013:Nat:=0
def PySem.W.Fast.tw17388993627422917621:Nat:=0
def PySem.W.Fast.tw8773273907101539784:Nat:=0
def PySem.W.Fast.tw8522120748125313206:Nat:=0
def PySem.W.Fast.tw9183616383001688983:Nat:=0
def PySem.W.Fast.tw18079792907106777042:Nat:=0
def PySem.W.Fast.tw787304596275842974:Nat:=0
def PySem.W.Fast.tw6934144657033502245:Nat:=0
def PySem.W.Fast.tw8386960973157841282:Nat:=0
def PySem.W.Fast.tw12218987993437891227:Nat:=0
def PySem.W.Fast.tw5509513045584503728:Nat:=0
def PySem.W.Fast.tw6501874217830385131:Nat:=0
def PySem.W.Fast.tw12503807009418548547:Nat:=0
def PySem.W.Fast.tw5635697913953193151:Nat:=0
def PySem.W.Fast.tw2718144800043238004:Nat:=0
def PySem.W.Fast.tw12561422233174045629:Nat:=0
def PySem.W.Fast.tw6870467649010097902:Nat:=0
def PySem.W.Fast.tw2812356469017483927:Nat:=0
def PySem.W.Fast.tw16417670115082463170:Nat:=0
def PySem.W.Fast.tw17879297718340113734:Nat:=0
def PySem.W.Fast.tw836823333877953864:Nat:=0
def PySem.W.Fast.tw4028284533863404115:Nat:=0
def PySem.W.Fast.tw16891705396194366549:Nat:=0
open PySem PySem.W PyProof.Rows
set_option maxRecDepth 100000 in
set_option maxHeartbeats 0 in
theorem PySem.Challenge.cw_lutesounds_s04_pure_holds : PySem.Challenge.rw_lutesounds_s04_pure.Holds := by
 w_on;k_headS;(case hw=>exact⟨[.int 0,.list [],.list [],.list []],by decide +kernel,by decide +kernel⟩)
 k_fillS
 refine Lt.S9 (r:=PySem.Challenge.rw_lutesounds_s04_pure) (k:=16) (ps:=["ring","i","t","x"]) (sp:=λK T=>Lt.OB K (T.headD 0) Lt.dz0 Lt.fz0) (by decide +kernel) rfl rfl ⟨rfl,by decide,by decide⟩ (λw h Y=>PySem.W.kIn_of Y) ?F
 case F=>
  intro w mg fa h Y KX G TT hmg;refine' Lt.gE KX TT ?zq hmg ?za ?zLN ?zF ?zG ?zR ?zI ?zL ?zB_ ?zN ?zX ?zk
  case zq=>decide +kernel
  case zLN=>(refine' Lt.l3 KX G ?lmf_a ?lmf_l ?lmf_c ?lmf_k ?lmf_o ?lmf_v ?lmf_n ?lmf_h;(case lmf_a=>k_is);(case lmf_l=>k_is);(case lmf_c=>k_is);(case lmf_k=>k_is);(case lmf_o=>k_is);(case lmf_v=>rfl);(case lmf_n=>first|kernel_rfl!|rfl|decide +kernel);(case lmf_h=>first|kernel_rfl!|rfl|decide +kernel))
  case za=>(refine' Lt.dJ KX G ?gfn_a ?gfn_l ?gfn_c ?gfn_k;(case gfn_a=>k_is);(case gfn_l=>k_is);(case gfn_c=>k_is);(case gfn_k=>k_is))
  case zF=>
   constructor;iterate 52
    ·(refine' Lt.dJ KX G ?gfn_a ?gfn_l ?gfn_c ?gfn_k;(case gfn_a=>k_is);(case gfn_l=>k_is);(case gfn_c=>k_is);(case gfn_k=>k_is))
  case zG=>
   constructor
   ·constructor<;>(refine' vD KX G ?no_a;(case no_a=>k_is))
   ·(refine' vD KX G ?no_a;(case no_a=>k_is))
   ·(refine' vD KX G ?no_a;(case no_a=>k_is))
   iterate 21
    ·(refine' Lt.sW KX G ?gi_a;(case gi_a=>k_is))
   iterate 9
    ·(refine' Lt.sX KX G ?gs_a;(case gs_a=>k_is))
   iterate 4
    ·(refine' Lt.sY KX G ?gt_a ?gt_l ?gt_z ?gt_r;(case gt_a=>k_is);(case gt_l=>k_is);(case gt_z=>decide);(case gt_r=>repeat (first|exact Paired.nil|refine Paired.cons ⟨_,rfl⟩ ?_)))
  case zR=>
   refine' ⟨_,Lt.TxR.mk ?m ?T ?i ?e0 ?e1 ?e2 ?e3 ?e4 ?e5⟩
   case m=>(refine' gc KX G ?mg_a;(case mg_a=>k_is))
   case T=>(refine' Lt.RdC.mk ?a ?n0 ?n1 ?n2;(case a=>(refine' L2.Cls.mk ?cls_a ?cls_b ?cls_c ?cls_d;(case cls_a=>k_is);(case cls_b=>k_is);(case cls_c=>k_is);(case cls_d=>k_is)));(case n0=>(unfold L2.NoAttr;k_is));(case n1=>(unfold L2.NoAttr;k_is));(case n2=>(unfold L2.NoAttr;k_is)))
   case i=>(refine' Lt.OE ?gmk_m ?gmk_kc ?gmk_a ?gmk_i ?gmk_l ?gmk_c ?gmk_k;(case gmk_m=>k_is);(case gmk_kc=>k_is);(case gmk_a=>k_is);(case gmk_i=>k_is);(case gmk_l=>k_is);(case gmk_c=>k_is);(case gmk_k=>k_is))
   case e0=>(refine' Lt.FM ?gmt_a ?gmt_i ?gmt_l ?gmt_c ?gmt_k;(case gmt_a=>k_is);(case gmt_i=>k_is);(case gmt_l=>k_is);(case gmt_c=>k_is);(case gmt_k=>k_is))
   case e1=>(refine' Lt.FM ?gmt_a ?gmt_i ?gmt_l ?gmt_c ?gmt_k;(case gmt_a=>k_is);(case gmt_i=>k_is);(case gmt_l=>k_is);(case gmt_c=>k_is);(case gmt_k=>k_is))
   case e2=>(refine' Lt.FM ?gmt_a ?gmt_i ?gmt_l ?gmt_c ?gmt_k;(case gmt_a=>k_is);(case gmt_i=>k_is);(case gmt_l=>k_is);(case gmt_c=>k_is);(case gmt_k=>k_is))
   case e3=>(refine' Lt.FM ?gmt_a ?gmt_i ?gmt_l ?gmt_c ?gmt_k;(case gmt_a=>k_is);(case gmt_i=>k_is);(case gmt_l=>k_is);(case gmt_c=>k_is);(case gmt_k=>k_is))
   case e4=>(refine' Lt.FM ?gmt_a ?gmt_i ?gmt_l ?gmt_c ?gmt_k;(case gmt_a=>k_is);(case gmt_i=>k_is);(case gmt_l=>k_is);(case gmt_c=>k_is);(case gmt_k=>k_is))
   case e5=>(refine' Lt.FM ?gmt_a ?gmt_i ?gmt_l ?gmt_c ?gmt_k;(case gmt_a=>k_is);(case gmt_i=>k_is);(case gmt_l=>k_is);(case gmt_c=>k_is);(case gmt_k=>k_is))
  case zI=>
   refine' ⟨_,Lt.TxI.mk ?m ?T ?i ?e0 ?e1 ?e2⟩
   case m=>(refine' gc KX G ?mg_a;(case mg_a=>k_is))
   case T=>(refine' Lt.InC.mk ?a ?n0 ?n1 ?n2;(case a=>(refine' L2.Cls.mk ?cls_a ?cls_b ?cls_c ?cls_d;(case cls_a=>k_is);(case cls_b=>k_is);(case cls_c=>k_is);(case cls_d=>k_is)));(case n0=>(unfold L2.NoAttr;k_is));(case n1=>(unfold L2.NoAttr;k_is));(case n2=>(unfold L2.NoAttr;k_is)))
   case i=>(refine' Lt.OE ?gmk_m ?gmk_kc ?gmk_a ?gmk_i ?gmk_l ?gmk_c ?gmk_k;(case gmk_m=>k_is);(case gmk_kc=>k_is);(case gmk_a=>k_is);(case gmk_i=>k_is);(case gmk_l=>k_is);(case gmk_c=>k_is);(case gmk_k=>k_is))
   case e0=>(refine' Lt.FM ?gmt_a ?gmt_i ?gmt_l ?gmt_c ?gmt_k;(case gmt_a=>k_is);(case gmt_i=>k_is);(case gmt_l=>k_is);(case gmt_c=>k_is);(case gmt_k=>k_is))
   case e1=>(refine' Lt.FM ?gmt_a ?gmt_i ?gmt_l ?gmt_c ?gmt_k;(case gmt_a=>k_is);(case gmt_i=>k_is);(case gmt_l=>k_is);(case gmt_c=>k_is);(case gmt_k=>k_is))
   case e2=>(refine' Lt.FM ?gmt_a ?gmt_i ?gmt_l ?gmt_c ?gmt_k;(case gmt_a=>k_is);(case gmt_i=>k_is);(case gmt_l=>k_is);(case gmt_c=>k_is);(case gmt_k=>k_is))
  case zL=>
   refine' ⟨_,Lt.TxL.mk ?m ?T ?i ?e0 ?e1⟩
   case m=>(refine' gc KX G ?mg_a;(case mg_a=>k_is))
   case T=>(refine' Lt.LnC.mk ?a ?n0 ?n1;(case a=>(refine' L2.Cls.mk ?cls_a ?cls_b ?cls_c ?cls_d;(case cls_a=>k_is);(case cls_b=>k_is);(case cls_c=>k_is);(case cls_d=>k_is)));(case n0=>(unfold L2.NoAttr;k_is));(case n1=>(unfold L2.NoAttr;k_is)))
   case i=>(refine' Lt.OE ?gmk_m ?gmk_kc ?gmk_a ?gmk_i ?gmk_l ?gmk_c ?gmk_k;(case gmk_m=>k_is);(case gmk_kc=>k_is);(case gmk_a=>k_is);(case gmk_i=>k_is);(case gmk_l=>k_is);(case gmk_c=>k_is);(case gmk_k=>k_is))
   case e0=>(refine' Lt.FM ?gmt_a ?gmt_i ?gmt_l ?gmt_c ?gmt_k;(case gmt_a=>k_is);(case gmt_i=>k_is);(case gmt_l=>k_is);(case gmt_c=>k_is);(case gmt_k=>k_is))
   case e1=>(refine' Lt.FM ?gmt_a ?gmt_i ?gmt_l ?gmt_c ?gmt_k;(case gmt_a=>k_is);(case gmt_i=>k_is);(case gmt_l=>k_is);(case gmt_c=>k_is);(case gmt_k=>k_is))
  case zB_=>
   refine' ⟨_,Lt.TxB_.mk ?m ?T ?i⟩
   case m=>(refine' gc KX G ?mg_a;(case mg_a=>k_is))
   case T=>(refine' Lt.TbC.mk ?a ?n0 ?n1;(case a=>(refine' L2.Cls.mk ?cls_a ?cls_b ?cls_c ?cls_d;(case cls_a=>k_is);(case cls_b=>k_is);(case cls_c=>k_is);(case cls_d=>k_is)));(case n0=>(unfold L2.NoAttr;k_is));(case n1=>(unfold L2.NoAttr;k_is)))
   case i=>(refine' Lt.OE ?gmk_m ?gmk_kc ?gmk_a ?gmk_i ?gmk_l ?gmk_c ?gmk_k;(case gmk_m=>k_is);(case gmk_kc=>k_is);(case gmk_a=>k_is);(case gmk_i=>k_is);(case gmk_l=>k_is);(case gmk_c=>k_is);(case gmk_k=>k_is))
  case zN=>
   refine' ⟨_,Lt.TxN.mk ?m ?T ?i⟩
   case m=>(refine' gc KX G ?mg_a;(case mg_a=>k_is))
   case T=>(refine' Lt.NtC.mk ?a ?n0 ?n1 ?n2 ?n3 ?n4 ?n5;(case a=>(refine' L2.Cls.mk ?cls_a ?cls_b ?cls_c ?cls_d;(case cls_a=>k_is);(case cls_b=>k_is);(case cls_c=>k_is);(case cls_d=>k_is)));(case n0=>(unfold L2.NoAttr;k_is));(case n1=>(unfold L2.NoAttr;k_is));(case n2=>(unfold L2.NoAttr;k_is));(case n3=>(unfold L2.NoAttr;k_is));(case n4=>(unfold L2.NoAttr;k_is));(case n5=>(unfold L2.NoAttr;k_is)))
   case i=>(refine' Lt.OE ?gmk_m ?gmk_kc ?gmk_a ?gmk_i ?gmk_l ?gmk_c ?gmk_k;(case gmk_m=>k_is);(case gmk_kc=>k_is);(case gmk_a=>k_is);(case gmk_i=>k_is);(case gmk_l=>k_is);(case gmk_c=>k_is);(case gmk_k=>k_is))
  case zX=>
   refine' ⟨_,_,_,_,_,_,_,Lt.TxX.mk ?mT ?mR ?xT ?aT ?eT ?iT ?r1 ?r2 ?r3 ?r6 ?r8 ?lm ?cm ?sp ?rd ?fc⟩
   case mT=>(refine' gc KX G ?mg_a;(case mg_a=>k_is))
   case mR=>(refine' gc KX G ?mg_a;(case mg_a=>k_is))
   case xT=>(refine' L2.XCls.mk ?xcls_a ?xcls_b ?xcls_c ?xcls_d ?xcls_e ?xcls_f;(case xcls_a=>kernel_rfl!);(case xcls_b=>k_is);(case xcls_c=>k_is);(case xcls_d=>k_is);(case xcls_e=>k_is);(case xcls_f=>k_is))
   case aT=>(unfold L2.NoAttr;k_is)
   case eT=>kernel_rfl!
   case iT=>(refine' Lt.LA ?gxk_m ?gxk_kc ?gxk_a ?gxk_i ?gxk_l ?gxk_c ?gxk_k;(case gxk_m=>kernel_rfl!);(case gxk_kc=>k_is);(case gxk_a=>k_is);(case gxk_i=>k_is);(case gxk_l=>k_is);(case gxk_c=>k_is);(case gxk_k=>k_is))
   case r1=>(refine' Lt.Rf1.mk ?rf1_m ?rf1_r ?rf1_x ?rf1_a ?rf1_i;(case rf1_m=>(refine' gc KX G ?mg_a;(case mg_a=>k_is)));(case rf1_r=>kernel_rfl!);(case rf1_x=>(refine' L2.XCls.mk ?xcls_a ?xcls_b ?xcls_c ?xcls_d ?xcls_e ?xcls_f;(case xcls_a=>kernel_rfl!);(case xcls_b=>k_is);(case xcls_c=>k_is);(case xcls_d=>k_is);(case xcls_e=>k_is);(case xcls_f=>k_is)));(case rf1_a=>(unfold L2.NoAttr;k_is));(case rf1_i=>(refine' Lt.LA ?gxk_m ?gxk_kc ?gxk_a ?gxk_i ?gxk_l ?gxk_c ?gxk_k;(case gxk_m=>kernel_rfl!);(case gxk_kc=>k_is);(case gxk_a=>k_is);(case gxk_i=>k_is);(case gxk_l=>k_is);(case gxk_c=>k_is);(case gxk_k=>k_is))))
   case r2=>(refine' Lt.Rf1.mk ?rf1_m ?rf1_r ?rf1_x ?rf1_a ?rf1_i;(case rf1_m=>(refine' gc KX G ?mg_a;(case mg_a=>k_is)));(case rf1_r=>kernel_rfl!);(case rf1_x=>(refine' L2.XCls.mk ?xcls_a ?xcls_b ?xcls_c ?xcls_d ?xcls_e ?xcls_f;(case xcls_a=>kernel_rfl!);(case xcls_b=>k_is);(case xcls_c=>k_is);(case xcls_d=>k_is);(case xcls_e=>k_is);(case xcls_f=>k_is)));(case rf1_a=>(unfold L2.NoAttr;k_is));(case rf1_i=>(refine' Lt.LA ?gxk_m ?gxk_kc ?gxk_a ?gxk_i ?gxk_l ?gxk_c ?gxk_k;(case gxk_m=>kernel_rfl!);(case gxk_kc=>k_is);(case gxk_a=>k_is);(case gxk_i=>k_is);(case gxk_l=>k_is);(case gxk_c=>k_is);(case gxk_k=>k_is))))
   case r3=>(refine' Lt.Rf1.mk ?rf1_m ?rf1_r ?rf1_x ?rf1_a ?rf1_i;(case rf1_m=>(refine' gc KX G ?mg_a;(case mg_a=>k_is)));(case rf1_r=>kernel_rfl!);(case rf1_x=>(refine' L2.XCls.mk ?xcls_a ?xcls_b ?xcls_c ?xcls_d ?xcls_e ?xcls_f;(case xcls_a=>kernel_rfl!);(case xcls_b=>k_is);(case xcls_c=>k_is);(case xcls_d=>k_is);(case xcls_e=>k_is);(case xcls_f=>k_is)));(case rf1_a=>(unfold L2.NoAttr;k_is));(case rf1_i=>(refine' Lt.LA ?gxk_m ?gxk_kc ?gxk_a ?gxk_i ?gxk_l ?gxk_c ?gxk_k;(case gxk_m=>kernel_rfl!);(case gxk_kc=>k_is);(case gxk_a=>k_is);(case gxk_i=>k_is);(case gxk_l=>k_is);(case gxk_c=>k_is);(case gxk_k=>k_is))))
   case r6=>(refine' Lt.Rf1.mk ?rf1_m ?rf1_r ?rf1_x ?rf1_a ?rf1_i;(case rf1_m=>(refine' gc KX G ?mg_a;(case mg_a=>k_is)));(case rf1_r=>kernel_rfl!);(case rf1_x=>(refine' L2.XCls.mk ?xcls_a ?xcls_b ?xcls_c ?xcls_d ?xcls_e ?xcls_f;(case xcls_a=>kernel_rfl!);(case xcls_b=>k_is);(case xcls_c=>k_is);(case xcls_d=>k_is);(case xcls_e=>k_is);(case xcls_f=>k_is)));(case rf1_a=>(unfold L2.NoAttr;k_is));(case rf1_i=>(refine' Lt.LA ?gxk_m ?gxk_kc ?gxk_a ?gxk_i ?gxk_l ?gxk_c ?gxk_k;(case gxk_m=>kernel_rfl!);(case gxk_kc=>k_is);(case gxk_a=>k_is);(case gxk_i=>k_is);(case gxk_l=>k_is);(case gxk_c=>k_is);(case gxk_k=>k_is))))
   case r8=>(refine' Lt.Rf1.mk ?rf1_m ?rf1_r ?rf1_x ?rf1_a ?rf1_i;(case rf1_m=>(refine' gc KX G ?mg_a;(case mg_a=>k_is)));(case rf1_r=>kernel_rfl!);(case rf1_x=>(refine' L2.XCls.mk ?xcls_a ?xcls_b ?xcls_c ?xcls_d ?xcls_e ?xcls_f;(case xcls_a=>kernel_rfl!);(case xcls_b=>k_is);(case xcls_c=>k_is);(case xcls_d=>k_is);(case xcls_e=>k_is);(case xcls_f=>k_is)));(case rf1_a=>(unfold L2.NoAttr;k_is));(case rf1_i=>(refine' Lt.LA ?gxk_m ?gxk_kc ?gxk_a ?gxk_i ?gxk_l ?gxk_c ?gxk_k;(case gxk_m=>kernel_rfl!);(case gxk_kc=>k_is);(case gxk_a=>k_is);(case gxk_i=>k_is);(case gxk_l=>k_is);(case gxk_c=>k_is);(case gxk_k=>k_is))))
   case lm=>(unfold L2.NoAttr;k_is)
   case cm=>(unfold L2.NoAttr;k_is)
   case sp=>k_is
   case rd=>k_is
   case fc=>(refine' Lt.mM ?gfc_a ?gfc_l ?gfc_c ?gfc_k;(case gfc_a=>k_is);(case gfc_l=>k_is);(case gfc_c=>k_is);(case gfc_k=>k_is))
  case zk=>
   intro PT fd h1 h2 h3;refine⟨[PT],fd,h1,h2,h3,?_⟩;intro H xs a hO hT hwi hask hx;cases hx with
   |cons g0 r0=>
    cases r0 with
    |cons g1 r1=>
     cases r1 with
     |cons g2 r2=>
      cases r2 with
      |cons g3 r3=>
       cases r3;cases g0;cases g1 with
       |lst hsi hai=>
        cases g2 with
        |lst hst hat=>
         cases g3 with
         |lst hsx hax=>
          have e1:=L2.MM a.2.1 _ hai;subst e1;have e2:=L2.MM a.2.2.1 _ hat;subst e2;have e3:=L2.MM a.2.2.2.1 _ hax;subst e3;have q:(kr 0 2147483647 a.1&&((y6 0 4200 a.2.1&&a.2.1.all (kr 0 255))&&((y6 0 66000 a.2.2.1&&a.2.2.1.all (kr 0 255))&&((y6 0 8 a.2.2.2.1&&a.2.2.2.1.all (kr (-2147483648) 2147483647))&&true))))=true:=hwi;simp only[iz,Bc] at q;exact Lt.sZ (hT _ bc) hsi hst hsx (Lt.uI q.1).1 q.2.1.2 q.2.2.1.2 (Codec.inNat_iff.mp q.2.2.1.1).2
#print axioms PySem.Challenge.cw_lutesounds_s04_pure_holds
