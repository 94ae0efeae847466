import PyProof.Rows.All
import PyWqataf
import Wide.All
import OpenK.AllK
import Wide.FinOn
import PyProof.EqAt
import PyProof.EqKinds
import PyProof.TupleCall
import KE.BitLaws
import KE.IntBitsLaws
import PySem.Challenge.RW_passpatterns_s01_answers
import KE.KLam
import KE.KSortKeySt
import PyProof.ListRange
import PyProof.Rows.CallKwBuiltin
import PyProof.Rows.SetFrom
import KE.KRevIter
import KE.KDictList
import PyProof.Rows.SortShellAny
import Open.SpecLaws
import KE.OsGo
import KE.SpHead
import KE.OsHead
import KE.OsShapes
import KE.KNestM
set_option Elab.async false
set_option linter.all false
set_option maxRecDepth 100000
set_option maxHeartbeats 0
open PySem renaming Addr->aa,Value->ae,Shared->aj,wpAny_bind->ay,wpAny->az,model->aB,Heap->aC,Stmt->aH,Expr->aJ,World->aN,Program->aO,wpAny_pure->aU,sizeLine->aY,eval->bw,Paired->bH,Around->bJ,starEach->bN,SetTable->bV,rawInt->cb,Scope->cR,backTo->dX,cellsFrom->dY,compEnvC->fF,compareOp->fG,NameKind->gg,cLine->gn,codeAny->gW,wpAny_mono->iq,mem_of_lookup->iC,mainGlobals->iL,PyData->jz,pyNext->jO,BoolOp->kI,FuncData->kL,scanBound->lH,sysModules->lK,pushCells->mJ,wpAny_newObj_type->mM,binaryOp->nz,swapsWith->nU,wpAny_Call_Name_kw->nY,backToKw->oZ,codeAny_builtin->pj,keywordEach->pE,notedBy->pJ,pickOrder->pQ,plainId_quiet->pR,wpAny_of_eq->pZ,wpAny_setField->qa,wpAny_setState_of->qb,Arguments->qe,assignEach->qV,bootBuiltins->qX,builtinsNs->qY,codeAny_mono->qZ,compPost->rf,getMethod->rm,sizeLine_eq->rS,sliceBounds->rT,wpAny_call_entry->rZ,wpAny_holding->sg,wpAny_passesOwn->si,attributeBase->tj,foldedSetIterable->tO,noteFrame->ud,tupleKind->uR,wpAny_askSetting->uS,wpAny_rule->uT,wpAny_truthy_bool->uU,intBits_le_iff->vQ,behindInMarks->wj,pushCells_keeps->xy,tupleKind_room_in1->ya,wpAny_Name->yg,wpAny_call->yh,wpAny_execs_nil->yi,wpAny_setEntries_of->yj,Within->zq,boot_len->zr,comprehension->zV,firstArgMember->Ab,letOwnedTupleGo->As,recursionLimit->BP,subscripted->Co,wpAny_attempt->CL,wpAny_callSpecial?_slot->CM,wpAny_field->CN,wpAny_fieldsOf->CO,wpAny_ite_split->CP,wpAny_updateSeq->CQ,isSubtype_type->Gb,wpAny_assign_Name->Lp,wpAny_isInstance->Lq,wpAny_loadName_local->Lr,wpAny_pyIter_list->Lu,wpAny_runValue->Lv,builtinLookup_eq_fast->MX,codeAny_compStart_list->Nm,exec_Assign_Name_used->Ob,wpAny_comprehension_free->WN,wpAny_isTrue_Compare1->WO,wpAny_loadName_cell->WQ,wpAny_loadName_free->WR
open Pg renaming Bytes->ag,textOf->aD,splitOn->aG,Atom->bc,Path->bj,PList->bD,partBy->cS,Rule->cX,rulesOf->du,lineOf->dB,segsOf->dI,beginning->fb,slimSeg->fg,decider->fH,unseen->fY,partOk->gx,matchesPath->gK,pathOf->gO,allFurther->gV,segOf->hX,isFault->ij,askable->jb,byText->je,onByte->jh,stretches->jS,further->kn,ruleFits->kA,onSlash->mE,becomes->ni,allFitting->oW,faultIn->pA,overParts->pO,partEnds->rK,becomesFrom->wg
open PySem.W renaming Frag->aw,hideAll->gJ,findIn->jA,fnOf->kf,keepIn->kg,hideAll_none->lx,emptyDict->nk,instObj->oO,of_hideAll->pK,funFrames_hide->rj,codeIn->sU,tabObj->sV,hideAll_get->tR,isFn->vO,plainGet->vP,callWith_K->zl,hasDictIn->zm,lookIn->zo,mg_of->zp,callWith_K0->DM,kla_obj->DN,makesIn->DO,methodCall_KW->DP,methodObj->DQ,plainGet_of->DR,takerIn->DS,cellsFrom_some->Mt
open List renaming length_map->aE,getElem?_eq_some_iff->aK,mem_cons->bg,length_append->bt,length_cons->bG,getElem?_eq_getElem->bL,mem_map->bP,mem_cons_of_mem->bU,mem_append->cj,take_length->cq,map_append->cv,append_nil->cC,mem_singleton->cD,getElem?_map->cH,length_drop->cI,length_take->cP,map_cons->cV,append_assoc->dk,mem_append_left->dn,mem_of_getElem?->dq,mem_append_right->dC,mem_cons_self->dD,length_singleton->dJ,length->dS,range->dU,mem_flatMap->eN,take_zero->eO,size_toArray->eY,length_pos_iff->fC,drop_drop->fO,map_map->gB,getElem?_eq_none->gT,getElem_of_mem->iV,length_range->iW,not_mem_nil->iX,sum_cons->iY,all_eq_true->ju,getElem?_append_left->jv,nodup_cons->jw,drop_of_length_le->jZ,take_of_length_le->ka,filter_cons->kO,mem_filterMap->kP,pairwise_map->kQ,drop_eq_nil_of_le->lT,mem_range->lU,pairwise_cons->lV,length_eq_zero_iff->mV,nil_append->mW,any_eq_true->ow,cons_append->oy,filter_nil->oz,getElem?_append_right->oA,length_filter_le->oB,lookup->oC,take_append_drop->oE,any_cons->qr,filter_append->qt,getElem?_cons_succ->qu,getElem?_set_ne->qv,lookup_cons->qw,mem_filter->qx,contains_eq_mem->sC,drop_zero->sD,filterMap_cons->sE,find?_cons->sF,getElem?_set_self->sG,map_nil->sH,all_cons->vh,any_eq_false->vi,any_map->vj,getElem?_drop->vk,length_nil->vm,length_reverse->vo,map_congr_left->vp,map_take->vq,pairwise_lt_range->vt,set_set->vv,drop_left->yK,eq_nil_or_concat->yL,getD_eq_getElem?_getD->yM,getElem?_range->yN,getElem_mem->yO,isEmpty_eq_false_iff->yP,map_drop->yQ,mem_flatten->yR,nodup_append->yS,nodup_nil->yT,pairwise_iff_getElem->yU,take_left->yV,append_cancel_left->Dl,append_eq_nil_iff->Dm,append_inj'->Dn,drop_eq_getElem_cons->Do,ext_getElem?->Dq,findIdx?_eq_some_iff_getElem->Dr,foldl_cons->Ds,getElem?_eq_none_iff->Dt,length_eraseIdx_of_lt->Du,mem_of_find?_eq_some->Dv,of_mem_zip->Dw,range_succ_eq_map->Dx,take_append->Dy,take_take->Dz,concat_eq_append->LN,drop_append_of_le_length->LO,findIdx?_eq_none_iff->LP,getElem?_take_of_lt->LQ,getElem?_toArray->LR,head?_eq_getElem?->LS,length_dropLast->LU,length_replicate->LV,mem_iff_getElem?->LW,pairwise_append->LX,pairwise_flatMap->LY,pairwise_of_forall_mem_list->LZ,replicate_succ->Ma,sublist_cons_self->Mb
open Nat renaming le_refl->aF,zero_le->bC,ne_of_lt->cJ,lt_of_lt_of_le->cW,le_trans->dW,lt_irrefl->ic,le_of_lt->jx,pow_le_pow_right->kd,min_eq_left->lW,testBit_and->lX,lt_succ_of_lt->mY,add_mul->oF,pow_lt_pow_right->oG,testBit_two_pow->oH,lt_trans->qA,mul_le_mul->qB,ne_of_gt->qC,sub_self->qD,le_of_eq->sM,le_succ->sN,zero_add->sO,lt_of_le_of_lt->vy,lt_succ_self->vz,mod_eq_of_lt->vA,mul_le_mul_right->vB,one_mul->vC,testBit_lt_two_pow->vD,add_sub_cancel->yY,le_of_succ_le->yZ,lt_pow_two_of_testBit->zb,testBit_or->zc,testBit_xor->zd,add_sub_cancel_left->DA,min_eq_right->DB,shiftLeft_eq->DC,zero_testBit->DD,eq_of_testBit_eq->Me,exists_testBit_of_ne_zero->Mf,testBit_two_pow_mul_add->Mg,testBit_two_pow_sub_one->Mh
open Bool renaming false_eq_true->aV,and_eq_true->cA,not_false->eD,not_true->eX,false_ne_true->fz,eq_iff_iff->mS,false_xor->qh,or_eq_true->qi,true_xor->qj,false_and->uX,not_eq_true'->uY,true_and->yq,noConfusion->CU
open Ne renaming symm->bq
open PySem.Heap renaming lt_size->bO,get?_push_of_some->bS,get?_push_size->dz,size_push->fL,get?_update_other->kM,SameBut->lP,get?_update_self->lQ,get?_none_of_le->LM
open Sum renaming inl->bW,inr->oR
open PySem.Value renaming ref->cK,none->iG,int->km,type->nr,bool->oV,isInt_shape->Ec
open Wqataf renaming says->de,BAD->gU,patternOf->lg,told->lh,addOf->mj,tells->nu,fitsIn->qQ,rulesIn->qR,step->qS,Ans->vX,flags->vY,State->Mv
open Option.some renaming inj->eE
open PySem.F renaming plainAttrs_list->eQ,slot_list_append->gh,type_list_append->gi,called_set->ot,plain_extend_loop->yy,plain_list_iadd->yz,slot_list_extend->zj,type_list_extend->zk,slot_dict_get->DL,entry_proto_collect->LG,plain_proto_collect->LJ,args_dict_get_2->Mo,entry_dict_get->Mp,plainAttrs_int->Mq,slot_int_bit_length->Mr,type_int_bit_length->Ms
open PySem.PassesOwn renaming never->eZ,leaving->DK
open Iff renaming rfl->fk
open Int renaming toNat_natCast->fm,toNat->fM,reduceEq->qm,natAbs_natCast->yD,toNat_of_nonneg->yE,natCast_inj->Di,natCast_pow->Dj
open False renaming elim->fK
open PySem.SeqAt renaming EqAt->fR,shaped->sW
open Array renaming length_toList->gc,getElem?_toList->ir,getElem?_eq_getElem->iQ,getD_eq_getD_getElem?->nZ,getElem?_eq_none->yn,getElem?_eq_some_iff->yo
open WqatafNeutral renaming step->gm,natural->jC,asked1->zy,nat->zz,start->Ee,asked->Mw,bytes->Mx
open PyProof.Rows renaming firstMet->gH,envOfC->iJ,IntsAre->jt,AllBare->mQ,callWith_type1->zg,firstMet->zh,firstMet_succ->Ac,IntsAre->Mm,callWith_builtin1->Mn,subscriptTail_builtinR->Wk
open PySem.SetTable renaming below->iD,grown->qN
open Int.ofNat renaming inj->iT
open PySem.Paired renaming snoc->iZ
open PySem.Obj renaming data_mapFields->ke,mapSeq->sP,isFreed_of_fields->vE,mapFields->vF,putSet->vG,cls_mapFields->DF
open UInt8 renaming ofNat->kl,le_iff_toNat_le->sY,lt_irrefl->sZ,toNat_ofNat'->vW,lt_trans->Ea,toNat_ofNat_of_lt'->Eb
open Option renaming map_some->kT,isSome_some->mZ,isSome_none->qF,map_eq_some_iff->vH,getD_none->DG,isSome_iff_exists->DH,isSome_map->DI,isNone_iff_eq_none->Mi,some->Mj
open Or renaming inr->kU
open PySem.Str renaming ofString->kX
open True renaming intro->kY
open PySem.Builtin.Int renaming intBits->lN
open PyFlat renaming rows->nj,calls->qI,row->qJ,played->vL,told->vM
open PySem.Heap.SameBut renaming update->ou
open PySem.PyData renaming eqv->oN,canLayAll0->sS,int->sT,eqvAll->vK,depthAll->zf
open PySem.Around renaming under_plainId->qg
open Prod.mk renaming injEq->qH
open List.Pairwise renaming imp_of_mem->sA
open PySem.NameKind renaming free->sL
open PySem.Builtin renaming bitAnd->vb,bitNot->CW,bitXor->CY
open PySem.Challenge renaming rw_passpatterns_s01_answers->vN,pw_passpatterns_s01_answers->WZ
open PySem.Builtin.List renaming listExtendWith->yr,listTooLong->CV,listSameRef->Lz
open PySem.Calls renaming spliced_cons->yt,spliced_nil->yu,Name_function_global->Da,callWith_builtin->Dc,evalArgs_plain->Dd,call_len_list->LB,loadGlobal_builtin->LC
open ForInStep renaming yield->yA
open List.cons renaming injEq->yJ
open PyWqataf renaming shape->zt,whole->zu,answers->DT,answers_asked->Mu
open PySem.SetTable.below renaming go->zw
open PyProof.Rows.F renaming plain_set_update_loop->Dg,entry_set_update_loop->LH
open PySem.Builtin.Range renaming rangeSize->LA
theorem dF{p:Prop}[Decidable p](h:¬p):decide p=false:=decide_eq_false h
theorem dT{p:Prop}[Decidable p](h:p):decide p=true:=decide_eq_true h
namespace PM
open Pg
theorem Be:∀(b:Bool)(l:List Bool),(onward b l).length=l.length
 |_,[]=>rfl
 |b,x::r=>by simp[onward,Be]
theorem ug:∀(b:Bool)(l:List Bool)(j:Nat),(onward b l)[j]?=some true↔j<l.length/\(b=true\/∃i,i<=j/\l[i]?=some true)
 |b,[],j=>by simp[onward]
 |b,x::r,0=>by
  simp only[onward,List.getElem?_cons_zero,bG];constructor
  ·intro h;have h:(b||x)=true:=eE h;refine⟨by omega,?_⟩;cases b with
   |true=>exact .inl rfl
   |false=>exact .inr ⟨0,aF _,by simpa using h⟩
  ·rintro⟨_,h|⟨i,hi,h⟩⟩
   ·simp[h]
   ·have:i=0:=by omega
    subst this;have h:x=true:=by simpa using h
    simp[h]
 |b,x::r,j+1=>by
  simp only[onward,qu,bG];rw[ug (b||x) r j];constructor
  ·rintro⟨h1,h|⟨i,hi,h⟩⟩
   ·refine⟨by omega,?_⟩;cases b with
    |true=>exact .inl rfl
    |false=>exact .inr ⟨0,by omega,by simpa using h⟩
   ·exact⟨by omega,.inr ⟨i+1,by omega,by simpa using h⟩⟩
  ·rintro⟨h1,h|⟨i,hi,h⟩⟩
   ·exact⟨by omega,.inl (by simp[h])⟩
   ·refine⟨by omega,?_⟩
    match i,h with
    |0,h=>
     have h:x=true:=by simpa using h
     exact .inl (by simp[h])
    |i+1,h=>exact .inr ⟨i,by omega,by simpa using h⟩
theorem Ht(f:UInt8->Bool):∀(l:List Bool)(s:ag),l.length=s.length+1->(over f l s).length=s.length
 | [],s,h=>by simp at h
 |x::r,[],_=>by simp[over]
 |x::r,c::s,h=>by
  simp only[over,bG];rw[Ht f r s (by simpa using h)]
theorem Bm(f:UInt8->Bool):∀(l:List Bool)(s:ag)(j:Nat),(over f l s)[j]?=some true↔∃c,l[j]?=some true/\s[j]?=some c/\f c=true
 | [],s,j=>by simp[over]
 |x::r,[],j=>by simp[over]
 |x::r,c::s,0=>by simp[over]
 |x::r,c::s,j+1=>by
  simp only[over,qu];exact Bm f r s j
theorem Hs(f:ag->Bool):∀(l:List Bool)(s:bj),l.length=s.length+1->(pO f l s).length=s.length
 | [],s,h=>by simp at h
 |x::r,[],_=>by simp[pO]
 |x::r,c::s,h=>by
  simp only[pO,bG];rw[Hs f r s (by simpa using h)]
theorem Bl(f:ag->Bool):∀(l:List Bool)(s:bj)(j:Nat),(pO f l s)[j]?=some true↔∃c,l[j]?=some true/\s[j]?=some c/\f c=true
 | [],s,j=>by simp[pO]
 |x::r,[],j=>by simp[pO]
 |x::r,c::s,0=>by simp[pO]
 |x::r,c::s,j+1=>by
  simp only[pO,qu];exact Bl f r s j
theorem Gj{l:List Bool}{n:Nat}(h:l.length=n+1):l.getLastD false=true↔l[n]?=some true:=by
 rw[List.getLastD_eq_getLast?,List.getLast?_eq_getElem?,h,yY];rw[bL (by omega)];simp
def eP:List bc->ag->Prop
 | [],s=>s=[]
 |a::as,s=>match a with
  |.star=>∃u v,s=u++v/\eP as v
  |a=>∃c v,s=c::v/\a.takes c=true/\eP as v
theorem kq{as:List bc}{s:ag}:eP (.star::as) s↔∃u v,s=u++v/\eP as v:=fk
theorem mz{a:bc}{as:List bc}{s:ag}(h:a≠.star):eP (a::as) s↔∃c v,s=c::v/\a.takes c=true/\eP as v:=by
 cases a with
 |star=>exact absurd rfl h
 |any=>exact fk
 |byte c=>exact fk
 |cls n rs=>exact fk
theorem Eo{a:bc}{s:ag}{l:List Bool}(h:a≠.star):atomStep s a l=false::over a.takes l s:=by
 cases a with
 |star=>exact absurd rfl h
 |any=>rfl
 |byte c=>rfl
 |cls n rs=>rfl
theorem jF{α:Type}{s:List α}{i:Nat}{c:α}{v:List α}:s.drop i=c::v↔s[i]?=some c/\s.drop (i+1)=v:=by
 constructor
 ·intro h;have h1:(s.drop i)[0]?=some c:=by rw[h]; rfl
  rw[vk]at h1;refine⟨by simpa using h1,?_⟩;rw[<-fO,h];rfl
 ·rintro⟨h1,h2⟩;obtain⟨hi,e⟩:=aK.mp h1;rw[Do hi,e,h2]
theorem VW:bc.any≠.star:=fun h=>bc.noConfusion h
theorem Ag(s:ag):∀(as:List bc)(l:List Bool),l.length=s.length+1->
  ((as.foldl (fun(l:List Bool)(a:bc)=>atomStep s a l) l).getLastD false=true↔∃i,l[i]?=some true/\eP as (s.drop i))
 | [],l,h=>by
  rw[List.foldl_nil,Gj h];constructor
  ·intro e;exact⟨s.length,e,by show s.drop s.length=[]; simp⟩
  ·rintro⟨i,e,q⟩;have q:s.drop i=[]:=q;have hi:=(aK.mp e).1;have:s.length<=i:=by simpa using q
   have:i=s.length:=by omega
   rw[<-this]; exact e
 |a::as,l,h=>by
  rw[Ds];by_cases ha:a=.star
  ·subst ha;have hl:(atomStep s .star l).length=s.length+1:=by show(onward false l).length=_; rw[Be,h]
   rw[Ag s as _ hl];constructor
   ·rintro⟨j,e,q⟩;have e:(onward false l)[j]?=some true:=e;obtain⟨hj,z|⟨i,hi,z⟩⟩:=(ug _ _ _).mp e
    ·cases z
    ·refine⟨i,z,kq.mpr ⟨(s.drop i).take (j-i),s.drop j,?_,q⟩⟩;have:s.drop j=(s.drop i).drop (j-i):=by rw[fO]; congr 1; omega
     rw[this,oE]
   ·rintro⟨i,e,q⟩;obtain⟨u,v,e1,q⟩:=kq.mp q;have hi:=(aK.mp e).1;have hlen:u.length+v.length=s.length-i:=by rw[<-bt,<-e1,cI]
    refine⟨i+u.length,(ug _ _ _).mpr ⟨by omega,.inr ⟨i,by omega,e⟩⟩,?_⟩;rw[<-fO,e1,yK];exact q
  ·have hl:(atomStep s a l).length=s.length+1:=by rw[Eo ha,bG,Ht _ _ _ h]
   rw[Ag s as _ hl,Eo ha];constructor
   ·rintro⟨j,e,q⟩
    match j,e,q with
    |0,e,q=>simp at e
    |j+1,e,q=>
     rw[qu]at e;obtain⟨c,e1,e2,e3⟩:=(Bm _ _ _ _).mp e;exact⟨j,e1,(mz ha).mpr ⟨c,s.drop (j+1),jF.mpr ⟨e2,rfl⟩,e3,q⟩⟩
   ·rintro⟨i,e,q⟩;obtain⟨c,v,e1,e2,q⟩:=(mz ha).mp q;obtain⟨e3,e4⟩:=jF.mp e1;refine⟨i+1,?_,by rw[e4]; exact q⟩;rw[qu];exact(Bm _ _ _ _).mpr ⟨c,e,e3,e2⟩
theorem Ks{α:Type}(s:List α)(i:Nat):(true::s.map fun _=>false)[i]?=some true↔i=0:=by
 match i with
 |0=>simp
 |i+1=>simp
theorem GC(as:List bc)(s:ag):made as s=true↔eP as s:=by
 unfold made;rw[Ag s as _ (by simp)];constructor
 ·rintro⟨i,e,q⟩;have:=(Ks s i).mp e;subst this;exact q
 ·intro q;exact⟨0,rfl,q⟩
def cB:List Seg->bj->Prop
 | [],p=>p=[]
 |.deep::r,p=>match r with
  | []=>p≠[]
  |b::r=>∃u v,p=u++v/\cB (b::r) v
 |.one as::r,p=>∃s q,p=s::q/\eP as s/\cB r q
theorem rC{p:bj}:cB [.deep] p↔p≠[]:=fk
theorem gY{b:Seg}{r:List Seg}{p:bj}:cB (.deep::b::r) p↔∃u v,p=u++v/\cB (b::r) v:=by
 conv=>lhs; unfold cB
theorem ku{as:List bc}{r:List Seg}{p:bj}:cB (.one as::r) p↔∃s q,p=s::q/\eP as s/\cB r q:=by
 conv=>lhs; unfold cB
theorem rD:∀{segs:List Seg},segs≠[]-> ¬cB segs []
 | [],h,_=>h rfl
 | [.deep],_,q=>q rfl
 |.deep::b::r,_,q=>by
  obtain⟨u,v,e,q⟩:=gY.mp q
  have:v=[]:=by
   cases u with
   |nil=>simpa using e.symm
   |cons a u=>simp at e
  subst this;exact rD (by simp) q
 |.one as::r,_,q=>by
  obtain⟨s,q',e,_⟩:=ku.mp q;cases e
theorem Ej:∀(l:List Bool),anyBut l=true↔∃i,i+1<l.length/\l[i]?=some true
 | []=>by simp[anyBut]
 | [x]=>by
  simp only[anyBut,bG,vm];constructor
  ·intro h; cases h
  ·rintro⟨i,h,_⟩; omega
 |x::y::r=>by
  rw[show anyBut (x::y::r)=(x||anyBut (y::r))from rfl,qi,Ej (y::r)];constructor
  ·rintro(h|⟨i,h,e⟩)
   ·exact⟨0,by simp,by simp[h]⟩
   ·exact⟨i+1,by simp only[bG]at h⊢; omega,by simpa using e⟩
  ·rintro⟨i,h,e⟩
   match i,h,e with
   |0,h,e=>exact .inl (by simpa using e)
   |i+1,h,e=>exact .inr ⟨i,by simp only[bG]at h⊢; omega,by simpa using e⟩
theorem AH(p:bj):∀(segs:List Seg)(l:List Bool),l.length=p.length+1->(matchFrom p segs l=true↔∃i,l[i]?=some true/\cB segs (p.drop i))
 | [],l,h=>by
  rw[matchFrom,Gj h];constructor
  ·intro e;exact⟨p.length,e,by show p.drop p.length=[]; simp⟩
  ·rintro⟨i,e,q⟩;have q:p.drop i=[]:=q;have hi:=(aK.mp e).1;have:p.length<=i:=by simpa using q
   have:i=p.length:=by omega
   rw[<-this]; exact e
 | [.deep],l,h=>by
  rw[matchFrom,Ej];constructor
  ·rintro⟨i,hi,e⟩
   exact⟨i,e,fun q=>by
    have:p.length<=i:=by simpa using q
    omega⟩
  ·rintro⟨i,e,q⟩;have q:p.drop i≠[]:=q;have: ¬p.length<=i:=fun z=>q (by simpa using z);exact⟨i,by omega,e⟩
 |.deep::b::r,l,h=>by
  rw[matchFrom,AH p (b::r) _ (by rw[Be,h])]
  ·constructor
   ·rintro⟨j,e,q⟩;obtain⟨hj,z|⟨i,hi,z⟩⟩:=(ug _ _ _).mp e
    ·cases z
    ·refine⟨i,z,gY.mpr ⟨(p.drop i).take (j-i),p.drop j,?_,q⟩⟩;have:p.drop j=(p.drop i).drop (j-i):=by rw[fO]; congr 1; omega
     rw[this,oE]
   ·rintro⟨i,e,q⟩;obtain⟨u,v,e1,q⟩:=gY.mp q;have hi:=(aK.mp e).1;have hlen:u.length+v.length=p.length-i:=by rw[<-bt,<-e1,cI]
    refine⟨i+u.length,(ug _ _ _).mpr ⟨by omega,.inr ⟨i,by omega,e⟩⟩,?_⟩;rw[<-fO,e1,yK];exact q
  ·intro z; cases z
 |.one as::r,l,h=>by
  rw[matchFrom,AH p r _ (by rw[bG,Hs _ _ _ h])];constructor
  ·rintro⟨j,e,q⟩
   match j,e,q with
   |0,e,q=>simp at e
   |j+1,e,q=>
    rw[qu]at e;obtain⟨c,e1,e2,e3⟩:=(Bl _ _ _ _).mp e;exact⟨j,e1,ku.mpr ⟨c,p.drop (j+1),jF.mpr ⟨e2,rfl⟩,(GC _ _).mp e3,q⟩⟩
  ·rintro⟨i,e,q⟩;obtain⟨c,v,e1,e2,q⟩:=ku.mp q;obtain⟨e3,e4⟩:=jF.mp e1;refine⟨i+1,?_,by rw[e4]; exact q⟩;rw[qu];exact(Bl _ _ _ _).mpr ⟨c,e,e3,(GC _ _).mpr e2⟩
theorem AI(segs:List Seg)(p:bj):gK segs p=true↔cB segs p:=by
 unfold gK;rw[AH p segs _ (by simp)];constructor
 ·rintro⟨i,e,q⟩;have:=(Ks p i).mp e;subst this;exact q
 ·intro q;exact⟨0,rfl,q⟩
theorem eV(c:UInt8):∀s:ag,aG c s≠[]
 | []=>by simp[aG]
 |x::s=>by
  unfold aG;by_cases h:x=c
  ·rw[if_pos h]; simp
  ·rw[if_neg h];cases aG c s with
   |nil=>simp
   |cons y r=>simp
theorem nS(c:UInt8)(s:ag):aG c (c::s)=[]::aG c s:=by
 rw[aG,if_pos rfl]
theorem lI{c x:UInt8}(h:x≠c){s y:ag}{r:List ag}(e:aG c s=y::r):aG c (x::s)=(x::y)::r:=by
 rw[aG,if_neg h,e]
theorem jQ{c:UInt8}:∀{s:ag},c∉s->aG c s=[s]
 | [],_=>rfl
 |x::s,h=>by
  have h1:x≠c:=fun e=>h (by simp[e]);exact lI h1 (jQ fun z=>h (bU _ z))
theorem mL(c:UInt8):∀(u v:ag),aG c (u++c::v)=aG c u++aG c v
 | [],v=>by rw[mW,nS]; rfl
 |x::u,v=>by
  by_cases h:x=c
  ·subst h;rw[oy,nS,nS,mL x u v]; rfl
  ·cases e:aG c u with
   |nil=>exact absurd e (eV c u)
   |cons y r=>
    have e2:aG c (u++c::v)=y::(r++aG c v):=by rw[mL c u v,e]; rfl
    rw[oy,lI h e2,lI h e];rfl
theorem uI{c:UInt8}:∀{s:ag}{y:ag},y∈aG c s->c∉y
 | [],y,h=>by
  have:y=[]:=by simpa [aG]using h
  subst this; simp
 |x::s,y,h=>by
  by_cases hx:x=c
  ·subst hx;rw[nS]at h;rcases bg.mp h with rfl|h
   ·simp
   ·exact uI h
  ·cases e:aG c s with
   |nil=>exact absurd e (eV c s)
   |cons z r=>
    rw[lI hx e]at h;rcases bg.mp h with rfl|h
    ·intro q;rcases bg.mp q with q|q
     ·exact hx q.symm
     ·exact uI (s:=s) (by rw[e]; exact dD) q
    ·exact uI (s:=s) (by rw[e]; exact bU _ h)
theorem kE{s:ag}{q:bj}(h:q≠[]):aD (s::q)=s++47::aD q:=by
 cases q with
 |nil=>exact absurd rfl h
 |cons t r=>rfl
theorem lL:∀s:ag,aD (aG 47 s)=s
 | []=>rfl
 |x::s=>by
  by_cases hx:x=47
  ·subst hx;rw[nS,kE (eV _ _),lL s]; rfl
  ·cases e:aG 47 s with
   |nil=>exact absurd e (eV _ s)
   |cons y r=>
    have ih:=lL s;rw[e]at ih;rw[lI hx e];cases r with
    |nil=>rw[<-ih]; rfl
    |cons z r=>
     rw[kE (by simp)]at ih⊢;rw[<-ih]; rfl
theorem Ko:∀{p:bj},p≠[]->(∀s∈p,(47:UInt8)∉s)->aG 47 (aD p)=p
 | [],h,_=>absurd rfl h
 | [s],_,h=>jQ (h s (by simp))
 |s::t::r,_,h=>by
  rw[kE (by simp),mL,jQ (h s (by simp)),Ko (by simp) (fun x hx=>h x (bU _ hx))];rfl
def Good(s:ag):Prop:=s≠[]/\(∀c∈s,c≠0)/\∀c∈s,c≠47
theorem FM{s:ag}(h:gx s=true):Good s:=by
 unfold gx at h;simp only[cA,uY,yP,sC,decide_eq_false_iff_not]at h;obtain⟨h1,h2,h3,_⟩:=h;exact⟨h1,fun c hc e=>h2 (e▸hc),fun c hc e=>h3 (e▸hc)⟩
def cg(p:bj):Prop:=p≠[]/\∀s∈p,Good s
theorem cg.split{p:bj}(h:cg p):aG 47 (aD p)=p:=Ko h.1 fun s hs z=>(h.2 s hs).2.2 47 z rfl
theorem cg.bytes:∀{p:bj},cg p->∀c∈aD p,c≠0
 | [],h,_,_=>absurd rfl h.1
 | [s],h,c,hc=>(h.2 s (by simp)).2.1 c hc
 |s::t::r,h,c,hc=>by
  rw[kE (by simp)]at hc;rcases cj.mp hc with z|z
  ·exact(h.2 s (by simp)).2.1 c z
  ·rcases bg.mp z with z|z
   ·subst z; decide
   ·exact cg.bytes (p:=t::r) ⟨by simp,fun x hx=>h.2 x (bU _ hx)⟩ c z
theorem cg.text_ne:∀{p:bj},cg p->aD p≠[]
 | [],h=>absurd rfl h.1
 | [s],h=>(h.2 s (by simp)).1
 |s::t::r,h=>by
  rw[kE (by simp)];have:=(h.2 s (by simp)).1;intro z;simp at z
theorem cg.cut{p:bj}(h:cg p){u v:ag}(e:aD p=u++47::v):p=aG 47 u++aG 47 v:=by
 rw[<-mL,<-e,h.split]
structure MC where
 stays:Nat
 moves:Nat
 opt:Bool
def bF(n:Nat)(c:UInt8):Bool:=n.testBit c.toNat
def dE:List MC->ag->Prop
 | [],x=>x=[]
 |c::cs,x=>(c.opt=true/\dE cs x)\/∃u b v,x=u++b::v/\(∀d∈u,bF c.stays d=true)/\bF c.moves b=true/\dE cs v
theorem kr:∀{as bs:List MC}{x:ag},dE (as++bs) x↔∃y z,x=y++z/\dE as y/\dE bs z
 | [],bs,x=>by
  constructor
  ·intro h;exact⟨[],x,rfl,rfl,h⟩
  ·rintro⟨y,z,e,h1,h2⟩;have h1:y=[]:=h1;subst h1;rw[e]; exact h2
 |c::as,bs,x=>by
  show((c.opt=true/\dE (as++bs) x)\/∃u b v,x=u++b::v/\(∀d∈u,bF c.stays d=true)/\bF c.moves b=true/\dE (as++bs) v)↔_;constructor
  ·rintro(⟨h1,h⟩|⟨u,b,v,e,h1,h2,h⟩)
   ·obtain⟨y,z,e,q1,q2⟩:=kr.mp h;exact⟨y,z,e,.inl ⟨h1,q1⟩,q2⟩
   ·obtain⟨y,z,e',q1,q2⟩:=kr.mp h;exact⟨u++b::y,z,by rw[e,e']; simp,.inr ⟨u,b,y,rfl,h1,h2,q1⟩,q2⟩
  ·rintro⟨y,z,e,(⟨h1,h⟩|⟨u,b,v,e',h1,h2,h⟩),q⟩
   ·exact .inl ⟨h1,kr.mpr ⟨y,z,e,h,q⟩⟩
   ·exact .inr ⟨u,b,v++z,by rw[e,e']; simp,h1,h2,kr.mpr ⟨v,z,rfl,h,q⟩⟩
theorem rB{c:MC}{x:ag}:dE [c] x↔(c.opt=true/\x=[])\/∃u b,x=u++[b]/\(∀d∈u,bF c.stays d=true)/\bF c.moves b=true:=by
 constructor
 ·rintro(⟨h1,h⟩|⟨u,b,v,e,h1,h2,h⟩)
  ·exact .inl ⟨h1,h⟩
  ·have h:v=[]:=h;subst h;exact .inr ⟨u,b,e,h1,h2⟩
 ·rintro(⟨h1,h⟩|⟨u,b,e,h1,h2⟩)
  ·exact .inl ⟨h1,h⟩
  ·exact .inr ⟨u,b,[],e,h1,h2,rfl⟩
structure sI(cu aR bY:Nat):Prop where
 path:∀c:UInt8,bF cu c=true↔c≠0
 part:∀c:UInt8,bF aR c=true↔c≠0/\c≠47
 slash:∀c:UInt8,bF bY c=true↔c=47
def og(aR:Nat)(a:bc)(c:MC):Prop:=match a with
 |.star=>c=⟨aR,aR,true⟩
 |a=>c.stays=0/\c.opt=false/\∀d:UInt8,bF c.moves d=true↔(d≠0/\d≠47)/\a.takes d=true
theorem zL{aR:Nat}{a:bc}{c:MC}(h:a≠.star):og aR a c↔c.stays=0/\c.opt=false/\∀d:UInt8,bF c.moves d=true↔(d≠0/\d≠47)/\a.takes d=true:=by
 cases a with
 |star=>exact absurd rfl h
 |any=>exact fk
 |byte c=>exact fk
 |cls n rs=>exact fk
inductive jr(aR:Nat):List bc->List MC->Prop
 |nil:jr aR [] []
 |cons {a:bc} {c:MC} {as:List bc} {cs:List MC}:og aR a c->jr aR as cs->jr aR (a::as) (c::cs)
inductive iu(cu aR bY:Nat):List Seg->List MC->Prop
 |lastDeep:iu cu aR bY [.deep] [⟨cu,cu,false⟩]
 |lastOne {as:List bc} {cs:List MC}:jr aR as cs->iu cu aR bY [.one as] cs
 |deep {b:Seg} {r:List Seg} {cs:List MC}:iu cu aR bY (b::r) cs->iu cu aR bY (.deep::b::r) (⟨cu,bY,true⟩::cs)
 |one {as:List bc} {b:Seg} {r:List Seg} {cs ds:List MC}:jr aR as cs->iu cu aR bY (b::r) ds->iu cu aR bY (.one as::b::r) (cs++⟨0,bY,false⟩::ds)
def oM(s:ag):Prop:=∀c∈s,c≠0/\c≠47
theorem EC(d:UInt8):bF 0 d=false:=by simp[bF]
theorem GV{u:ag}(h:∀d∈u,bF 0 d=true):u=[]:=by
 cases u with
 |nil=>rfl
 |cons d u=>
  have:=h d (by simp);rw[EC]at this;cases this
theorem wx{cu aR bY:Nat}(M:sI cu aR bY):∀{as:List bc}{cs:List MC},jr aR as cs->∀s,dE cs s↔oM s/\eP as s
 | [],_,.nil,s=>by
  constructor
  ·intro h;have h:s=[]:=h;subst h;exact⟨fun c hc=>by simp at hc,rfl⟩
  ·exact fun h=>h.2
 |a::as,_::cs,.cons ha hr,s=>by
  have ih:=wx M hr;by_cases e:a=.star
  ·subst e;have ha:_=_:=ha;rw[ha,kq];constructor
   ·rintro(⟨_,h⟩|⟨u,b,v,rfl,h1,h2,h⟩)
    ·obtain⟨p,q⟩:=(ih s).mp h;exact⟨p,[],s,rfl,q⟩
    ·obtain⟨p,q⟩:=(ih v).mp h;refine⟨fun c hc=>?_,u++[b],v,by simp,q⟩;rcases cj.mp hc with z|z
     ·exact(M.part c).mp (h1 c z)
     ·rcases bg.mp z with z|z
      ·subst z; exact(M.part _).mp h2
      ·exact p c z
   ·rintro⟨p,u,v,rfl,q⟩;have pv:oM v:=fun c hc=>p c (dC _ hc);rcases yL u with rfl|⟨u',b,rfl⟩
    ·exact .inl ⟨rfl,(ih _).mpr ⟨pv,q⟩⟩
    ·refine .inr ⟨u',b,v,by simp,fun d hd=>(M.part d).mpr (p d (by simp[hd])),(M.part b).mpr (p b (by simp)),(ih v).mpr ⟨pv,q⟩⟩
  ·obtain⟨h1,h2,h3⟩:=(zL e).mp ha;rw[mz e];constructor
   ·rintro(⟨z,_⟩|⟨u,b,v,rfl,q1,q2,h⟩)
    ·rw[h2]at z; cases z
    ·rw[h1]at q1;have:=GV q1;subst this;obtain⟨p,q⟩:=(ih v).mp h;obtain⟨z1,z2⟩:=(h3 b).mp q2;refine⟨fun c hc=>?_,b,v,rfl,z2,q⟩;rcases bg.mp hc with z|z
     ·subst z; exact z1
     ·exact p c z
   ·rintro⟨p,c,v,rfl,q1,q⟩;refine .inr ⟨[],c,v,rfl,fun d hd=>by simp at hd,(h3 c).mpr ⟨p c (by simp),q1⟩,(ih v).mpr ⟨fun d hd=>p d (bU _ hd),q⟩⟩
theorem Good.plain{s:ag}(h:Good s):oM s:=fun c hc=>⟨h.2.1 c hc,h.2.2 c hc⟩
theorem rM{s:ag}(h:oM s):(47:UInt8)∉s:=fun z=>(h 47 z).2 rfl
theorem wA{cu aR bY:Nat}(M:sI cu aR bY):∀{segs:List Seg}{cs:List MC},iu cu aR bY segs cs->∀p,cg p->(dE cs (aD p)↔cB segs p)
 |_,_,.lastDeep,p,hp=>by
  rw[rC,rB];constructor
  ·intro _; exact hp.1
  ·intro _;rcases yL (aD p)with e|⟨u,b,e⟩
   ·exact absurd e hp.text_ne
   ·rw[e];have hb:∀c∈u++[b],c≠0:=fun c hc=>hp.bytes c (by rw[e]; simpa using hc);exact .inr ⟨u,b,by simp,fun d hd=>(M.path d).mpr (hb d (by simp[hd])),(M.path b).mpr (hb b (by simp))⟩
 |_,_,.lastOne hA,p,hp=>by
  rw[ku,wx M hA];constructor
  ·rintro⟨h1,h2⟩;have e:=hp.split;rw[jQ (rM h1)]at e;exact⟨aD p,[],e.symm,h2,rfl⟩
  ·rintro⟨s,q,rfl,h1,h2⟩;have h2:q=[]:=h2;subst h2;exact⟨(hp.2 s (by simp)).plain,h1⟩
 |.deep::b::r,_::cs,.deep h,p,hp=>by
  have ih:=wA M h;rw[gY];constructor
  ·rintro(⟨_,h⟩|⟨u,c,v,e,h1,h2,h⟩)
   ·exact⟨[],p,rfl,(ih p hp).mp h⟩
   ·have:c=47:=(M.slash c).mp h2;subst this;have e2:=hp.cut e;have gv:cg (aG 47 v):=⟨eV _ _,fun s hs=>hp.2 s (by rw[e2]; exact dC _ hs)⟩;exact⟨aG 47 u,aG 47 v,e2,(ih _ gv).mp (by rw[lL]; exact h)⟩
  ·rintro⟨u,v,rfl,q⟩;by_cases hu:u=[]
   ·subst hu;exact .inl ⟨rfl,(ih _ hp).mpr q⟩
   ·have hv:v≠[]:=fun z=>rD (segs:=b::r) (by simp) (z▸q);have gv:cg v:=⟨hv,fun s hs=>hp.2 s (dC _ hs)⟩;have gu:cg u:=⟨hu,fun s hs=>hp.2 s (dn _ hs)⟩
    have e:aD (u++v)=aD u++47::aD v:=by
     have q1:aG 47 (aD u++47::aD v)=u++v:=by rw[mL,gu.split,gv.split]
     rw[<-q1,lL]
    refine .inr ⟨aD u,47,aD v,e,fun d hd=>(M.path d).mpr (gu.bytes d hd),(M.slash 47).mpr rfl,(ih v gv).mpr q⟩
 |.one as::b::r,_,.one (ds:=ds) hA h,p,hp=>by
  have ih:=wA M h;rw[ku,kr];constructor
  ·rintro⟨y,z,e,h1,h2⟩;rcases h2 with⟨z1,_⟩|⟨u,c,v,e',h3,h4,h5⟩
   ·cases z1
   ·have:=GV h3;subst this;have:c=47:=(M.slash c).mp h4;subst this;obtain⟨p1,q1⟩:=(wx M hA y).mp h1;have e3:aD p=y++47::v:=by rw[e,e']; rfl
    have e2:=hp.cut e3;rw[jQ (rM p1)]at e2;have gv:cg (aG 47 v):=⟨eV _ _,fun s hs=>hp.2 s (by rw[e2]; exact dC _ hs)⟩;exact⟨y,aG 47 v,e2,q1,(ih _ gv).mp (by rw[lL]; exact h5)⟩
  ·rintro⟨s,q,rfl,h1,h2⟩;have hq:q≠[]:=fun z=>rD (segs:=b::r) (by simp) (z▸h2);have gq:cg q:=⟨hq,fun x hx=>hp.2 x (bU _ hx)⟩;rw[kE hq];exact⟨s,47::aD q,rfl,(wx M hA s).mpr ⟨(hp.2 s (by simp)).plain,h1⟩,.inr ⟨[],47,aD q,rfl,fun d hd=>by simp at hd,(M.slash 47).mpr rfl,(ih q gq).mpr h2⟩⟩
def vT(cs:List MC)(k:Nat)(x:ag):Prop:=k<=cs.length/\∃y u,x=y++u/\dE (cs.take k) y/\(u=[]\/∃c,cs[k]?=some c/\∀d∈u,bF c.stays d=true)
def State(cs:List MC)(x:ag)(st:Nat):Prop:=∀k,st.testBit k=true↔vT cs k x
theorem State.through{cs:List MC}{x:ag}{st:Nat}(h:State cs x st):st.testBit cs.length=true↔dE cs x:=by
 rw[h cs.length];constructor
 ·rintro⟨_,y,u,e,h1,h2|⟨c,h2,_⟩⟩
  ·rw[cq]at h1;rw[e,h2,cC]; exact h1
  ·rw[gT (aF _)]at h2; cases h2
 ·intro h;exact⟨aF _,x,[],by simp,by rw[cq]; exact h,.inl rfl⟩
def ib(cs:List MC)(f:MC->Bool)(n:Nat):Prop:=∀k,n.testBit k=true↔∃c,cs[k]?=some c/\f c=true
def oo(opt f r:Nat):Prop:=∀k,r.testBit k=true↔∃j,j<=k/\f.testBit j=true/\∀i,j<=i->i<k->opt.testBit i=true
theorem take_snoc{α:Type}{l:List α}{i:Nat}{x:α}(h:l[i]?=some x):l.take (i+1)=l.take i++[x]:=by
 rw[List.take_add_one,h]; rfl
theorem AE{cs:List MC}{x:ag}{j:Nat}:∀{k:Nat},j<=k->k<=cs.length->(∀i,j<=i->i<k->∃c,cs[i]?=some c/\c.opt=true)->dE (cs.take j) x->dE (cs.take k) x
 |0,h1,h2,h3,h=>by
  have:j=0:=by omega
  subst this; exact h
 |k+1,h1,h2,h3,h=>by
  by_cases e:j=k+1
  ·subst e; exact h
  ·obtain⟨c,hc,ho⟩:=h3 k (by omega) (by omega);rw[take_snoc hc,kr];exact⟨x,[],by simp,AE (by omega) (by omega) (fun i a b=>h3 i a (by omega)) h,.inl ⟨ho,rfl⟩⟩
theorem GD{cs:List MC}{x:ag}{b:UInt8}:∀{k:Nat},k<=cs.length->dE (cs.take k) (x++[b])->∃j,j<k/\vT cs j x/\(∃c,cs[j]?=some c/\bF c.moves b=true)/\∀i,j+1<=i->i<k->∃c,cs[i]?=some c/\c.opt=true
 |0,_,h=>by
  have h:x++[b]=[]:=h;simp at h
 |k+1,hk,h=>by
  obtain⟨c,hc⟩:∃c,cs[k]?=some c:=⟨_,bL (by omega)⟩;rw[take_snoc hc,kr]at h;obtain⟨y,z,e,h1,h2⟩:=h;rcases rB.mp h2 with⟨ho,rfl⟩|⟨u,d,rfl,h3,h4⟩
  ·rw[cC]at e;rw[<-e]at h1;obtain⟨j,hj,q1,q2,q3⟩:=GD (by omega) h1;refine⟨j,by omega,q1,q2,fun i a b'=>?_⟩;by_cases ei:i=k
   ·subst ei; exact⟨c,hc,ho⟩
   ·exact q3 i a (by omega)
  ·rw[<-dk]at e;obtain⟨e1,e2⟩:=Dn e rfl;have:b=d:=by simpa using e2
   subst this;exact⟨k,by omega,⟨by omega,y,u,e1,h1,.inr ⟨c,hc,h3⟩⟩,⟨c,hc,h4⟩,fun i a b'=>by omega⟩
theorem GE{cs:List MC}:∀{k:Nat},k<=cs.length->dE (cs.take k) []->∀i,i<k->∃c,cs[i]?=some c/\c.opt=true
 |0,_,_,i,hi=>by omega
 |k+1,hk,h,i,hi=>by
  obtain⟨c,hc⟩:∃c,cs[k]?=some c:=⟨_,bL (by omega)⟩;rw[take_snoc hc,kr]at h;obtain⟨y,z,e,h1,h2⟩:=h
  have ey:y=[]:=by
   cases y with
   |nil=>rfl
   |cons a y=>simp at e
  subst ey;have ez:z=[]:=by simpa using e.symm
  subst ez;rcases rB.mp h2 with⟨ho,_⟩|⟨u,d,e',_⟩
  ·by_cases ei:i=k
   ·subst ei; exact⟨c,hc,ho⟩
   ·exact GE (by omega) h1 i (by omega)
  ·simp at e'
theorem VY{cs:List MC}{opt r:Nat}(ho:ib cs (·.opt) opt)(hr:oo opt 1 r):State cs [] r:=fun k=>by
 rw[hr k];constructor
 ·rintro⟨j,hj,h1,h2⟩
  have:j=0:=by
   rw[Nat.testBit_one_eq_true_iff_self_eq_zero]at h1; exact h1
  subst this;have h3:∀i,0<=i->i<k->∃c,cs[i]?=some c/\c.opt=true:=fun i a b=>(ho i).mp (h2 i a b)
  have hk:k<=cs.length:=by
   cases k with
   |zero=>omega
   |succ k=>
    obtain⟨c,hc,_⟩:=h3 k (by omega) (by omega);exact(aK.mp hc).1
  exact⟨hk,[],[],rfl,AE (bC _) hk h3 (show dE [] []from rfl),.inl rfl⟩
 ·rintro⟨hk,y,u,e,h1,_⟩
  have ey:y=[]:=by
   cases y with
   |nil=>rfl
   |cons a y=>simp at e
  subst ey;exact⟨0,bC _,by simp,fun i _ hi=>(ho i).mpr (GE hk h1 i hi)⟩
theorem CD(n k:Nat):(n<<<1).testBit k=true↔∃j,k=j+1/\n.testBit j=true:=by
 rw[Nat.testBit_shiftLeft];cases k with
 |zero=>simp
 |succ k=>simp
theorem VZ{cs:List MC}{x:ag}{b:UInt8}{opt st sm mm e:Nat}(ho:ib cs (·.opt) opt)(hs:ib cs (fun c=>bF c.stays b) sm)(hm:ib cs (fun c=>bF c.moves b) mm)
  (h:State cs x st)(he:oo opt ((st&&&mm)<<<1) e):State cs (x++[b]) ((st&&&sm)|||e):=fun k=>by
 rw[zc,qi,lX,cA,h k,hs k,he k];constructor
 ·rintro(⟨⟨hk,y,u,ex,h1,h2⟩,c,hc,hb⟩|⟨j,hj,h1,h2⟩)
  ·refine⟨hk,y,u++[b],by rw[ex]; simp,h1,.inr ⟨c,hc,fun d hd=>?_⟩⟩;rcases cj.mp hd with z|z
   ·rcases h2 with rfl|⟨c',hc',q⟩
    ·simp at z
    ·rw[hc]at hc'; cases hc';exact q d z
   ·have:d=b:=by simpa using z
    subst this; exact hb
  ·obtain⟨j',rfl,h3⟩:=(CD _ _).mp h1;rw[lX,cA,h j',hm j']at h3;obtain⟨⟨hk',y,u,ex,q1,q2⟩,c,hc,hb⟩:=h3;have hj':j'<cs.length:=(aK.mp hc).1;have h4:∀i,j'+1<=i->i<k->∃c,cs[i]?=some c/\c.opt=true:=fun i a b=>(ho i).mp (h2 i a b)
   have hk:k<=cs.length:=by
    cases k with
    |zero=>omega
    |succ k=>
     by_cases e:j'=k
     ·omega
     ·obtain⟨c,hc,_⟩:=h4 k (by omega) (by omega);exact(aK.mp hc).1
   have m1:dE (cs.take (j'+1)) (x++[b]):=by
    rw[take_snoc hc,kr];refine⟨y,u++[b],by rw[ex]; simp,q1,rB.mpr (.inr ⟨u,b,rfl,?_,hb⟩)⟩;rcases q2 with rfl|⟨c',hc',q⟩
    ·intro d hd; simp at hd
    ·rw[hc]at hc'; cases hc';exact q
   exact⟨hk,x++[b],[],by simp,AE hj hk h4 m1,.inl rfl⟩
 ·rintro⟨hk,y,u,ex,h1,h2⟩;rcases yL u with rfl|⟨u',d,rfl⟩
  ·rw[cC]at ex;rw[<-ex]at h1;obtain⟨j,hj,q1,⟨c,hc,hb⟩,q3⟩:=GD hk h1;refine .inr ⟨j+1,by omega,(CD _ _).mpr ⟨j,rfl,?_⟩,fun i a b'=>(ho i).mpr (q3 i a b')⟩;rw[lX,cA,h j,hm j];exact⟨q1,c,hc,hb⟩
  ·rw[LN,<-dk]at ex;obtain⟨e1,e2⟩:=Dn ex rfl;have:b=d:=by simpa using e2
   subst this;rcases h2 with z|⟨c,hc,q⟩
   ·simp at z
   ·refine .inl ⟨⟨hk,y,u',e1,h1,.inr ⟨c,hc,fun d hd=>q d (by simp[hd])⟩⟩,c,hc,q b (by simp)⟩
theorem Px{x:ag}:∀{cs:List MC}{z:ag},dE cs (x++z)->∃k,vT cs k x:=fun{cs z} h=>by
 suffices q:∀(k:Nat),k<=cs.length->∀z,dE (cs.take k) (x++z)->∃k,vT cs k x from q cs.length (aF _) z (by rw[cq]; exact h);intro k
 induction k with
 |zero=>
  intro _ z h;have h:x++z=[]:=h
  have hx:x=[]:=by
   cases x with
   |nil=>rfl
   |cons a x=>simp at h
  subst hx;exact⟨0,bC _,[],[],rfl,rfl,.inl rfl⟩
 |succ k ih=>
  intro hk z h;obtain⟨c,hc⟩:∃c,cs[k]?=some c:=⟨_,bL (by omega)⟩;rw[take_snoc hc,kr]at h;obtain⟨y,w,e,h1,h2⟩:=h;rcases List.append_eq_append_iff.mp e with⟨a,e1,e2⟩|⟨a,e1,e2⟩
  ·rw[e1]at h1;exact ih (by omega) a h1
  ·
   rcases rB.mp h2 with⟨ho,rfl⟩|⟨u,d,rfl,h3,h4⟩
   ·have ea:a=[]:=by
     cases a with
     |nil=>rfl
     |cons b a=>simp at e2
    subst ea;rw[cC]at e1;exact ih (by omega) [] (by rw[cC,e1]; exact h1)
   ·rcases yL z with rfl|⟨z',b,rfl⟩
    ·rw[cC]at e2;subst e2
     have m:dE (cs.take (k+1)) x:=by
      rw[take_snoc hc,kr];exact⟨y,u++[d],e1,h1,rB.mpr (.inr ⟨u,d,rfl,h3,h4⟩)⟩
     exact⟨k+1,hk,x,[],by simp,m,.inl rfl⟩
    ·rw[LN,<-dk]at e2;obtain⟨e3,_⟩:=Dn e2 rfl;exact⟨k,by omega,y,a,e1,h1,.inr ⟨c,hc,fun d' hd'=>h3 d' (by rw[e3]; exact dn _ hd')⟩⟩
theorem Wa{cs:List MC}{x:ag}(h:State cs x 0)(z:ag): ¬dE cs (x++z):=fun q=>by
 obtain⟨k,hk⟩:=Px q;have:=(h k).mpr hk;rw[DD]at this;cases this
def gI(opt f:Nat):Nat->Nat
 |0=>f
 |t+1=>(gI opt f t&&&opt)<<<1
def ux(opt f:Nat):Nat->Nat
 |0=>f
 |t+1=>ux opt f t|||gI opt f (t+1)
theorem tP(opt f:Nat):∀(t k:Nat),(gI opt f t).testBit k=true↔∃j,k=j+t/\f.testBit j=true/\∀i,j<=i->i<k->opt.testBit i=true
 |0,k=>by
  constructor
  ·intro h;exact⟨k,rfl,h,fun i a b=>by omega⟩
  ·rintro⟨j,rfl,h,_⟩;exact h
 |t+1,k=>by
  rw[gI,CD];constructor
  ·rintro⟨k',rfl,h⟩;rw[lX,cA,tP opt f t k']at h;obtain⟨⟨j,rfl,h1,h2⟩,h3⟩:=h;refine⟨j,by omega,h1,fun i a b=>?_⟩;by_cases e:i=j+t
   ·rw[e]; exact h3
   ·exact h2 i a (by omega)
  ·rintro⟨j,rfl,h1,h2⟩;refine⟨j+t,by omega,?_⟩;rw[lX,cA,tP opt f t];exact⟨⟨j,rfl,h1,fun i a b=>h2 i a (by omega)⟩,h2 _ (by omega) (by omega)⟩
theorem HY(opt f:Nat):∀(t k:Nat),(ux opt f t).testBit k=true↔∃s,s<=t/\(gI opt f s).testBit k=true
 |0,k=>by
  constructor
  ·intro h; exact⟨0,aF _,h⟩
  ·rintro⟨s,hs,h⟩;have:s=0:=by omega
   subst this; exact h
 |t+1,k=>by
  rw[ux,zc,qi,HY opt f t k];constructor
  ·rintro(⟨s,hs,h⟩|h)
   ·exact⟨s,by omega,h⟩
   ·exact⟨t+1,aF _,h⟩
  ·rintro⟨s,hs,h⟩;by_cases e:s=t+1
   ·subst e; exact .inr h
   ·exact .inl ⟨s,by omega,h⟩
theorem FF{opt f t:Nat}(h:gI opt f t&&&opt=0):∀d,gI opt f (t+(d+1))=0
 |0=>by
  show(gI opt f t&&&opt)<<<1=0;rw[h]; rfl
 |d+1=>by
  show(gI opt f (t+(d+1))&&&opt)<<<1=0;rw[FF h d]; simp
theorem Ul{opt f t:Nat}(h:gI opt f t&&&opt=0):oo opt f (ux opt f t):=fun k=>by
 rw[HY];constructor
 ·rintro⟨s,_,q⟩;obtain⟨j,rfl,h1,h2⟩:=(tP _ _ _ _).mp q;exact⟨j,by omega,h1,h2⟩
 ·rintro⟨j,hj,h1,h2⟩;have q:(gI opt f (k-j)).testBit k=true:=(tP _ _ _ _).mpr ⟨j,by omega,h1,h2⟩;by_cases e:k-j<=t
  ·exact⟨_,e,q⟩
  ·have z:=FF h (k-j-t-1);rw[show t+(k-j-t-1+1)=k-j by omega]at z;rw[z,DD]at q;cases q
theorem Om{opt f t n:Nat}(hn:opt<2^n)(h:gI opt f t&&&opt≠0):t<n:=by
 obtain⟨k,hk⟩:=Mf h;rw[lX,cA]at hk;obtain⟨j,rfl,_,_⟩:=(tP _ _ _ _).mp hk.1;by_cases e:t<n
 ·exact e
 ·have:opt.testBit (j+t)=false:=vD (cW hn (kd (by omega) (by omega)));rw[this]at hk;exact absurd hk.2 (by simp)
theorem Fv{opt f r n:Nat}(ho:opt<2^n)(hf:f<2^(n+1))(h:oo opt f r):r<2^(n+1):=by
 apply zb;intro i hi;cases e:r.testBit i with
 |false=>rfl
 |true=>
  obtain⟨j,hj,h1,h2⟩:=(h i).mp e;by_cases z:j=i
  ·subst z;rw[vD (cW hf (kd (by omega) hi))]at h1;cases h1
  ·have h3:=h2 (i-1) (by omega) (by omega);rw[vD (cW ho (kd (by omega) (by omega)))]at h3;cases h3
theorem VX{cs:List MC}{x:ag}{st:Nat}(h:State cs x st):st<2^(cs.length+1):=by
 apply zb;intro i hi;cases e:st.testBit i with
 |false=>rfl
 |true=>
  have:=((h i).mp e).1;omega
def cE:Nat->ag->List Nat
 |_,[]=> []
 |n,c::s=>if c=47 then n::cE (n+1) s else cE (n+1) s
def gG(x:ag):List Nat:=cE 0 x++[x.length]
theorem uE:∀(n:Nat)(u v:ag),cE n (u++v)=cE n u++cE (n+u.length) v
 |n,[],v=>by simp[cE]
 |n,c::u,v=>by
  rw[oy,cE,cE,uE (n+1) u v];have e:n+1+u.length=n+(c::u).length:=by simp only[bG]; omega
  rw[e];by_cases h:c=47
  ·rw[if_pos h,if_pos h]; rfl
  ·rw[if_neg h,if_neg h]
theorem BW:∀(n:Nat){s:ag},(47:UInt8)∉s->cE n s=[]
 |_,[],_=>rfl
 |n,c::s,h=>by
  rw[cE,if_neg (fun e=>h (by simp[e])),BW (n+1) (fun z=>h (bU _ z))]
theorem xM:∀{n:Nat}{s:ag}{e:Nat},e∈cE n s↔∃i,e=n+i/\s[i]?=some 47
 |n,[],e=>by simp[cE]
 |n,c::s,e=>by
  rw[cE];by_cases h:c=47
  ·rw[if_pos h,bg,xM];constructor
   ·rintro(rfl|⟨i,rfl,q⟩)
    ·exact⟨0,rfl,by simp[h]⟩
    ·exact⟨i+1,by omega,by simpa using q⟩
   ·rintro⟨i,rfl,q⟩
    match i,q with
    |0,q=>exact .inl rfl
    |i+1,q=>exact .inr ⟨i,by omega,by simpa using q⟩
  ·rw[if_neg h,xM];constructor
   ·rintro⟨i,rfl,q⟩;exact⟨i+1,by omega,by simpa using q⟩
   ·rintro⟨i,rfl,q⟩
    match i,q with
    |0,q=>exact absurd (by simpa using q) h
    |i+1,q=>exact⟨i,by omega,by simpa using q⟩
def cz(p:bj)(k:Nat):Nat:=(aD (p.take k)).length
theorem xX:∀{p:bj}{k:Nat},0<k->k<p.length->aD p=aD (p.take k)++47::aD (p.drop k)
 | [],k,_,h=>by simp at h
 |s::p,0,h,_=>by omega
 |s::p,1,_,h=>by
  have hp:p≠[]:=by intro z; subst z; simp at h
  rw[kE hp]; rfl
 |s::p,k+2,_,h=>by
  have hp:p≠[]:=by intro z; subst z; simp at h
  have hp2:p.take (k+1)≠[]:=by
   intro z;have:(p.take (k+1)).length=0:=by rw[z]; rfl
   rw[cP]at this;simp only[bG]at h;omega
  rw[kE hp,show(s::p).take (k+2)=s::p.take (k+1)from rfl,show(s::p).drop (k+2)=p.drop (k+1)from rfl,kE hp2,xX (p:=p) (k:=k+1) (by omega) (by simp only[bG]at h; omega)];simp
theorem tJ(p:bj):cz p p.length=(aD p).length:=by rw[cz,cq]
theorem CB{p:bj}{k:Nat}(h0:0<k)(hk:k<=p.length):(aD p).take (cz p k)=aD (p.take k):=by
 by_cases e:k=p.length
 ·subst e;rw[tJ,cq,cq]
 ·rw[xX h0 (by omega),cz,yV]
theorem wG{p:bj}{j k:Nat}(h0:0<j)(h:j<k)(hk:k<=p.length):cz p j<cz p k:=by
 have e1:p.take j=(p.take k).take j:=by rw[Dz]; congr 1; omega
 have hl:(p.take k).length=k:=by rw[cP]; omega
 unfold cz;rw[e1,xX (p:=p.take k) h0 (by omega)];simp
theorem Ft{p:bj}{j k:Nat}(h1:0<j)(h2:j<=p.length)(h3:0<k)(h4:k<=p.length)(e:cz p j=cz p k):j=k:=by
 rcases Nat.lt_trichotomy j k with h|h|h
 ·have:=wG h1 h h4; omega
 ·exact h
 ·have:=wG h3 h h2; omega
theorem zY:∀{p:bj},p≠[]->(∀s∈p,(47:UInt8)∉s)->gG (aD p)=(dU p.length).map fun k=>cz p (k+1)
 | [],h,_=>absurd rfl h
 | [s],_,h=>by
  show cE 0 s++[s.length]=_;rw[BW 0 (h s (by simp))];rfl
 |s::t::r,_,h=>by
  have ih:=zY (p:=t::r) (by simp) (fun x hx=>h x (bU _ hx));unfold gG at ih⊢
  have shift:∀(m n:Nat)(z:ag),cE (n+m) z=(cE n z).map (·+m):=fun m n z=>by
   induction z generalizing n with
   |nil=>rfl
   |cons c z ihz=>
    rw[cE,cE];have:=ihz (n+1);rw[show n+1+m=n+m+1 by omega]at this;by_cases e:c=47
    ·rw[if_pos e,if_pos e,this]; rfl
    ·rw[if_neg e,if_neg e,this]
  rw[kE (by simp),uE,BW 0 (h s (by simp)),mW,cE,if_pos rfl]
  have e1:cE (0+s.length+1) (aD (t::r))=(cE 0 (aD (t::r))).map (·+(s.length+1)):=by
   rw[<-shift]; congr 1
  have e2:(s++47::aD (t::r)).length=(aD (t::r)).length+(s.length+1):=by simp only[bt,bG]; omega
  rw[e1,e2];have e3:(cE 0 (aD (t::r))).map (·+(s.length+1))++[(aD (t::r)).length+(s.length+1)]=(cE 0 (aD (t::r))++[(aD (t::r)).length]).map (·+(s.length+1)):=by simp
  rw[oy,e3,ih,gB];rw[show(s::t::r).length=(t::r).length+1 from rfl,Dx,cV,gB]
  congr 1
  ·show 0+s.length=(aD [s]).length;show 0+s.length=s.length;omega
  ·refine vp fun k hk=>?_;have hk:k<(t::r).length:=by simpa using hk
   show(aD ((t::r).take (k+1))).length+(s.length+1)=(aD (s::(t::r).take (k+1))).length;have:(t::r).take (k+1)≠[]:=by simp
   rw[kE this,bt,bG];omega
def nF(x:ag):Prop:=cg (aG 47 x)
def gZ(segs:List Seg)(x:ag):List Nat:=(gG x).filter fun e=>gK segs (aG 47 (x.take e))
theorem cg.take{p:bj}{k:Nat}(h:cg p)(h0:0<k):cg (p.take k):=⟨by
 intro z;have:(p.take k).length=0:=by rw[z]; rfl
 rw[cP]at this;have:p.length=0:=by omega
 exact h.1 (mV.mp this),fun s hs=>h.2 s (List.mem_of_mem_take hs)⟩
theorem cg.drop{p:bj}{k:Nat}(h:cg p)(h0:k<p.length):cg (p.drop k):=⟨by
 intro z;have:(p.drop k).length=0:=by rw[z]; rfl
 rw[cI]at this;omega,fun s hs=>h.2 s (List.mem_of_mem_drop hs)⟩
theorem GM{p:bj}(h:cg p){e:Nat}:e∈gG (aD p)↔∃k,0<k/\k<=p.length/\e=cz p k:=by
 rw[zY h.1 fun s hs z=>(h.2 s hs).2.2 47 z rfl,bP];constructor
 ·rintro⟨k,hk,rfl⟩;have hk:k<p.length:=by simpa using hk
  exact⟨k+1,by omega,by omega,rfl⟩
 ·rintro⟨k,h0,hk,rfl⟩;exact⟨k-1,by simp; omega,by rw[show k-1+1=k by omega]⟩
theorem Ci{p:bj}(h:cg p){k:Nat}(h0:0<k)(hk:k<=p.length):aG 47 ((aD p).take (cz p k))=p.take k:=by
 rw[CB h0 hk,(h.take h0).split]
theorem AD{cu aR bY:Nat}(M:sI cu aR bY){segs:List Seg}{cs:List MC}(hc:iu cu aR bY segs cs){x:ag}(hx:nF x){e:Nat}(he:e∈gG x):
  dE cs (x.take e)↔gK segs (aG 47 (x.take e))=true:=by
 have ex:aD (aG 47 x)=x:=lL x;rw[<-ex]at he;obtain⟨k,h0,hk,rfl⟩:=(GM hx).mp he;have q:=CB h0 hk;rw[ex]at q;have s:=Ci hx h0 hk;rw[ex]at s;rw[s,AI,q];exact wA M hc _ (hx.take h0)
theorem GN{segs:List Seg}{p:bj}(h:cg p){e:Nat}:e∈gZ segs (aD p)↔∃k,0<k/\k<=p.length/\e=cz p k/\gK segs (p.take k)=true:=by
 rw[gZ,qx,GM h];constructor
 ·rintro⟨⟨k,h0,hk,rfl⟩,q⟩;rw[Ci h h0 hk]at q;exact⟨k,h0,hk,rfl,q⟩
 ·rintro⟨k,h0,hk,rfl,q⟩;exact⟨⟨k,h0,hk,rfl⟩,by rw[Ci h h0 hk]; exact q⟩
def fI(segs:List Seg)(x:ag)(i:Nat):List Nat:=(cE 0 (x.take i)).filter fun e=>gK segs (aG 47 (x.take e))
theorem Ah{segs:List Seg}{x:ag}{i:Nat}{c:UInt8}(h:x[i]?=some c):
  fI segs x (i+1)=fI segs x i++if c=47/\gK segs (aG 47 (x.take i))=true then [i]else []:=by
 unfold fI;rw[take_snoc h,uE,qt];have hi:i<x.length:=(aK.mp h).1
 congr 1
 rw[show 0+(x.take i).length=i by rw[cP]; omega,cE];by_cases e:c=47
 ·rw[if_pos e];show([i]:List Nat).filter _=_;by_cases q:gK segs (aG 47 (x.take i))=true
  ·rw[if_pos ⟨e,q⟩,kO,if_pos q]; rfl
  ·rw[if_neg (fun z=>q z.2),kO,if_neg q]; rfl
 ·rw[if_neg e,if_neg (fun z=>e z.1)];rfl
theorem GI{segs:List Seg}{x:ag}:gZ segs x=fI segs x x.length++if gK segs (aG 47 x)=true then [x.length]else []:=by
 unfold gZ gG fI;rw[qt,cq]
 congr 1
 rw[kO];rw[cq];rfl
theorem PJ{cu aR bY:Nat}(M:sI cu aR bY){segs:List Seg}{cs:List MC}(hc:iu cu aR bY segs cs){x:ag}(hx:nF x){i:Nat}(hi:i<=x.length)(hs:State cs (x.take i) 0):
  gZ segs x=fI segs x i:=by
 unfold gZ gG fI
 have hx2:cE 0 x=cE 0 (x.take i)++cE i (x.drop i):=by
  conv=>lhs; rw[<-oE i x]
  rw[uE,show 0+(x.take i).length=i by rw[cP]; omega]
 rw[hx2,dk,qt]
 have none:∀e,e∈gG x->i<=e->gK segs (aG 47 (x.take e))≠true:=fun e he hie q=>by
  have m:=(AD M hc hx he).mpr q;refine Wa hs ((x.take e).drop i) ?_;have:x.take i=(x.take e).take i:=by rw[Dz]; congr 1; omega
  rw[this,oE];exact m
 have e2:(cE i (x.drop i)++[x.length]).filter (fun e=>gK segs (aG 47 (x.take e)))=[]:=by
  rw[List.filter_eq_nil_iff];intro e he;rcases cj.mp he with z|z
  ·obtain⟨j,rfl,_⟩:=xM.mp z;exact none _ (by unfold gG; rw[hx2]; exact dn _ (dC _ z)) (by omega)
  ·have:e=x.length:=by simpa using z
   subst this;exact none _ (by unfold gG; simp) hi
 rw[e2,cC]
def fN(a b:Nat×Nat×Nat):Prop:=a.1<b.1\/(a.1=b.1/\(a.2.1<b.2.1\/(a.2.1=b.2.1/\a.2.2<b.2.2)))
theorem Pq{a b:Nat×Nat×Nat}(h1: ¬fN a b)(h2: ¬fN b a):a=b:=by
 obtain⟨a1,a2,a3⟩:=a;obtain⟨b1,b2,b3⟩:=b;unfold fN at h1 h2;simp only at h1 h2;have e1:a1=b1:=by omega
 have e2:a2=b2:=by omega
 have e3:a3=b3:=by omega
 rw[e1,e2,e3]
theorem GB{a b c:Nat×Nat×Nat}(h1: ¬fN a b)(h2: ¬fN b c): ¬fN a c:=by
 obtain⟨a1,a2,a3⟩:=a;obtain⟨b1,b2,b3⟩:=b;obtain⟨c1,c2,c3⟩:=c;unfold fN at*;simp only at*;omega
theorem AC{a b:Nat×Nat×Nat}(h1:fN a b): ¬fN b a:=by
 obtain⟨a1,a2,a3⟩:=a;obtain⟨b1,b2,b3⟩:=b;unfold fN at*;simp only at*;omega
theorem Os(a b:Nat×Nat×Nat):(greater a b=b/\fN a b)\/(greater a b=a/\ ¬fN a b):=by
 unfold greater;by_cases h:a.1<b.1\/(a.1=b.1/\(a.2.1<b.2.1\/(a.2.1=b.2.1/\a.2.2<b.2.2)))
 ·rw[if_pos h]; exact .inl ⟨rfl,h⟩
 ·rw[if_neg h]; exact .inr ⟨rfl,h⟩
theorem FD:∀(l:List (Nat×Nat×Nat))(x:Nat×Nat×Nat),l.foldl greater x∈x::l/\∀y∈x::l,¬fN (l.foldl greater x) y
 | [],x=>⟨by simp,fun y hy=>by
   have:y=x:=by simpa using hy
   subst this;intro z;exact AC z z⟩
 |b::l,x=>by
  obtain⟨h1,h2⟩:=FD l (greater x b);rw[Ds];rcases Os x b with⟨e,q⟩|⟨e,q⟩
  ·rw[e]at h1 h2⊢;refine⟨bU _ h1,fun y hy=>?_⟩;rcases bg.mp hy with rfl|hy
   ·exact GB (h2 b (by simp)) (AC q)
   ·exact h2 y hy
  ·rw[e]at h1 h2⊢;refine⟨?_,fun y hy=>?_⟩
   ·rcases bg.mp h1 with z|z
    ·rw[z]; simp
    ·exact bU _ (bU _ z)
   ·rcases bg.mp hy with rfl|hy
    ·exact h2 _ (by simp)
    ·rcases bg.mp hy with rfl|hy
     ·exact GB (h2 x (by simp)) q
     ·exact h2 y (bU _ hy)
def xE(s:ag):Option cX:=(dB s).bind fun x=>x
theorem AK(l:bD)(p:bj)(isDir:Bool):∀(lines:List ag)(n m:Nat),m∈fitting l p isDir n lines↔∃j s y,m=n+j/\lines[j]?=some s/\xE s=some y/\kA y l.dir p isDir=true
 | [],n,m=>by simp[fitting]
 |s::r,n,m=>by
  rw[fitting,cj,AK l p isDir r (n+1) m];constructor
  ·rintro(h|⟨j,s',y,rfl,h1,h2,h3⟩)
   ·cases e:(dB s).bind fun(x:Option cX)=>x with
    |none=>rw[e]at h; simp at h
    |some y=>
     rw[e]at h;by_cases q:kA y l.dir p isDir=true
     ·simp only[if_pos q]at h;exact⟨0,s,y,by simpa using h,rfl,e,q⟩
     ·simp only[if_neg q]at h;simp at h
   ·exact⟨j+1,s',y,by omega,by simpa using h1,h2,h3⟩
  ·rintro⟨j,s',y,rfl,h1,h2,h3⟩
   match j,h1 with
   |0,h1=>
    have:s=s':=by simpa using h1
    subst this;have h2:(dB s).bind (fun(x:Option cX)=>x)=some y:=h2;rw[h2];simp only[if_pos h3];exact .inl (by simp)
   |j+1,h1=>exact .inr ⟨j,s',y,by omega,by simpa using h1,h2,h3⟩
theorem GJ(p:bj)(isDir:Bool):∀(ls:List bD)(i:Nat)(x:Nat×Nat×Nat),x∈oW p isDir i ls↔∃j l,ls[j]?=some l/\x.1=l.dir.length/\x.2.1=i+j/\x.2.2∈fitting l p isDir 1 (linesOf l.text)
 | [],i,x=>by simp[oW]
 |l::r,i,x=>by
  rw[oW,cj,GJ p isDir r (i+1) x,bP];constructor
  ·rintro(⟨n,hn,rfl⟩|⟨j,l',h1,h2,h3,h4⟩)
   ·exact⟨0,l,rfl,rfl,rfl,hn⟩
   ·exact⟨j+1,l',by simpa using h1,h2,by omega,h4⟩
  ·rintro⟨j,l',h1,h2,h3,h4⟩
   match j,h1,h3 with
   |0,h1,h3=>
    have:l=l':=by simpa using h1
    subst this;exact .inl ⟨x.2.2,h4,by rw[<-h2]; rw[show i=x.2.1 from h3.symm]⟩
   |j+1,h1,h3=>exact .inr ⟨j,l',by simpa using h1,h2,by omega,h4⟩
def kh(ls:List bD)(i n:Nat)(l:bD)(r:cX):Prop:=ls[i]?=some l/\∃s,1<=n/\(linesOf l.text)[n-1]?=some s/\xE s=some r
theorem kh.inj{ls:List bD}{i n:Nat}{l l':bD}{r r':cX}(h:kh ls i n l r)(h':kh ls i n l' r'):l=l'/\r=r':=by
 obtain⟨e,s,_,e1,e2⟩:=h;obtain⟨e',s',_,e1',e2'⟩:=h';rw[e]at e';cases e';rw[e1]at e1';cases e1';rw[e2]at e2';cases e2';exact⟨rfl,rfl⟩
theorem PX{ls:List bD}{i n:Nat}{l:bD}{r:cX}(h:kh ls i n l r):negAt ls i n=r.neg:=by
 obtain⟨e,s,h1,e1,e2⟩:=h;unfold negAt ruleAt;rw[e];simp only[e1];rw[if_neg (by omega),show(dB s).bind id=some r from e2]
def iS(ls:List bD)(q:bj)(isDir:Bool)(i n:Nat):Prop:=∃l r,kh ls i n l r/\kA r l.dir q isDir=true
theorem AJ{ls:List bD}{q:bj}{isDir:Bool}{x:Nat×Nat×Nat}:x∈oW q isDir 0 ls↔iS ls q isDir x.2.1 x.2.2/\∃l,ls[x.2.1]?=some l/\x.1=l.dir.length:=by
 rw[GJ];constructor
 ·rintro⟨j,l,h1,h2,h3,h4⟩;rw[sO]at h3;obtain⟨m,s,y,e,e1,e2,e3⟩:=(AK _ _ _ _ _ _).mp h4;rw[h3];exact⟨⟨l,y,⟨h1,s,by omega,by rw[e,DA]; exact e1,e2⟩,e3⟩,l,h1,h2⟩
 ·rintro⟨⟨l,r,⟨h1,s,h2,h3,h4⟩,h5⟩,l',h6,h7⟩;rw[h1]at h6;cases h6;exact⟨x.2.1,l,h1,h7,by omega,(AK _ _ _ _ _ _).mpr ⟨x.2.2-1,s,r,by omega,h3,h4,h5⟩⟩
def gX(ls:List bD)(i:Nat):Nat:=match ls[i]? with
 |some l=>l.dir.length
 |none=>0
theorem NG{ls:List bD}{q:bj}{isDir:Bool}(h:∀i n,¬iS ls q isDir i n):fH ls q isDir=none:=by
 unfold fH;cases e:oW q isDir 0 ls with
 |nil=>rfl
 |cons x r=>exact absurd (AJ.mp (by rw[e]; exact dD)).1 (h _ _)
theorem NH{ls:List bD}{q:bj}{isDir:Bool}{i n:Nat}(h:iS ls q isDir i n)(hm:∀i' n',iS ls q isDir i' n'-> ¬fN (gX ls i,i,n) (gX ls i',i',n')):fH ls q isDir=some (i,n):=by
 have key:∀j m,iS ls q isDir j m->(gX ls j,j,m)∈oW q isDir 0 ls:=fun j m hf=>by
  obtain⟨l,r,⟨e,z⟩,f⟩:=id hf;exact AJ.mpr ⟨hf,l,e,by show gX ls j=_; unfold gX; rw[e]⟩
 have back:∀x,x∈oW q isDir 0 ls->iS ls q isDir x.2.1 x.2.2/\x=(gX ls x.2.1,x.2.1,x.2.2):=fun x hx=>by
  obtain⟨hf,l,e,e1⟩:=AJ.mp hx;refine⟨hf,?_⟩;have:gX ls x.2.1=x.1:=by unfold gX; rw[e]; exact e1.symm
  rw[this]
 have hk:=key i n h;unfold fH;cases e:oW q isDir 0 ls with
 |nil=>rw[e]at hk; cases hk
 |cons x r=>
  obtain⟨f1,f2⟩:=FD r x;rw[<-e]at f1 f2;obtain⟨g1,g2⟩:=back _ f1;have q1:=f2 _ hk;have q2:=hm _ _ g1;rw[<-g2]at q2;have:=Pq q1 q2;show some (r.foldl greater x).2=some (i,n);rw[this]
theorem zE:∀{d p z:bj},behind d p=some z↔p=d++z
 | [],p,z=>by
  show some p=some z↔_;simp
 |d::ds,[],z=>by
  show(none:Option bj)=some z↔_;simp
 |d::ds,s::p,z=>by
  show(if d=s then behind ds p else none)=some z↔_;by_cases h:d=s
  ·subst h;rw[if_pos rfl,zE]; simp
  ·rw[if_neg h];constructor
   ·intro q; cases q
   ·intro q;simp only[oy,yJ]at q;exact absurd q.1.symm h
theorem uz{r:cX}{d p:bj}{isDir:Bool}:kA r d p isDir=true↔∃q,p=d++q/\q≠[]/\(r.dirs=false\/isDir=true)/\gK r.segs q=true:=by
 unfold kA;cases e:behind d p with
 |none=>
  constructor
  ·intro h; cases h
  ·rintro⟨q,h,_⟩;rw[zE.mpr h]at e; cases e
 |some q=>
  have e:=zE.mp e;simp only[cA,qi,uY,yP];constructor
  ·rintro⟨h1,h2,h3⟩;exact⟨q,e,h1,h2,h3⟩
  ·rintro⟨q',e',h1,h2,h3⟩;rw[e]at e';have:=Dl e';subst this;exact⟨h1,h2,h3⟩
theorem NV(p:bj):cz p 0=0:=by simp[cz,aD]
theorem cg.end_pos{p:bj}(h:cg p){k:Nat}(h0:0<k):0<cz p k:=by
 have:=(h.take h0).text_ne;unfold cz;exact fC.mpr this
theorem cg.end_lt{p:bj}(h:cg p){j k:Nat}(hjk:j<k)(hk:k<=p.length):cz p j<cz p k:=by
 by_cases e:j=0
 ·subst e;rw[NV];exact h.end_pos hjk
 ·exact wG (by omega) hjk hk
def gy(n:Nat):Nat:=if 0<n then n+1 else n
theorem CF{d q:bj}(hd:d≠[])(hq:q≠[]):aD (d++q)=aD d++47::aD q:=by
 have h:=xX (p:=d++q) (k:=d.length) (fC.mpr hd) (by rw[bt]; have:=fC.mpr hq; omega);rw[yV,yK]at h;exact h
theorem Lg{d:bj}(h:cg d):0<(aD d).length:=fC.mpr h.text_ne
def oi(d:bj):Prop:=d=[]\/cg d
theorem NR{d q:bj}(hd:oi d)(hq:q≠[]):(aD (d++q)).drop (gy (aD d).length)=aD q:=by
 rcases hd with rfl|hd
 ·rfl
 ·unfold gy;rw[if_pos (Lg hd),CF hd.1 hq,<-fO,yK];rfl
theorem Fu{d q:bj}(hd:oi d){j:Nat}(h0:0<j)(hj:j<=q.length):cz (d++q) (d.length+j)=gy (aD d).length+cz q j:=by
 have hq:q.take j≠[]:=by
  intro z;have:(q.take j).length=0:=by rw[z]; rfl
  rw[cP]at this;omega
 unfold cz;rw[Dy,ka (by omega),DA];rcases hd with rfl|hd
 ·simp[gy,aD]
 ·unfold gy;rw[if_pos (Lg hd),CF hd.1 hq,bt,bG];omega
theorem Eu{d p:bj}(hd:oi d)(hp:cg p):(aD d=[]\/(aD p).take ((aD d).length+1)=aD d++[47])↔∃q,q≠[]/\p=d++q:=by
 rcases hd with rfl|hd
 ·constructor
  ·intro _; exact⟨p,hp.1,rfl⟩
  ·intro _; exact .inl rfl
 ·constructor
  ·rintro(z|h)
   ·exact absurd z hd.text_ne
   ·have e:aD p=aD d++47::(aD p).drop ((aD d).length+1):=by
     conv=>lhs; rw[<-oE ((aD d).length+1) (aD p),h]
     simp
    have e2:=hp.cut e;rw[hd.split]at e2;exact⟨_,eV _ _,e2⟩
  ·rintro⟨q,hq,rfl⟩;rw[CF hd.1 hq];refine .inr ?_;have:aD d++47::aD q=(aD d++[47])++aD q:=by simp
   rw[this];have e:(aD d).length+1=(aD d++[47]).length:=by simp
   rw[e,yV]
def iI(r:cX)(isDir:Bool)(rest:ag):List Nat:=if r.dirs=true/\isDir=false then(gZ r.segs rest).filter (fun e=>decide (e<rest.length))else gZ r.segs rest
def eS(p:bj)(isDir:Bool)(k:Nat):Bool:=decide (k<p.length)||isDir
theorem xf{r:cX}{isDir:Bool}{q:bj}(hq:cg q){e:Nat}:e∈iI r isDir (aD q)↔∃j,0<j/\j<=q.length/\e=cz q j/\(r.dirs=false\/eS q isDir j=true)/\gK r.segs (q.take j)=true:=by
 unfold iI eS;by_cases c:r.dirs=true/\isDir=false
 ·rw[if_pos c,qx,GN hq];constructor
  ·rintro⟨⟨j,h0,hj,rfl,m⟩,h⟩;refine⟨j,h0,hj,rfl,.inr ?_,m⟩;have h:cz q j<(aD q).length:=by simpa using h
   by_cases z:j=q.length
   ·subst z;rw[tJ]at h; omega
   ·rw[dT (show j<q.length by omega)]; rfl
  ·rintro⟨j,h0,hj,rfl,h,m⟩;refine⟨⟨j,h0,hj,rfl,m⟩,?_⟩;rw[c.1,c.2]at h
   have h:j<q.length:=by
    rcases h with h|h
    ·cases h
    ·simpa using h
   have:=wG h0 h (aF _);rw[tJ]at this;simpa using this
 ·rw[if_neg c,GN hq];constructor
  ·rintro⟨j,h0,hj,rfl,m⟩;refine⟨j,h0,hj,rfl,?_,m⟩;cases e1:r.dirs with
   |false=>exact .inl rfl
   |true=>
    cases e2:isDir with
    |false=>exact absurd ⟨e1,e2⟩ c
    |true=>exact .inr (by simp)
  ·rintro⟨j,h0,hj,rfl,_,m⟩;exact⟨j,h0,hj,rfl,m⟩
theorem Lw{r:cX}{isDir:Bool}{d q:bj}(hd:oi d)(hp:cg (d++q))(hq:q≠[]){E:Nat}:
  (∃e,e∈iI r isDir (aD q)/\E=gy (aD d).length+e)↔∃k,0<k/\k<=(d++q).length/\E=cz (d++q) k/\kA r d ((d++q).take k) (eS (d++q) isDir k)=true:=by
 have gq:cg q:=⟨hq,fun s hs=>hp.2 s (dC _ hs)⟩;constructor
 ·rintro⟨e,he,rfl⟩;obtain⟨j,h0,hj,rfl,h1,h2⟩:=(xf gq).mp he;refine⟨d.length+j,by omega,by rw[bt]; omega,(Fu hd h0 hj).symm,uz.mpr ⟨q.take j,?_,?_,?_,h2⟩⟩
  ·rw[Dy,ka (by omega),DA]
  ·exact(gq.take h0).1
  ·rcases h1 with h1|h1
   ·exact .inl h1
   ·refine .inr ?_;unfold eS at h1⊢;rw[bt];by_cases z:j<q.length
    ·rw[dT (show d.length+j<d.length+q.length by omega)]; rfl
    ·rw[dF z]at h1;rw[show isDir=true from by simpa using h1]; simp
 ·rintro⟨k,h0,hk,rfl,h⟩;obtain⟨z,e,hz,h1,h2⟩:=uz.mp h;rw[bt]at hk
  have hkd:d.length<k:=by
   have:((d++q).take k).length=d.length+z.length:=by rw[e,bt]
   rw[cP,bt]at this;have:=fC.mpr hz;omega
  have ez:q.take (k-d.length)=z:=by
   rw[Dy,ka (by omega)]at e;exact Dl e
  refine⟨cz q (k-d.length),(xf gq).mpr ⟨k-d.length,by omega,by omega,rfl,?_,by rw[ez]; exact h2⟩,?_⟩
  ·rcases h1 with h1|h1
   ·exact .inl h1
   ·refine .inr ?_;unfold eS at h1⊢;rw[bt]at h1;by_cases y:k<d.length+q.length
    ·rw[dT (show k-d.length<q.length by omega)]; rfl
    ·rw[dF y]at h1;rw[show isDir=true from by simpa using h1]; simp
  ·have:=Fu (q:=q) hd (j:=k-d.length) (by omega) (by omega);rw[show d.length+(k-d.length)=k by omega]at this;exact this
abbrev js:=Nat->Option (Nat×Nat×Bool)
def gF(ls:List bD)(i:Nat):Nat:=match ls[i]? with
 |some l=>(aD l.dir).length
 |none=>0
def kH(ls:List bD)(p:bj)(isDir:Bool)(done:Nat->Nat->Prop)(g:js):Prop:=∀k,0<k->k<=p.length->
 (g (cz p k)=none/\∀i n,done i n-> ¬iS ls (p.take k) (eS p isDir k) i n)\/
 ∃i n,g (cz p k)=some (i,n,negAt ls i n)/\done i n/\iS ls (p.take k) (eS p isDir k) i n/\∀i' n',done i' n'->iS ls (p.take k) (eS p isDir k) i' n'-> ¬fN (gF ls i,i,n) (gF ls i',i',n')
theorem MN{ls:List bD}{p:bj}{isDir:Bool}:kH ls p isDir (fun _ _=>False) fun _=>none:=fun _ _ _=>.inl ⟨rfl,fun _ _ h=>h.elim⟩
theorem pf{ls:List bD}{p:bj}{isDir:Bool}{done done':Nat->Nat->Prop}{g:js}(h:kH ls p isDir done g)(h1:∀i n,done i n->done' i n)
  (h2:∀i n k,0<k->k<=p.length->done' i n->iS ls (p.take k) (eS p isDir k) i n->done i n):kH ls p isDir done' g:=fun k h0 hk=>by
 rcases h k h0 hk with⟨e,q⟩|⟨i,n,e,hd,hf,q⟩
 ·exact .inl ⟨e,fun i n hd hf=>q i n (h2 i n k h0 hk hd hf) hf⟩
 ·exact .inr ⟨i,n,e,h1 _ _ hd,hf,fun i' n' hd' hf'=>q i' n' (h2 i' n' k h0 hk hd' hf') hf'⟩
theorem MM{ls:List bD}{d q:bj}{isDir:Bool}{done:Nat->Nat->Prop}{g g':js}{i n:Nat}{l:bD}{r:cX}(hl:kh ls i n l r)(hld:l.dir=d)(hd:oi d)(hp:cg (d++q))(hq:q≠[])
  (h:kH ls (d++q) isDir done g)(hn:∀i' n',done i' n'-> ¬fN (gF ls i,i,n) (gF ls i',i',n'))
  (hg1:∀E,(∃e,e∈iI r isDir (aD q)/\E=gy (aD d).length+e)->g' E=some (i,n,r.neg))
  (hg2:∀E,¬(∃e,e∈iI r isDir (aD q)/\E=gy (aD d).length+e)->g' E=g E):
  kH ls (d++q) isDir (fun i' n'=>done i' n'\/(i'=i/\n'=n)) g':=fun k h0 hk=>by
 by_cases c:∃e,e∈iI r isDir (aD q)/\cz (d++q) k=gy (aD d).length+e
 ·obtain⟨k',h0',hk',e,hf⟩:=(Lw hd hp hq).mp c;have:k=k':=Ft h0 hk h0' hk' e;subst this;refine .inr ⟨i,n,by rw[hg1 _ c,PX hl],.inr ⟨rfl,rfl⟩,⟨l,r,hl,by rw[hld]; exact hf⟩,fun i' n' hd' _=>?_⟩;rcases hd' with hd'|⟨rfl,rfl⟩
  ·exact hn i' n' hd'
  ·intro z; exact AC z z
 ·rw[hg2 _ c]
  have nf: ¬iS ls ((d++q).take k) (eS (d++q) isDir k) i n:=by
   rintro⟨l',r',hl',hf⟩;obtain⟨rfl,rfl⟩:=hl.inj hl';rw[hld]at hf;exact c ((Lw hd hp hq).mpr ⟨k,h0,hk,rfl,hf⟩)
  rcases h k h0 hk with⟨e,q'⟩|⟨i1,n1,e,hd1,hf,q'⟩
  ·refine .inl ⟨e,fun i' n' hd' hf=>?_⟩;rcases hd' with hd'|⟨rfl,rfl⟩
   ·exact q' i' n' hd' hf
   ·exact nf hf
  ·refine .inr ⟨i1,n1,e,.inl hd1,hf,fun i' n' hd' hf'=>?_⟩;rcases hd' with hd'|⟨rfl,rfl⟩
   ·exact q' i' n' hd' hf'
   ·exact absurd hf' nf
theorem ML{ls:List bD}{p:bj}{isDir:Bool}{done:Nat->Nat->Prop}{g:js}(hp:cg p)(h:kH ls p isDir done g)(ha:∀i n,(∃l r,kh ls i n l r)->done i n){k:Nat}(h0:0<k)(hk:k<=p.length):
  g (cz p k)=(fH ls (p.take k) (eS p isDir k)).map fun x=>(x.1,x.2,negAt ls x.1 x.2):=by
 have all:∀i n,iS ls (p.take k) (eS p isDir k) i n->done i n:=fun i n⟨l,r,h1,_⟩=>ha i n ⟨l,r,h1⟩
 have pre:∀i n,iS ls (p.take k) (eS p isDir k) i n->gX ls i<=p.length/\gF ls i=cz p (gX ls i):=fun i n⟨l,r,⟨e,_⟩,hf⟩=>by
  obtain⟨z,ez,_,_⟩:=uz.mp hf;have ed:gX ls i=l.dir.length:=by unfold gX; rw[e]
  have el:gF ls i=(aD l.dir).length:=by unfold gF; rw[e]
  have hlen:l.dir.length<=(p.take k).length:=by rw[ez,bt]; omega
  rw[cP]at hlen;rw[ed,el];refine⟨by omega,?_⟩;unfold cz
  have:p.take l.dir.length=l.dir:=by
   have q:(p.take k).take l.dir.length=l.dir:=by rw[ez,yV]
   rw[Dz,lW (by omega)]at q;exact q
  rw[this]
 rcases h k h0 hk with⟨e,q⟩|⟨i,n,e,hd,hf,q⟩
 ·rw[e,NG fun i n hf=>q i n (all i n hf) hf]; rfl
 ·rw[e,NH hf fun i' n' hf'=>?_]
  ·rfl
  ·have z:=q i' n' (all i' n' hf') hf';obtain⟨a1,a2⟩:=pre i n hf;obtain⟨b1,b2⟩:=pre i' n' hf';intro y;apply z;rcases y with y|⟨y1,y2⟩
   ·refine .inl ?_;have y:gX ls i<gX ls i':=y;show gF ls i<gF ls i';rw[a2,b2];exact hp.end_lt y b1
   ·refine .inr ⟨?_,y2⟩;have y1:gX ls i=gX ls i':=y1;show gF ls i=gF ls i';rw[a2,b2,y1]
def mh(ls:List bD)(p:bj)(isDir:Bool)(k:Nat):Prop:=k<p.length/\becomes ls p isDir=wg ls p isDir (p.length-1-k) (k+1)
theorem WI{ls:List bD}{p:bj}{isDir:Bool}(h:p≠[]):mh ls p isDir 0:=⟨fC.mpr h,rfl⟩
theorem Fh{p:bj}{isDir:Bool}{k:Nat}(h:k<p.length):eS p isDir k=true:=by unfold eS; rw[dT h]; rfl
theorem tI{p:bj}{isDir:Bool}:eS p isDir p.length=isDir:=by unfold eS; rw[dF (by omega)]; rfl
theorem WE{ls:List bD}{p:bj}{isDir:Bool}{k:Nat}(h:mh ls p isDir k){i n:Nat}(hd:fH ls (p.take (k+1)) (eS p isDir (k+1))=some (i,n))(hn:negAt ls i n=false):becomes ls p isDir=(2,i,n):=by
 rw[h.2];by_cases e:k+1=p.length
 ·rw[show p.length-1-k=0 by omega,wg];rw[e,cq,tI]at hd;rw[hd];simp[hn]
 ·have:=h.1;rw[show p.length-1-k=(p.length-2-k)+1 by omega,wg];rw[Fh (by omega)]at hd;rw[hd];simp[hn]
theorem WH{ls:List bD}{p:bj}{isDir:Bool}{k:Nat}(h:mh ls p isDir k)(hk:k+1<p.length)(hd:∀i n,fH ls (p.take (k+1)) (eS p isDir (k+1))=some (i,n)->negAt ls i n=true):mh ls p isDir (k+1):=by
 refine⟨hk,?_⟩;rw[h.2,show p.length-1-k=(p.length-1-(k+1))+1 by omega,wg];rw[Fh hk]at hd;cases e:fH ls (p.take (k+1)) true with
 |none=>rfl
 |some x=>
  have:=hd x.1 x.2 e;simp only[this,if_true]
theorem WG{ls:List bD}{p:bj}{isDir:Bool}(h:mh ls p isDir (p.length-1))(hd:∀i n,fH ls p isDir=some (i,n)->negAt ls i n=true):
  becomes ls p isDir=match fH ls p isDir with
   |some x=>(1,x.1,x.2)
   |none=>(0,0,0):=by
 rw[h.2,show p.length-1-(p.length-1)=0 by omega,wg];cases e:fH ls p isDir with
 |none=>rfl
 |some x=>
  have:=hd x.1 x.2 e;simp only[this,if_true]
def jc(lo hi:Nat):Nat:=(2^(hi-lo+1)-1)*2^lo
theorem tq(lo hi c:Nat)(h:lo<=hi):(jc lo hi).testBit c=decide (lo<=c/\c<=hi):=by
 unfold jc;rw[Nat.testBit_mul_two_pow];by_cases h1:lo<=c
 ·rw[dT h1,yq,Mh];by_cases h2:c<=hi
  ·rw[dT (show c-lo<hi-lo+1 by omega),dT ⟨h1,h2⟩]
  ·rw[dF (show¬c-lo<hi-lo+1 by omega),dF (fun z=>h2 z.2)]
 ·rw[dF h1,uX,dF (fun z=>h1 z.1)]
theorem Ex{lo hi:Nat}(h:lo<=hi):jc lo hi<2^(hi+1):=by
 apply zb;intro i hi';rw[tq _ _ _ h,dF (by omega)]
def cu:Nat:=jc 1 255
def aR:Nat:=cu^^^2^47
def bY:Nat:=2^47
theorem CH{c d:UInt8}:c≠d↔c.toNat≠d.toNat:=by
 constructor
 ·intro h e;exact h (UInt8.toNat_inj.mp e)
 ·intro h e;exact h (by rw[e])
theorem iO{c d:UInt8}:c=d↔c.toNat=d.toNat:=UInt8.toNat_inj.symm
theorem kG(c:UInt8):c.toNat<256:=UInt8.toNat_lt c
theorem mB:sI cu aR bY where
 path c:=by
  have:=kG c;rw[bF,cu,tq _ _ _ (by omega),decide_eq_true_iff,CH];show _↔c.toNat≠0;omega
 part c:=by
  have:=kG c;rw[bF,aR,cu,zd,tq _ _ _ (by omega),oH,CH,CH];show _↔c.toNat≠0/\c.toNat≠47;by_cases h:c.toNat=47
  ·rw[h]; decide
  ·by_cases h2:c.toNat=0
   ·rw[h2]; decide
   ·rw[dT (show 1<=c.toNat/\c.toNat<=255 by omega),dF (show¬47=c.toNat by omega)];simp[h,h2]
 slash c:=by
  rw[bF,bY,oH,decide_eq_true_iff,iO];show 47=c.toNat↔c.toNat=47;omega
def ki(f:UInt8->Bool)(n:Nat):Prop:=n<2^256/\∀c:UInt8,bF n c=f c
theorem JR{a b:UInt8}(h:a<=b):ki (fun c=>decide (a<=c)&&decide (c<=b)) (jc a.toNat b.toNat):=by
 have h':a.toNat<=b.toNat:=sY.mp h;refine⟨cW (Ex h') (kd (by omega) (by have:=kG b; omega)),fun c=>?_⟩;rw[bF,tq _ _ _ h',Bool.decide_and]
 congr 1
theorem UA{f g:UInt8->Bool}{m n:Nat}(h1:ki f m)(h2:ki g n):ki (fun c=>f c||g c) (m|||n):=
 ⟨Nat.or_lt_two_pow h1.1 h2.1,fun c=>by show bF (m|||n) c=(f c||g c); rw[<-h1.2 c,<-h2.2 c]; simp[bF]⟩
theorem Uz{f:UInt8->Bool}{m:Nat}(h:ki f m):ki (fun c=>!f c) (jc 0 255^^^m):=by
 refine⟨Nat.xor_lt_two_pow (Ex (by omega)) h.1,fun c=>?_⟩;have:=kG c;show bF (jc 0 255^^^m) c=!f c;rw[<-h.2 c,bF,zd,tq _ _ _ (by omega),dT (by omega),bF];cases m.testBit c.toNat<;>rfl
theorem JS(c:UInt8):ki (fun d=>d==c) (2^c.toNat):=by
 have:=kG c;refine⟨oG (by omega) this,fun d=>?_⟩;rw[bF,oH];by_cases h:d=c
 ·subst h; simp
 ·rw[dF (fun e=>h (iO.mpr e.symm))];exact(beq_false_of_ne h).symm
theorem zM{a:bc}(ha:a≠.star){n:Nat}(h:ki a.takes n):og aR a ⟨0,n&&&aR,false⟩:=by
 refine(zL ha).mpr ⟨rfl,rfl,fun d=>?_⟩;show(n&&&aR).testBit d.toNat=true↔_;rw[lX,cA,<-mB.part d];have:=h.2 d;unfold bF at this⊢;rw[this];exact And.comm
theorem Ng:og aR .any ⟨0,aR&&&aR,false⟩:=by
 refine(zL VW).mpr ⟨rfl,rfl,fun d=>?_⟩;rw[Nat.and_self];show bF aR d=true↔_;rw[mB.part d];show _↔_/\true=true;simp
def fh(s:ag):Option ((UInt8×UInt8)×ag):=match inClass s with
 |none=>none
 |some (a,r)=>if r.head?=some 45 then(match inClass (r.drop 1)with
   |none=>none
   |some (b,q)=>if a<=b then some ((a,b),q)else none)
  else some ((a,a),r)
theorem xS(n:Nat)(s:ag)(h:s.head?≠some 93):jS (n+1) s=match fh s with
  |none=>none
  |some (ab,q)=>(jS n q).map fun x=>(ab::x.1,x.2):=by
 rw[jS,if_neg h];unfold fh;cases inClass s with
 |none=>rfl
 |some x=>
  obtain⟨a,r⟩:=x;simp only;by_cases c:r.head?=some 45
  ·rw[if_pos c,if_pos c];cases inClass (r.drop 1)with
   |none=>rfl
   |some y=>
    obtain⟨b,q⟩:=y;simp only;by_cases d:a<=b
    ·rw[if_pos d,if_pos d]
    ·rw[if_neg d,if_neg d]
  ·rw[if_neg c,if_neg c]
theorem FU{s:ag}{i:Nat}(h:s.length<=i):inClass (s.drop i)=none:=by
 rw[jZ h]; rfl
theorem gr{α:Type}{s:List α}{i:Nat}{c:α}(h:s[i]?=some c):s.drop i=c::s.drop (i+1):=jF.mpr ⟨h,rfl⟩
theorem wN{s:ag}{i:Nat}{c:UInt8}(h:s[i]?=some c)(hc:c=93\/c=45):inClass (s.drop i)=none:=by
 rw[gr h]
 have h92:c≠92:=by
  rcases hc with rfl|rfl<;>decide
 cases s.drop (i+1)with
 |nil=>
  rw[inClass,if_pos (.inr hc)]
 |cons d r=>rw[inClass,if_neg h92,if_pos hc]
theorem FV{s:ag}{i:Nat}(h:s[i]?=some 92):inClass (s.drop i)=match s[i+1]? with
  |none=>none
  |some d=>some (d,s.drop (i+2)):=by
 rw[gr h];cases e:s[i+1]? with
 |none=>
  rw[jZ (Dt.mp e)];rfl
 |some d=>
  rw[gr e];rfl
theorem FT{s:ag}{i:Nat}{c:UInt8}(h:s[i]?=some c)(h1:c≠93)(h2:c≠45)(h3:c≠92):inClass (s.drop i)=some (c,s.drop (i+1)):=by
 rw[gr h];cases s.drop (i+1)with
 |nil=>rw[inClass,if_neg (by simp[h1,h2,h3])]
 |cons d r=>rw[inClass,if_neg h3,if_neg (by simp[h1,h2])]
def At(s:ag)(i:Nat)(r:ag)(j:Nat):Prop:=i<j/\j<=s.length/\r=s.drop j
theorem Am{s:ag}{i:Nat}{c:UInt8}{r:ag}(h:inClass (s.drop i)=some (c,r)):∃j,At s i r j:=by
 cases e:s[i]? with
 |none=>rw[FU (Dt.mp e)]at h; cases h
 |some d=>
  have hi:i<s.length:=(aK.mp e).1;by_cases h1:d=93
  ·rw[wN e (.inl h1)]at h; cases h
  by_cases h2:d=45
  ·rw[wN e (.inr h2)]at h; cases h
  by_cases h3:d=92
  ·subst h3;rw[FV e]at h;cases e1:s[i+1]? with
   |none=>rw[e1]at h; cases h
   |some x=>
    rw[e1]at h;cases h;exact⟨i+2,by omega,by have:=(aK.mp e1).1; omega,rfl⟩
  ·rw[FT e h1 h2 h3]at h;cases h;exact⟨i+1,by omega,by omega,rfl⟩
theorem Xb{s:ag}{c:UInt8}{r:ag}(h:inClass s=some (c,r)):r.length<s.length:=by
 have h':inClass (s.drop 0)=some (c,r):=h;obtain⟨j,h1,h2,rfl⟩:=Am h';rw[cI]; omega
theorem Wh{s:ag}{i:Nat}{ab:UInt8×UInt8}{r:ag}(h:fh (s.drop i)=some (ab,r)):ab.1<=ab.2/\∃j,At s i r j:=by
 unfold fh at h;cases e:inClass (s.drop i)with
 |none=>rw[e]at h; cases h
 |some x=>
  obtain⟨a,q⟩:=x;rw[e]at h;simp only at h;obtain⟨j,h1,h2,rfl⟩:=Am e;by_cases c:(s.drop j).head?=some 45
  ·rw[if_pos c,fO]at h;cases e2:inClass (s.drop (j+1))with
   |none=>rw[e2]at h; cases h
   |some y=>
    obtain⟨b,q2⟩:=y;rw[e2]at h;simp only at h;by_cases d:a<=b
    ·rw[if_pos d]at h;cases h;obtain⟨k,g1,g2,rfl⟩:=Am e2;exact⟨d,k,by omega,g2,rfl⟩
    ·rw[if_neg d]at h; cases h
  ·rw[if_neg c]at h;cases h;exact⟨UInt8.le_refl _,j,h1,h2,rfl⟩
theorem Cm{s:ag}{ab:UInt8×UInt8}{r:ag}(h:fh s=some (ab,r)):r.length<s.length:=by
 have h':fh (s.drop 0)=some (ab,r):=h;obtain⟨_,j,h1,h2,rfl⟩:=Wh h';rw[cI]; omega
theorem Ky:∀(n m:Nat)(s:ag),s.length<n->s.length<m->jS n s=jS m s
 |0,_,_,h,_=>by omega
 |_,0,_,_,h=>by omega
 |n+1,m+1,s,h1,h2=>by
  by_cases c:s.head?=some 93
  ·rw[jS,jS,if_pos c,if_pos c]
  ·rw[xS n s c,xS m s c];cases e:fh s with
   |none=>rfl
   |some x=>
    obtain⟨ab,q⟩:=x;have:=Cm e;simp only;rw[Ky n m q (by omega) (by omega)]
def gz(s:ag):Option (List (UInt8×UInt8)×ag):=jS (s.length+1) s
theorem KA{n:Nat}{s:ag}(h:s.length<n):jS n s=gz s:=Ky _ _ _ h (by omega)
theorem KC{s:ag}(h:s.head?=some 93):gz s=some ([],s.drop 1):=by rw[gz,jS,if_pos h]
theorem KB{s:ag}(h:s.head?≠some 93):gz s=match fh s with
  |none=>none
  |some (ab,q)=>(gz q).map fun x=>(ab::x.1,x.2):=by
 rw[gz,xS _ _ h];cases e:fh s with
 |none=>rfl
 |some x=>
  obtain⟨ab,q⟩:=x;simp only;rw[KA (Cm e)]
def jB(t:ag)(rs:List (UInt8×UInt8))(q:ag):Prop:=gz t=(gz q).map fun x=>(rs++x.1,x.2)
theorem Ku(t:ag):jB t [] t:=by
 unfold jB;cases gz t<;>rfl
theorem Kw{t q q':ag}{rs:List (UInt8×UInt8)}{ab:UInt8×UInt8}(h:jB t rs q)(h1:q.head?≠some 93)(h2:fh q=some (ab,q')):jB t (rs++[ab]) q':=by
 unfold jB at h⊢;rw[h,KB h1,h2];simp only;cases gz q' with
 |none=>rfl
 |some x=>simp
theorem Kt{t q:ag}{rs:List (UInt8×UInt8)}(h:jB t rs q)(h1:q.head?≠some 93)(h2:fh q=none):gz t=none:=by
 rw[h,KB h1,h2]; rfl
theorem Kv{t:ag}{rs:List (UInt8×UInt8)}(h:jB t rs []):gz t=none:=by rw[h]; rfl
theorem Kx{t q:ag}{rs:List (UInt8×UInt8)}(h:jB t rs q)(h1:q.head?=some 93):gz t=some (rs,q.drop 1):=by rw[h,KC h1]; simp
theorem Kz:∀(n:Nat){s:ag}{rs:List (UInt8×UInt8)}{r:ag},jS n s=some (rs,r)->r.length<s.length
 |0,s,rs,r,h=>by cases h
 |n+1,s,rs,r,h=>by
  by_cases c:s.head?=some 93
  ·rw[jS,if_pos c]at h;cases h;cases s with
   |nil=>cases c
   |cons x s=>simp
  ·rw[xS _ _ c]at h;cases e:fh s with
   |none=>rw[e]at h; cases h
   |some x=>
    obtain⟨ab,q⟩:=x;rw[e]at h;simp only at h;have l1:=Cm e;cases e2:jS n q with
    |none=>rw[e2]at h; cases h
    |some y=>
     obtain⟨rs',r'⟩:=y;rw[e2]at h;cases h;have:=Kz n e2;show r'.length<s.length;omega
def SetOf(rs:List (UInt8×UInt8))(n:Nat):Prop:=ki (fun c=>rs.any fun r=>decide (r.1<=c)&&decide (c<=r.2)) n
theorem Uw{ab:UInt8×UInt8}(h:ab.1<=ab.2):SetOf [ab] (jc ab.1.toNat ab.2.toNat):=by
 have:=JR h;refine⟨this.1,fun c=>?_⟩;rw[this.2 c];simp
theorem Ux{rs:List (UInt8×UInt8)}{n:Nat}{ab:UInt8×UInt8}(h:SetOf rs n)(hab:ab.1<=ab.2):SetOf (rs++[ab]) (n|||jc ab.1.toNat ab.2.toNat):=by
 have:=UA h (JR hab);refine⟨this.1,fun c=>?_⟩;rw[this.2 c];simp
def eA:ag->Option (bc×ag)
 | []=>none
 |c::s=>
  if c=42 then some (.star,s)
  else if c=63 then some (.any,s)
  else if c=92 then(match s with
   | []=>none
   |d::r=>some (.byte d,r))
  else if c=91 then(match gz (if s.head?=some 33 then s.drop 1 else s)with
   |none=>none
   |some (rs,r)=>if rs.isEmpty=true then none else some (.cls (s.head?==some 33) rs,r))
  else some (.byte c,s)
theorem zC(n:Nat)(c:UInt8)(s:ag):atoms (n+1) (c::s)=(eA (c::s)).bind fun x=>(atoms n x.2).map fun l=>x.1::l:=by
 rw[atoms.eq_def,eA.eq_def];simp only;by_cases h1:c=42
 ·rw[if_pos h1,if_pos h1]; rfl
 rw[if_neg h1,if_neg h1];by_cases h2:c=63
 ·rw[if_pos h2,if_pos h2]; rfl
 rw[if_neg h2,if_neg h2];by_cases h3:c=92
 ·rw[if_pos h3,if_pos h3];cases s with
  |nil=>rfl
  |cons d r=>rfl
 rw[if_neg h3,if_neg h3];by_cases h4:c=91
 ·rw[if_pos h4,if_pos h4]
  have hl:(if s.head?=some 33 then s.drop 1 else s).length<s.length+1:=by
   by_cases z:s.head?=some 33
   ·rw[if_pos z,cI]; omega
   ·rw[if_neg z]; omega
  rw[KA hl];cases gz (if s.head?=some 33 then s.drop 1 else s)with
  |none=>rfl
  |some x=>
   obtain⟨rs,r⟩:=x;simp only;by_cases z:rs.isEmpty=true
   ·rw[if_pos z,if_pos z]; rfl
   ·rw[if_neg z,if_neg z]; rfl
 ·rw[if_neg h4,if_neg h4]; rfl
theorem AN{s:ag}{a:bc}{r:ag}(h:eA s=some (a,r)):r.length<s.length:=by
 cases s with
 |nil=>cases h
 |cons c s=>
  rw[eA.eq_def]at h;simp only at h;by_cases h1:c=42
  ·rw[if_pos h1]at h; cases h; simp
  rw[if_neg h1]at h;by_cases h2:c=63
  ·rw[if_pos h2]at h; cases h; simp
  rw[if_neg h2]at h;by_cases h3:c=92
  ·rw[if_pos h3]at h;cases s with
   |nil=>cases h
   |cons d s=>cases h; simp only[bG]; omega
  rw[if_neg h3]at h;by_cases h4:c=91
  ·rw[if_pos h4]at h;cases e:gz (if s.head?=some 33 then s.drop 1 else s)with
   |none=>rw[e]at h; cases h
   |some x=>
    obtain⟨rs,q⟩:=x;rw[e]at h;simp only at h;by_cases z:rs.isEmpty=true
    ·rw[if_pos z]at h; cases h
    ·rw[if_neg z]at h;cases h;have:=Kz _ e
     have hl:(if s.head?=some 33 then s.drop 1 else s).length<=s.length:=by
      by_cases z:s.head?=some 33
      ·rw[if_pos z,cI]; omega
      ·rw[if_neg z]; omega
     simp only[bG]; omega
  ·rw[if_neg h4]at h; cases h; simp
theorem Ep:∀(n m:Nat)(s:ag),s.length<n->s.length<m->atoms n s=atoms m s
 |0,_,_,h,_=>by omega
 |_,0,_,_,h=>by omega
 |n+1,m+1,[],_,_=>rfl
 |n+1,m+1,c::s,h1,h2=>by
  rw[zC,zC];cases e:eA (c::s)with
  |none=>rfl
  |some x=>
   have:=AN (a:=x.1) (r:=x.2) e;show(atoms n x.2).map _=(atoms m x.2).map _;rw[Ep n m x.2 (by omega) (by omega)]
def ats(s:ag):Option (List bc):=atoms (s.length+1) s
theorem Es:ats []=some []:=rfl
theorem zD{s:ag}(h:s≠[]):ats s=(eA s).bind fun x=>(ats x.2).map fun l=>x.1::l:=by
 cases s with
 |nil=>exact absurd rfl h
 |cons c s=>
  unfold ats;rw[zC];cases e:eA (c::s)with
  |none=>rfl
  |some x=>
   have:=AN (a:=x.1) (r:=x.2) e;show(atoms (c::s).length x.2).map _=(atoms (x.2.length+1) x.2).map _;rw[Ep _ (x.2.length+1) x.2 (by omega) (by omega)]
def mR(s:ag)(as:List bc)(q:ag):Prop:=ats s=(ats q).map fun l=>as++l
theorem MI(s:ag):mR s [] s:=by
 unfold mR;cases ats s<;>rfl
theorem MJ{s q q':ag}{as:List bc}{a:bc}(h:mR s as q)(hq:q≠[])(h2:eA q=some (a,q')):mR s (as++[a]) q':=by
 unfold mR at h⊢;rw[h,zD hq,h2];show Option.map _ ((ats q').map _)=_;cases ats q' with
 |none=>rfl
 |some x=>simp
theorem MH{s q:ag}{as:List bc}(h:mR s as q)(hq:q≠[])(h2:eA q=none):ats s=none:=by
 rw[h,zD hq,h2]; rfl
theorem MG{s:ag}{as:List bc}(h:mR s as []):ats s=some as:=by
 rw[h,Es]; simp
theorem EO:∀{as:List bc}{cs:List MC}{a:bc}{c:MC},jr aR as cs->og aR a c->jr aR (as++[a]) (cs++[c])
 | [],_,_,_,.nil,h=>.cons h .nil
 |_::_,_::_,_,_,.cons h1 h2,h=>.cons h1 (EO h2 h)
inductive oh:List Seg->List MC->Prop
 |nil:oh [] []
 |deep {r:List Seg} {cs:List MC}:oh r cs->oh (r++[.deep]) (cs++[⟨cu,bY,true⟩])
 |one {r:List Seg} {cs ds:List MC} {as:List bc}:oh r cs->jr aR as ds->oh (r++[.one as]) ((cs++ds)++[⟨0,bY,false⟩])
theorem wz:∀{r:List Seg}{cs:List MC},oh r cs->∀{b:Seg}{t:List Seg}{ds:List MC},iu cu aR bY (b::t) ds->iu cu aR bY (r++b::t) (cs++ds)
 |_,_,.nil,b,t,ds,h=>h
 |_,_,.deep (r:=r) (cs:=cs) h1,b,t,ds,h=>by
  have:=wz h1 (.deep h);rw[dk,dk];exact this
 |_,_,.one (r:=r) (cs:=cs) (ds:=es) (as:=as) h1 h2,b,t,ds,h=>by
  have:=wz h1 (.one h2 h);rw[dk,dk,dk];exact this
theorem pW(s:ag)(r:List ag):dI (s::r)=match hX s,dI r with
  |some x,some l=>some (x::l)
  |_,_=>none:=rfl
theorem JO:∀(a b:List ag),dI (a++b)=match dI a,dI b with
  |some x,some y=>some (x++y)
  |_,_=>none
 | [],b=>by
  show dI b=_;rw[show dI []=some []from rfl];cases dI b<;>rfl
 |s::a,b=>by
  rw[oy,pW,pW,JO a b];cases hX s with
  |none=>rfl
  |some x=>
   cases dI a with
   |none=>rfl
   |some y=>
    cases dI b with
    |none=>rfl
    |some z=>rfl
theorem JP{l:List ag}{i:Nat}{s:ag}(h:l[i]?=some s)(hs:hX s=none):dI l=none:=by
 induction l generalizing i with
 |nil=>simp at h
 |cons x r ih=>
  rw[pW]
  match i,h with
  |0,h=>
   have:x=s:=by simpa using h
   subst this;rw[hs]
  |i+1,h=>
   rw[ih (by simpa using h)];cases hX x<;>rfl
theorem uC:hX []=none:=rfl
theorem uB:hX [42,42]=some .deep:=rfl
theorem uD{s:ag}(h1:s≠[])(h2:s≠[42,42]):hX s=(ats s).map .one:=by
 unfold hX;rw[if_neg h1,if_neg h2];rfl
def nL(s:ag):Option cX:=
 bodyOf (s.head?==some 33) ((if(s.head?==some 33)=true then s.drop 1 else s).getLast?==some 47)
  (if((if(s.head?==some 33)=true then s.drop 1 else s).getLast?==some 47)=true then(if(s.head?==some 33)=true then s.drop 1 else s).dropLast else(if(s.head?==some 33)=true then s.drop 1 else s))
theorem Ax{s:ag}(h:s=[]\/s.head?=some 35):dB s=some none:=by
 unfold dB;rw[if_pos h]
theorem Ay{s:ag}(h: ¬(s=[]\/s.head?=some 35)):dB s=(nL s).map some:=by
 unfold dB;rw[if_neg h];rfl
def gM(s:ag):List ag:=aG 47 (if s.contains 47=true then(if s.head?=some 47 then s.drop 1 else s)else 42::42::47::s)
theorem zI(neg dirs:Bool)(s:ag):bodyOf neg dirs s=(dI (gM s)).map fun l=>⟨neg,dirs,s.contains 47,l⟩:=by
 unfold bodyOf gM;by_cases h:s.contains 47=true
 ·rw[if_pos h];simp only[if_pos h]
 ·rw[if_neg h];have hm:(47:UInt8)∉s:=by simpa using h
  have hh:s.head?≠some 47:=fun z=>by
   cases s with
   |nil=>cases z
   |cons c s=>
    have:c=47:=by simpa using z
    subst this;exact hm (by simp)
  rw[if_neg hh]
  have e:aG 47 (42::42::47::s)=[42,42]::aG 47 s:=by
   have:=mL 47 [42,42] s;rw[jQ (c:=47) (s:=[42,42]) (by decide)]at this;exact this
  rw[e,pW,uB];cases dI (aG 47 s)with
  |none=>rfl
  |some l=>simp only[kT,if_neg h]
def eW(segs:List Seg):ag->Spot->Prop
 | [],x=>pathEnds segs x=true
 |c::z,x=>if c=47 then∃y,y∈mE segs x/\eW segs z y else∃y,y∈jh segs c x/\eW segs z y
theorem wa{segs:List Seg}{z:ag}{x:Spot}:eW segs (47::z) x↔∃y,y∈mE segs x/\eW segs z y:=by
 show(if(47:UInt8)=47 then _ else _)↔_;rw[if_pos rfl]
theorem vZ{segs:List Seg}{c:UInt8}{z:ag}{x:Spot}(h:c≠47):eW segs (c::z) x↔∃y,y∈jh segs c x/\eW segs z y:=by
 show(if c=47 then _ else _)↔_;rw[if_neg h]
theorem HA{as:List bc}{k f j:Nat}(h:as[j]?=some .star):passing as k (f+1) j=.atom k j::passing as k f (j+1):=by
 rw[passing];split
 ·rfl
 ·next h'=>exact absurd h h'
theorem RG{as:List bc}{k f j:Nat}(h: ¬as[j]?=some .star):passing as k (f+1) j=[.atom k j]:=by
 rw[passing];split
 ·next h'=>exact absurd h' h
 ·rfl
theorem Hx{segs:List Seg}{k i:Nat}{as:List bc}(hk:segs[k]?=some (.one as)):rK segs (.atom k i)=(i==as.length):=by
 unfold rK;simp only[hk]
theorem Hk{segs:List Seg}{c:UInt8}{k i:Nat}{as:List bc}(hk:segs[k]?=some (.one as))(h:as[i]?=none):jh segs c (.atom k i)=[]:=by
 unfold jh;simp only[hk,h]
theorem Hn{segs:List Seg}{c:UInt8}{k i:Nat}{as:List bc}(hk:segs[k]?=some (.one as))(h:as[i]?=some .star):jh segs c (.atom k i)=[.atom k i]++passing as k as.length (i+1):=by
 unfold jh;simp only[hk,h]
theorem Hm{segs:List Seg}{c:UInt8}{k i:Nat}{as:List bc}{a:bc}(hk:segs[k]?=some (.one as))(h:as[i]?=some a)(hs:a≠.star):
  jh segs c (.atom k i)=if a.takes c=true then passing as k as.length (i+1)else []:=by
 unfold jh;cases a with
 |star=>exact absurd rfl hs
 |any=>simp only[hk,h]
 |byte c=>simp only[hk,h]
 |cls n rs=>simp only[hk,h]
theorem nJ(as:List bc)(k:Nat):∀(f j:Nat)(x:Spot),x∈passing as k f j↔∃i,j<=i/\i<=j+f/\x=.atom k i/\∀m,j<=m->m<i->as[m]?=some .star
 |0,j,x=>by
  rw[passing,cD];constructor
  ·rintro rfl;exact⟨j,aF _,aF _,rfl,fun m a b=>by omega⟩
  ·rintro⟨i,h1,h2,rfl,_⟩;rw[show i=j by omega]
 |f+1,j,x=>by
  have base:(∃i,j<=i/\i<=j+(f+1)/\x=.atom k i/\∀m,j<=m->m<i->as[m]?=some .star)↔x=.atom k j\/(as[j]?=some .star/\∃i,j+1<=i/\i<=j+1+f/\x=.atom k i/\∀m,j+1<=m->m<i->as[m]?=some .star):=by
   constructor
   ·rintro⟨i,h1,h2,rfl,h3⟩;by_cases e:i=j
    ·rw[e]; exact .inl rfl
    ·exact .inr ⟨h3 j (aF _) (by omega),i,by omega,by omega,rfl,fun m a b=>h3 m (by omega) b⟩
   ·rintro(rfl|⟨h0,i,h1,h2,rfl,h3⟩)
    ·exact⟨j,aF _,by omega,rfl,fun m a b=>by omega⟩
    ·refine⟨i,by omega,by omega,rfl,fun m a b=>?_⟩;by_cases e:m=j
     ·rw[e]; exact h0
     ·exact h3 m (by omega) b
  rw[base,<-nJ as k f (j+1) x];by_cases h:as[j]?=some .star
  ·rw[HA h,bg];simp[h]
  ·rw[RG h,cD];simp[h]
def sQ(as:List bc)(s:ag):Prop:=match as with
 | []=>s=[]
 |a::r=>∃c v,s=c::v/\a.takes c=true/\(match a with
  |.star=>eP (.star::r) v
  |_=>eP r v)
theorem Bd{r:List bc}{s:ag}:sQ (.star::r) s↔∃c v,s=c::v/\eP (.star::r) v:=by
 constructor
 ·rintro⟨c,v,h1,_,h2⟩;exact⟨c,v,h1,h2⟩
 ·rintro⟨c,v,h1,h2⟩;exact⟨c,v,h1,rfl,h2⟩
theorem Hq{a:bc}{r:List bc}{s:ag}(h:a≠.star):sQ (a::r) s↔eP (a::r) s:=by
 rw[mz h];cases a with
 |star=>exact absurd rfl h
 |any=>exact fk
 |byte c=>exact fk
 |cls n rs=>exact fk
theorem Pr{a:bc}{r:List bc}{s:ag}:eP (a::r) s↔sQ (a::r) s\/(a=.star/\eP r s):=by
 by_cases h:a=.star
 ·subst h;rw[Bd,kq];constructor
  ·rintro⟨u,v,rfl,h⟩;cases u with
   |nil=>exact .inr ⟨rfl,h⟩
   |cons c u=>exact .inl ⟨c,u++v,rfl,kq.mpr ⟨u,v,rfl,h⟩⟩
  ·rintro(⟨c,v,rfl,h⟩|⟨_,h⟩)
   ·obtain⟨u,w,e,h'⟩:=kq.mp h;exact⟨c::u,w,by rw[e]; rfl,h'⟩
   ·exact⟨[],s,rfl,h⟩
 ·rw[Hq h];simp[h]
theorem tW(as:List bc)(s:ag):∀(n j:Nat),j+n=as.length->(eP (as.drop j) s↔∃i,j<=i/\i<=as.length/\(∀m,j<=m->m<i->as[m]?=some .star)/\sQ (as.drop i) s)
 |0,j,h=>by
  rw[jZ (by omega)];constructor
  ·intro q;exact⟨j,aF _,by omega,fun m a b=>by omega,by rw[jZ (by omega)]; exact q⟩
  ·rintro⟨i,h1,h2,_,q⟩;rw[jZ (by omega)]at q;exact q
 |n+1,j,h=>by
  obtain⟨a,ha⟩:∃a,as[j]?=some a:=⟨_,bL (by omega)⟩;rw[gr ha,Pr,tW as s n (j+1) (by omega)];constructor
  ·rintro(q|⟨rfl,i,h1,h2,h3,q⟩)
   ·exact⟨j,aF _,by omega,fun m a b=>by omega,by rw[gr ha]; exact q⟩
   ·refine⟨i,by omega,h2,fun m a b=>?_,q⟩;by_cases e:m=j
    ·rw[e]; exact ha
    ·exact h3 m (by omega) b
  ·rintro⟨i,h1,h2,h3,q⟩;by_cases e:i=j
   ·subst e;rw[gr ha]at q;exact .inl q
   ·have:a=.star:=by
     have:=h3 j (aF _) (by omega);rw[ha]at this;exact eE this
    exact .inr ⟨this,i,by omega,h2,fun m a b=>h3 m (by omega) b,q⟩
def qK(segs:List Seg)(k:Nat)(q:bj):Prop:=(q=[]/\k+1=segs.length)\/(q≠[]/\cB (segs.drop (k+1)) q)
theorem uy{segs:List Seg}{k:Nat}{q:bj}(hk:k<segs.length):qK segs k q↔cB (segs.drop (k+1)) q:=by
 unfold qK;constructor
 ·rintro(⟨rfl,h⟩|⟨_,h⟩)
  ·rw[jZ (by omega)]; rfl
  ·exact h
 ·intro h;by_cases e:q=[]
  ·subst e;refine .inl ⟨rfl,?_⟩;by_cases z:k+1=segs.length
   ·exact z
   ·exact absurd h (rD (by
     intro y;have:(segs.drop (k+1)).length=0:=(by rw[y]; rfl); rw[cI]at this;omega))
  ·exact .inr ⟨e,h⟩
section
variable(segs:List Seg)
theorem Mz:∀(n:Nat)(z:ag),z.length<=n->
  (∀k,k<segs.length->((∃x,x∈fb k (segs.drop k)/\eW segs z x)↔cB (segs.drop k) (aG 47 z)))/\
  (∀k,segs[k]?=some .deep->(eW segs z (.deep k)↔∃s q,aG 47 z=s::q/\((q=[]/\k+1=segs.length)\/(q≠[]/\cB (segs.drop k) q))))/\
  (∀k as j,segs[k]?=some (.one as)->j<=as.length->((∃x,x∈passing as k as.length j/\eW segs z x)↔∃s q,aG 47 z=s::q/\eP (as.drop j) s/\qK segs k q)):=by
 intro n
 induction n with
 |zero=>
  intro z hz;have:z=[]:=mV.mp (by omega);subst this
  have hD:∀k,segs[k]?=some .deep->(eW segs [] (.deep k)↔∃s q,aG 47 []=s::q/\((q=[]/\k+1=segs.length)\/(q≠[]/\cB (segs.drop k) q))):=by
   intro k hk;show pathEnds segs (.deep k)=true↔_;unfold pathEnds rK;simp only[yq,beq_iff_eq];constructor
   ·intro h;exact⟨[],[],rfl,.inl ⟨rfl,h⟩⟩
   ·rintro⟨s,q,e,h⟩;have e: [[]]=s::q:=e;cases e;rcases h with⟨_,h⟩|⟨h,_⟩
    ·exact h
    ·exact absurd rfl h
  have hA:∀k as j,segs[k]?=some (.one as)->j<=as.length->((∃x,x∈passing as k as.length j/\eW segs [] x)↔∃s q,aG 47 []=s::q/\eP (as.drop j) s/\qK segs k q):=by
   intro k as j hk hj
   have one:∀i,eW segs [] (.atom k i)↔i=as.length/\k+1=segs.length:=fun i=>by
    show(rK segs (.atom k i)&&(k+1==segs.length))=true↔_;rw[Hx hk];simp only[cA,beq_iff_eq]
   constructor
   ·rintro⟨x,hx,ha⟩;obtain⟨i,h1,h2,rfl,h3⟩:=(nJ _ _ _ _ _).mp hx;obtain⟨rfl,e⟩:=(one i).mp ha;refine⟨[],[],rfl,(tW as [] (as.length-j) j (by omega)).mpr ⟨as.length,hj,aF _,h3,?_⟩,.inl ⟨rfl,e⟩⟩;rw[jZ (aF _)];rfl
   ·rintro⟨s,q,e,hm,hr⟩;have e: [[]]=s::q:=e;cases e;rcases hr with⟨_,hr⟩|⟨hr,_⟩
    ·obtain⟨i,h1,h2,h3,ho⟩:=(tW as [] (as.length-j) j (by omega)).mp hm
     have ei:i=as.length:=by
      by_cases z:i=as.length
      ·exact z
      ·obtain⟨a,ha⟩:∃a,as[i]?=some a:=⟨_,bL (by omega)⟩;rw[gr ha]at ho;obtain⟨c,v,e,_⟩:=ho;cases e
     subst ei;exact⟨_,(nJ _ _ _ _ _).mpr ⟨as.length,hj,by omega,rfl,h3⟩,(one _).mpr ⟨rfl,hr⟩⟩
    ·exact absurd rfl hr
  refine⟨?_,hD,hA⟩
  suffices key:∀(r:List Seg) k,segs.drop k=r->r≠[]->((∃x,x∈fb k r/\eW segs [] x)↔cB r (aG 47 []))from
   fun k hk=>key _ k rfl (by intro y; have:(segs.drop k).length=0:=(by rw[y]; rfl); rw[cI]at this; omega)
  intro r
  induction r with
  |nil=>intro k _ h; exact absurd rfl h
  |cons b r ih=>
   intro k hk _
   have hb:segs[k]?=some b:=by
    have:=(jF.mp hk).1;exact this
   have hr:segs.drop (k+1)=r:=(jF.mp hk).2;have hlt:k<segs.length:=(aK.mp hb).1;cases b with
   |one as=>
    show(∃x,x∈passing as k as.length 0/\eW segs [] x)↔_;rw[hA k as 0 hb (bC _),ku];constructor
    ·rintro⟨s,q,e,h1,h2⟩;exact⟨s,q,e,h1,by rw[<-hr]; exact(uy hlt).mp h2⟩
    ·rintro⟨s,q,e,h1,h2⟩;exact⟨s,q,e,h1,(uy hlt).mpr (by rw[hr]; exact h2)⟩
   |deep=>
    rw[fb];cases r with
    |nil=>
     rw[rC];constructor
     ·intro _; exact eV _ _
     ·intro _;refine⟨.deep k,by simp,(hD k hb).mpr ⟨[],[],rfl,.inl ⟨rfl,?_⟩⟩⟩;have:(segs.drop (k+1)).length=0:=by rw[hr]; rfl
      rw[cI]at this;omega
    |cons b' r'=>
     have ih':=ih (k+1) hr (by simp);rw[gY];constructor
     ·rintro⟨x,hx,ha⟩;rcases bg.mp hx with rfl|hx
      ·obtain⟨s,q,e,h⟩:=(hD k hb).mp ha;have e: [[]]=s::q:=e;cases e;rcases h with⟨_,h⟩|⟨h,_⟩
       ·exfalso;have:(segs.drop (k+1)).length=(b'::r').length:=by rw[hr]
        rw[cI,bG]at this;omega
       ·exact absurd rfl h
      ·exact⟨[],_,rfl,ih'.mp ⟨x,hx,ha⟩⟩
     ·rintro⟨u,v,e,h⟩;have e:([[]]:bj)=u++v:=e;cases u with
      |nil=>
       have:v=[[]]:=e.symm;subst this;obtain⟨x,hx,ha⟩:=ih'.mpr h;exact⟨x,bU _ hx,ha⟩
      |cons s u=>
       have:v=[]:=by
        cases u with
        |nil=>simp at e; exact e.2
        |cons t u=>simp at e
       subst this;exact absurd h (rD (by simp))
 |succ n ihn=>
  intro z hz;by_cases hz0:z.length<=n
  ·exact ihn z hz0
  cases z with
  |nil=>simp at hz0
  |cons c z=>
   have hz':z.length<=n:=by simpa using hz
   obtain⟨ihS,ihD,ihA⟩:=ihn z hz'
   have hD:∀k,segs[k]?=some .deep->(eW segs (c::z) (.deep k)↔∃s q,aG 47 (c::z)=s::q/\((q=[]/\k+1=segs.length)\/(q≠[]/\cB (segs.drop k) q))):=by
    intro k hk;have hlt:k<segs.length:=(aK.mp hk).1;by_cases hc:c=47
    ·subst hc;rw[wa,nS]
     have e:mE segs (.deep k)=fb k (segs.drop k):=by
      unfold mE rK;simp
     rw[e,ihS k hlt];constructor
     ·intro h;exact⟨[],_,rfl,.inr ⟨eV _ _,h⟩⟩
     ·rintro⟨s,q,e,h⟩;cases e;rcases h with⟨h,_⟩|⟨_,h⟩
      ·exact absurd h (eV _ _)
      ·exact h
    ·rw[vZ hc];have e:jh segs c (.deep k)=[.deep k]:=rfl;rw[e];cases q0:aG 47 z with
     |nil=>exact absurd q0 (eV _ _)
     |cons y r=>
      rw[lI hc q0];have ih:=ihD k hk;rw[q0]at ih;constructor
      ·rintro⟨x,hx,ha⟩;have:x=.deep k:=by simpa using hx
       subst this;obtain⟨s,q,e,h⟩:=ih.mp ha;cases e;exact⟨_,_,rfl,h⟩
      ·rintro⟨s,q,e,h⟩;cases e;exact⟨.deep k,by simp,ih.mpr ⟨_,_,rfl,h⟩⟩
   have hB:∀k as i,segs[k]?=some (.one as)->i<=as.length->(eW segs (c::z) (.atom k i)↔∃s q,aG 47 (c::z)=s::q/\sQ (as.drop i) s/\qK segs k q):=by
    intro k as i hk hi;have hlt:k<segs.length:=(aK.mp hk).1;by_cases hc:c=47
    ·subst hc;rw[wa,nS];have pe:rK segs (.atom k i)=(i==as.length):=Hx hk;by_cases hie:i=as.length
     ·have e:mE segs (.atom k i)=fb (k+1) (segs.drop (k+1)):=by
       unfold mE;rw[pe];simp[hie]
      rw[e];by_cases hk1:k+1<segs.length
      ·rw[ihS (k+1) hk1];constructor
       ·intro h;refine⟨[],_,rfl,?_,.inr ⟨eV _ _,h⟩⟩;rw[jZ (by omega)]; rfl
       ·rintro⟨s,q,e,_,h⟩;cases e;exact(uy hlt).mp h
      ·have e2:segs.drop (k+1)=[]:=jZ (by omega);rw[e2];constructor
       ·rintro⟨x,hx,_⟩;cases hx
       ·rintro⟨s,q,e,_,h⟩;cases e;rcases h with⟨h,_⟩|⟨h1,h⟩
        ·exact absurd h (eV _ _)
        ·rw[e2]at h;exact absurd h h1
     ·have e:mE segs (.atom k i)=[]:=by
       unfold mE;rw[pe];simp[hie]
      rw[e];constructor
      ·rintro⟨x,hx,_⟩;cases hx
      ·rintro⟨s,q,e,ho,_⟩;cases e;obtain⟨a,ha⟩:∃a,as[i]?=some a:=⟨_,bL (by omega)⟩;rw[gr ha]at ho;obtain⟨d,v,e,_⟩:=ho;cases e
    ·rw[vZ hc];cases q0:aG 47 z with
     |nil=>exact absurd q0 (eV _ _)
     |cons y r=>
      rw[lI hc q0];by_cases hie:i=as.length
      ·have e:jh segs c (.atom k i)=[]:=Hk hk (gT (by omega));rw[e,jZ (by omega)];constructor
       ·rintro⟨x,hx,_⟩;cases hx
       ·rintro⟨s,q,e,ho,_⟩;cases e;have ho:c::y=[]:=ho;cases ho
      ·obtain⟨a,ha⟩:∃a,as[i]?=some a:=⟨_,bL (by omega)⟩;rw[gr ha];by_cases hs:a=.star
       ·subst hs;have e:jh segs c (.atom k i)=[.atom k i]++passing as k as.length (i+1):=Hn hk ha;rw[e];have ih:=ihA k as i hk hi;rw[q0,gr ha]at ih
        have mem:∀x,x∈ [Spot.atom k i]++passing as k as.length (i+1)↔x∈passing as k (as.length+1) i:=fun x=>by
         rw[show passing as k (as.length+1) i=Spot.atom k i::passing as k as.length (i+1)from HA ha];simp
        have big:∀x,x∈passing as k (as.length+1) i↔x∈passing as k as.length i:=fun x=>by
         rw[nJ,nJ];constructor
         ·rintro⟨m,h1,h2,rfl,h3⟩;refine⟨m,h1,?_,rfl,h3⟩;by_cases z:m<=i+as.length
          ·exact z
          ·have:=(aK.mp (h3 (m-1) (by omega) (by omega))).1;omega
         ·rintro⟨m,h1,h2,rfl,h3⟩;exact⟨m,h1,by omega,rfl,h3⟩
        constructor
        ·rintro⟨x,hx,hacc⟩;obtain⟨s,q,e,hm,hr⟩:=ih.mp ⟨x,(big x).mp ((mem x).mp hx),hacc⟩;cases e;exact⟨_,_,rfl,Bd.mpr ⟨c,_,rfl,hm⟩,hr⟩
        ·rintro⟨s,q,e,ho,hr⟩;cases e;obtain⟨d,v,e,hm⟩:=Bd.mp ho;cases e;obtain⟨x,hx,hacc⟩:=ih.mpr ⟨_,_,rfl,hm,hr⟩;exact⟨x,(mem x).mpr ((big x).mpr hx),hacc⟩
       ·have e:jh segs c (.atom k i)=if a.takes c=true then passing as k as.length (i+1)else []:=Hm hk ha hs
        rw[e];simp only[Hq hs];have ih:=ihA k as (i+1) hk (by omega);rw[q0]at ih;by_cases ht:a.takes c=true
        ·rw[if_pos ht,ih];constructor
         ·rintro⟨s,q,e,hm,hr⟩;cases e;exact⟨_,_,rfl,(mz hs).mpr ⟨c,_,rfl,ht,hm⟩,hr⟩
         ·rintro⟨s,q,e,ho,hr⟩;cases e;obtain⟨d,v,e,_,hm⟩:=(mz hs).mp ho;cases e;exact⟨_,_,rfl,hm,hr⟩
        ·rw[if_neg ht];constructor
         ·rintro⟨x,hx,_⟩;cases hx
         ·rintro⟨s,q,e,ho,hr⟩;cases e;obtain⟨d,v,e,h,hm⟩:=(mz hs).mp ho;cases e;exact absurd h ht
   have hA:∀k as j,segs[k]?=some (.one as)->j<=as.length->((∃x,x∈passing as k as.length j/\eW segs (c::z) x)↔∃s q,aG 47 (c::z)=s::q/\eP (as.drop j) s/\qK segs k q):=by
    intro k as j hk hj;constructor
    ·rintro⟨x,hx,ha⟩;obtain⟨i,h1,h2,rfl,h3⟩:=(nJ _ _ _ _ _).mp hx
     have hi:i<=as.length:=by
      by_cases y:i=j
      ·omega
      ·have:=(aK.mp (h3 (i-1) (by omega) (by omega))).1;omega
     obtain⟨s,q,e,ho,hr⟩:=(hB k as i hk hi).mp ha;exact⟨s,q,e,(tW as s (as.length-j) j (by omega)).mpr ⟨i,h1,hi,h3,ho⟩,hr⟩
    ·rintro⟨s,q,e,hm,hr⟩;obtain⟨i,h1,h2,h3,ho⟩:=(tW as s (as.length-j) j (by omega)).mp hm;exact⟨_,(nJ _ _ _ _ _).mpr ⟨i,h1,by omega,rfl,h3⟩,(hB k as i hk h2).mpr ⟨s,q,e,ho,hr⟩⟩
   refine⟨?_,hD,hA⟩
   suffices key:∀(r:List Seg) k,segs.drop k=r->r≠[]->((∃x,x∈fb k r/\eW segs (c::z) x)↔cB r (aG 47 (c::z)))from
    fun k hk=>key _ k rfl (by intro y; have:(segs.drop k).length=0:=(by rw[y]; rfl); rw[cI]at this; omega)
   intro r
   induction r with
   |nil=>intro k _ h; exact absurd rfl h
   |cons b r ih=>
    intro k hk _;have hb:segs[k]?=some b:=(jF.mp hk).1;have hr:segs.drop (k+1)=r:=(jF.mp hk).2;have hlt:k<segs.length:=(aK.mp hb).1;cases b with
    |one as=>
     show(∃x,x∈passing as k as.length 0/\eW segs (c::z) x)↔_;rw[hA k as 0 hb (bC _),ku];constructor
     ·rintro⟨s,q,e,h1,h2⟩;exact⟨s,q,e,h1,by rw[<-hr]; exact(uy hlt).mp h2⟩
     ·rintro⟨s,q,e,h1,h2⟩;exact⟨s,q,e,h1,(uy hlt).mpr (by rw[hr]; exact h2)⟩
    |deep=>
     rw[fb];cases r with
     |nil=>
      rw[rC];constructor
      ·intro _; exact eV _ _
      ·intro _
       have hl:k+1=segs.length:=by
        have:(segs.drop (k+1)).length=0:=by rw[hr]; rfl
        rw[cI]at this;omega
       refine⟨.deep k,by simp,(hD k hb).mpr ?_⟩;cases q0:aG 47 (c::z)with
       |nil=>exact absurd q0 (eV _ _)
       |cons s q=>
        refine⟨s,q,rfl,?_⟩;by_cases hq:q=[]
        ·exact .inl ⟨hq,hl⟩
        ·exact .inr ⟨hq,by rw[hk]; exact hq⟩
     |cons b' r'=>
      have ih':=ih (k+1) hr (by simp)
      have hl:k+1≠segs.length:=fun e=>by
       have:(segs.drop (k+1)).length=(b'::r').length:=by rw[hr]
       rw[cI,bG]at this;omega
      rw[gY];constructor
      ·rintro⟨x,hx,ha⟩;rcases bg.mp hx with rfl|hx
       ·obtain⟨s,q,e,h⟩:=(hD k hb).mp ha;rcases h with⟨_,h⟩|⟨_,h⟩
        ·exact absurd h hl
        ·rw[hk,gY]at h;obtain⟨u,v,e2,h⟩:=h;exact⟨s::u,v,by rw[e,e2]; rfl,h⟩
       ·exact⟨[],_,rfl,ih'.mp ⟨x,hx,ha⟩⟩
      ·rintro⟨u,v,e,h⟩;cases u with
       |nil=>
        have e:aG 47 (c::z)=v:=e;rw[<-e]at h;obtain⟨x,hx,ha⟩:=ih'.mpr h;exact⟨x,bU _ hx,ha⟩
       |cons s u=>
        refine⟨.deep k,dD,(hD k hb).mpr ⟨s,u++v,e,.inr ⟨?_,?_⟩⟩⟩
        ·intro y;have:v=[]:=(Dm.mp y).2;subst this;exact rD (by simp) h
        ·rw[hk,gY];exact⟨u,v,rfl,h⟩
theorem Eg(h:segs≠[])(z:ag):(∃x,x∈fb 0 segs/\eW segs z x)↔cB segs (aG 47 z):=
 (Mz segs z.length z (aF _)).1 0 (fC.mpr h)
end
def lY:ag->Nat->Prop
 | [],p=>p=3
 |c::z,p=>if c=47 then p=3/\lY z 0 else c≠0/\lY z (cS p c)
theorem Bq{z:ag}{p:Nat}:lY (47::z) p↔p=3/\lY z 0:=by
 show(if(47:UInt8)=47 then _ else _)↔_;rw[if_pos rfl]
theorem Bp{c:UInt8}{z:ag}{p:Nat}(h:c≠47):lY (c::z) p↔c≠0/\lY z (cS p c):=by
 show(if c=47 then _ else _)↔_;rw[if_neg h]
def kC(u:ag):Nat:=u.foldl cS 0
theorem VU(u:ag)(c:UInt8):kC (u++[c])=cS (kC u) c:=by simp[kC]
theorem RD(c:UInt8):cS 3 c=3:=by
 unfold cS;rw[if_neg (by omega)]
theorem Kr:∀(u:ag),u.foldl cS 3=3
 | []=>rfl
 |c::u=>by rw[Ds,RD]; exact Kr u
theorem VT(u:ag):kC u=3↔u≠[]/\u≠[46]/\u≠[46,46]:=by
 match u with
 | []=>simp[kC]
 | [c]=>
  show cS 0 c=3↔_;unfold cS;by_cases h:c=46
  ·simp[h]
  ·simp[h]
 | [c,d]=>
  show cS (cS 0 c) d=3↔_;unfold cS;by_cases h:c=46
  ·by_cases h2:d=46
   ·simp[h,h2]
   ·simp[h,h2]
  ·simp[h]
 |c::d::e::u=>
  have:kC (c::d::e::u)=3:=by
   show u.foldl cS (cS (cS (cS 0 c) d) e)=3
   have e3:cS (cS (cS 0 c) d) e=3:=by
    unfold cS;by_cases h:c=46
    ·by_cases h2:d=46
     ·simp[h,h2]
     ·simp[h,h2]
    ·simp[h]
   rw[e3];exact Kr u
  simp[this]
theorem Hy{u:ag}(h:oM u):gx u=true↔kC u=3:=by
 rw[VT];unfold gx
 have h0:u.contains 0=false:=by
  rw[sC,decide_eq_false_iff_not];intro z;exact(h 0 z).1 rfl
 have h47:u.contains 47=false:=by
  rw[sC,decide_eq_false_iff_not];intro z;exact(h 47 z).2 rfl
 rw[h0,h47];simp only[cA,uY,yP,bne_iff_ne,eD,true_and]
theorem xw:∀(z u:ag),oM u->(lY z (kC u)↔(aG 47 (u++z)).all gx=true)
 | [],u,h=>by
  rw[cC,jQ (rM h)];show kC u=3↔_;rw[<-Hy h];simp
 |c::z,u,h=>by
  by_cases hc:c=47
  ·subst hc;rw[Bq,mL,jQ (rM h),<-Hy h];have ih:=xw z [] (fun d hd=>by simp at hd);rw[show kC []=0 from rfl,mW]at ih;rw[ih];simp
  ·rw[Bp hc];by_cases h0:c=0
   ·subst h0;constructor
    ·rintro⟨q,_⟩;exact absurd rfl q
    ·intro q;exfalso
     have mem:∀(u:ag),(47:UInt8)∉u->∃y r,aG 47 (u++0::z)=y::r/\(0:UInt8)∈y:=by
      intro u
      induction u with
      |nil=>
       intro _;cases e:aG 47 z with
       |nil=>exact absurd e (eV _ _)
       |cons y r=>exact⟨0::y,r,lI (by decide) e,by simp⟩
      |cons d u ih=>
       intro hd;obtain⟨y,r,e,hy⟩:=ih (fun x=>hd (bU _ x));exact⟨d::y,r,lI (fun x=>hd (by simp[x])) e,bU _ hy⟩
     obtain⟨y,r,e,hy⟩:=mem u (rM h);rw[e]at q;have:=(FM (ju.mp q y (by simp))).2.1 0 hy;exact this rfl
   ·have hp:oM (u++[c]):=fun d hd=>by
     rcases cj.mp hd with x|x
     ·exact h d x
     ·have:d=c:=by simpa using x
      rw[this]; exact⟨h0,hc⟩
    have ih:=xw z (u++[c]) hp;rw[VU]at ih;rw[ih];simp[h0]
section
variable(a b:List Seg)
def jW(z:ag)(s t:Spot)(p:Nat):Prop:=eW a z s/\eW b z t/\lY z p
theorem Ef{c:UInt8}{z:ag}{s t:Spot}{p:Nat}{x:ag}:jW a b (c::z) s t p↔c≠0/\∃y,y∈kn a b c ⟨s,t,p,x⟩/\jW a b z y.one y.two y.part:=by
 unfold jW kn;by_cases hc:c=47
 ·subst hc;rw[wa,wa,Bq];simp only[if_true];constructor
  ·rintro⟨⟨s',h1,h2⟩,⟨t',h3,h4⟩,rfl,h5⟩;refine⟨by decide,⟨s',t',0,47::x⟩,?_,h2,h4,h5⟩;simp only[if_true];exact eN.mpr ⟨s',h1,bP.mpr ⟨t',h3,rfl⟩⟩
  ·rintro⟨_,y,hy,h2,h4,h5⟩;by_cases hp:p=3
   ·simp only[hp,if_true]at hy;obtain⟨s',h1,hy⟩:=eN.mp hy;obtain⟨t',h3,rfl⟩:=bP.mp hy;exact⟨⟨s',h1,h2⟩,⟨t',h3,h4⟩,hp,h5⟩
   ·simp only[hp,if_false]at hy;cases hy
 ·rw[vZ hc,vZ hc,Bp hc];simp only[hc,if_false];constructor
  ·rintro⟨⟨s',h1,h2⟩,⟨t',h3,h4⟩,h0,h5⟩;exact⟨h0,⟨s',t',cS p c,c::x⟩,eN.mpr ⟨s',h1,bP.mpr ⟨t',h3,rfl⟩⟩,h2,h4,h5⟩
  ·rintro⟨h0,y,hy,h2,h4,h5⟩;obtain⟨s',h1,hy⟩:=eN.mp hy;obtain⟨t',h3,rfl⟩:=bP.mp hy;exact⟨⟨s',h1,h2⟩,⟨t',h3,h4⟩,h0,h5⟩
theorem Ai{c:UInt8}{w y:Way}(h:y∈kn a b c w):y.text=c::w.text:=by
 unfold kn at h;by_cases hc:c=47
 ·rw[if_pos hc]at h;by_cases hp:w.part=3
  ·rw[if_pos hp]at h;obtain⟨s',h1,h⟩:=eN.mp h;obtain⟨t',h3,rfl⟩:=bP.mp h;rfl
  ·rw[if_neg hp]at h; cases h
 ·rw[if_neg hc]at h;obtain⟨s',h1,h⟩:=eN.mp h;obtain⟨t',h3,rfl⟩:=bP.mp h;rfl
def Both(x:ag):Prop:=∃s t,s∈fb 0 a/\t∈fb 0 b/\jW a b x s t 0
theorem MU(ha:a≠[])(hb:b≠[])(x:ag):Both a b x↔cB a (aG 47 x)/\cB b (aG 47 x)/\(aG 47 x).all gx=true:=by
 have hz:=xw x [] (fun d hd=>by simp at hd);rw[show kC []=0 from rfl,mW]at hz;rw[<-Eg a ha,<-Eg b hb,<-hz];constructor
 ·rintro⟨s,t,h1,h2,h3,h4,h5⟩;exact⟨⟨s,h1,h3⟩,⟨t,h2,h4⟩,h5⟩
 ·rintro⟨⟨s,h1,h3⟩,⟨t,h2,h4⟩,h5⟩;exact⟨s,t,h1,h2,h3,h4,h5⟩
end
def er:ag->ag->Prop
 | [],_=>True
 |_::_,[]=>False
 |c::x,d::y=>c<d\/(c=d/\er x y)
theorem pF:∀x:ag,er x x
 | []=>trivial
 |c::x=>.inr ⟨rfl,pF x⟩
theorem Gy:∀{x y z:ag},er x y->er y z->er x z
 | [],_,_,_,_=>trivial
 |c::x,[],_,h,_=>h.elim
 |c::x,d::y,[],_,h=>h.elim
 |c::x,d::y,e::z,h1,h2=>by
  rcases h1 with h1|⟨rfl,h1⟩
  ·rcases h2 with h2|⟨rfl,h2⟩
   ·exact .inl (Ea h1 h2)
   ·exact .inl h1
  ·rcases h2 with h2|⟨rfl,h2⟩
   ·exact .inl h2
   ·exact .inr ⟨rfl,Gy h1 h2⟩
theorem Gx:∀{x y:ag}(z:ag),x.length=y.length->er x y->er (x++z) (y++z)
 | [],[],z,_,_=>pF z
 | [],d::y,z,h,_=>by simp at h
 |c::x,[],z,h,_=>by simp at h
 |c::x,d::y,z,h,q=>by
  rcases q with q|⟨rfl,q⟩
  ·exact .inl q
  ·exact .inr ⟨rfl,Gx z (by simpa using h) q⟩
theorem Av:∀{x y:ag}(u v:ag),x.length=y.length->er x y->x≠y->er (x++u) (y++v)
 | [],[],_,_,_,_,h=>absurd rfl h
 | [],d::y,_,_,h,_,_=>by simp at h
 |c::x,[],_,_,h,_,_=>by simp at h
 |c::x,d::y,u,v,h,q,n=>by
  rcases q with q|⟨rfl,q⟩
  ·exact .inl q
  ·exact .inr ⟨rfl,Av u v (by simpa using h) q fun e=>n (by rw[e])⟩
theorem Au:∀(x:ag){c d:UInt8},c<=d->er (x++[c]) (x++[d])
 | [],c,d,h=>by
  by_cases e:c=d
  ·exact .inr ⟨e,trivial⟩
  ·exact .inl (UInt8.lt_of_le_of_ne h e)
 |b::x,c,d,h=>.inr ⟨rfl,Au x h⟩
def jg(x y:ag):Prop:=x.length<y.length\/(x.length=y.length/\er x y)
theorem OS(x:ag):jg x x:=.inr ⟨rfl,pF x⟩
theorem wV{x y z:ag}(h1:jg x y)(h2:jg y z):jg x z:=by
 rcases h1 with h1|⟨h1,q1⟩
 ·rcases h2 with h2|⟨h2,_⟩
  ·exact .inl (by omega)
  ·exact .inl (by omega)
 ·rcases h2 with h2|⟨h2,q2⟩
  ·exact .inl (by omega)
  ·exact .inr ⟨by omega,Gy q1 q2⟩
theorem rA{x y:ag}(h:jg x y):x.length<=y.length:=by
 rcases h with h|⟨h,_⟩<;>omega
theorem Gu(c:UInt8):c∈letters↔c≠0:=by
 unfold letters;rw[bP];constructor
 ·rintro⟨n,hn,rfl⟩ e;have hn:n<255:=by simpa using hn
  have:=congrArg UInt8.toNat e;rw[Eb (by show n+1<256; omega)]at this;have this:n+1=0:=this;omega
 ·intro h;have h1:=kG c;have h2:c.toNat≠0:=fun e=>h (iO.mpr e);refine⟨c.toNat-1,by simp; omega,?_⟩;rw[show c.toNat-1+1=c.toNat by omega];exact UInt8.ofNat_toNat
theorem Pf:letters.Pairwise (fun c d=>c<=d):=by
 unfold letters;rw[kQ];refine sA ?_ (vt (n:=255));intro m n hm hn h;have hm:m<255:=by simpa using hm
 have hn:n<255:=by simpa using hn
 rw[sY,Eb (by show m+1<256; omega),Eb (by show n+1<256; omega)];omega
theorem EI(x:Way)(r:List Way):(je r=[]/\je (x::r)=[[x]])\/(∃q,je r=[]::q/\je (x::r)=[[x]])\/∃y g q,je r=(y::g)::q/\je (x::r)=if x.text=y.text then(x::y::g)::q else [x]::(y::g)::q:=by
 rw[je];cases e:je r with
 |nil=>exact .inl ⟨rfl,rfl⟩
 |cons h q=>
  cases h with
  |nil=>exact .inr (.inl ⟨q,rfl,rfl⟩)
  |cons y g=>exact .inr (.inr ⟨y,g,q,rfl,rfl⟩)
theorem wu:∀l:List Way,(je l).flatten=l/\(∀g∈je l,g≠[])/\∀g∈je l,∀x∈g,∀y∈g,x.text=y.text
 | []=>⟨rfl,fun g hg=>(by cases hg),fun g hg=>(by cases hg)⟩
 |x::r=>by
  obtain⟨h1,h2,h3⟩:=wu r;rcases EI x r with⟨e,e'⟩|⟨q,e,e'⟩|⟨y,g,q,e,e'⟩
  ·rw[e]at h1;rw[e'];have hr:r=[]:=h1.symm;subst hr;refine⟨rfl,fun g hg=>?_,fun g hg a ha b hb=>?_⟩
   ·have:g=[x]:=by simpa using hg
    rw[this]; simp
   ·have:g=[x]:=by simpa using hg
    subst this;have e1:a=x:=by simpa using ha
    have e2:b=x:=by simpa using hb
    rw[e1,e2]
  ·exact absurd rfl (h2 [] (by rw[e]; simp))
  ·rw[e]at h1 h2 h3;rw[e'];by_cases c:x.text=y.text
   ·rw[if_pos c];refine⟨by rw[<-h1]; rfl,fun g' hg=>?_,fun g' hg a ha b hb=>?_⟩
    ·rcases bg.mp hg with rfl|hg
     ·simp
     ·exact h2 g' (bU _ hg)
    ·rcases bg.mp hg with rfl|hg
     ·have key:∀z∈x::y::g,z.text=y.text:=fun z hz=>by
       rcases bg.mp hz with rfl|hz
       ·exact c
       ·exact h3 _ (by simp) z hz y (by simp)
      rw[key a ha,key b hb]
     ·exact h3 g' (bU _ hg) a ha b hb
   ·rw[if_neg c];refine⟨by rw[<-h1]; rfl,fun g' hg=>?_,fun g' hg a ha b hb=>?_⟩
    ·rcases bg.mp hg with rfl|hg
     ·simp
     ·exact h2 g' hg
    ·rcases bg.mp hg with rfl|hg
     ·have e1:a=x:=by simpa using ha
      have e2:b=x:=by simpa using hb
      rw[e1,e2]
     ·exact h3 g' hg a ha b hb
def tx(w:Way):ag:=w.text.reverse
theorem EJ{n:Nat}:∀(l:List Way),(∀w∈l,w.text.length=n)->l.Pairwise (fun w v=>er (tx w) (tx v))->(je l).Pairwise fun g h=>∀x∈g,∀y∈h,er (tx x) (tx y)/\x.text≠y.text
 | [],_,_=>.nil
 |x::r,hn,hl=>by
  obtain⟨hx,hr⟩:=lV.mp hl;have ih:=EJ r (fun w hw=>hn w (bU _ hw)) hr;obtain⟨f1,f2,f3⟩:=wu r
  have inr:∀g∈je r,∀y∈g,y∈r:=fun g hg y hy=>by
   rw[<-f1];exact yR.mpr ⟨g,hg,hy⟩
  rcases EI x r with⟨e,e'⟩|⟨q,e,e'⟩|⟨y,g,q,e,e'⟩
  ·rw[e']; simp
  ·exact absurd rfl (f2 [] (by rw[e]; simp))
  ·rw[e'];rw[e]at ih inr f3;obtain⟨i1,i2⟩:=lV.mp ih;by_cases c:x.text=y.text
   ·rw[if_pos c];refine lV.mpr ⟨fun h hh v hv w hw=>?_,i2⟩;rcases bg.mp hv with rfl|hv
    ·refine⟨hx w (inr h (bU _ hh) w hw),?_⟩;rw[c];exact(i1 h hh y (by simp) w hw).2
    ·exact i1 h hh v hv w hw
   ·rw[if_neg c];refine lV.mpr ⟨fun h hh v hv w hw=>?_,ih⟩;have ev:v=x:=by simpa using hv
    subst ev;refine⟨hx w (inr h hh w hw),fun e0=>?_⟩;rcases bg.mp hh with rfl|hh'
    ·exact c (e0.trans (f3 _ (by simp) w hw y (by simp)))
    ·
     have l1:er (tx v) (tx y):=hx y (inr (y::g) (by simp) y (by simp));obtain⟨l2,n2⟩:=i1 h hh' y (by simp) w hw;have e1:tx v=tx w:=by unfold tx; rw[e0]
     rw[e1]at l1;apply n2
     have anti:∀{p q:ag},er p q->er q p->p.length=q.length->p=q:=by
      intro p
      induction p with
      |nil=>
       intro q _ _ hl;exact(mV.mp hl.symm).symm
      |cons c p ihp=>
       intro q h1 h2 hl;cases q with
       |nil=>simp at hl
       |cons d q=>
        rcases h1 with h1|⟨rfl,h1⟩
        ·rcases h2 with h2|⟨rfl,_⟩
         ·exact absurd (Ea h1 h2) (sZ _)
         ·exact absurd h1 (sZ _)
        ·rcases h2 with h2|⟨_,h2⟩
         ·exact absurd h2 (sZ _)
         ·rw[ihp h1 h2 (by simpa using hl)]
     have hy:=hn y (bU _ (inr (y::g) (by simp) y (by simp)));have hw':=hn w (bU _ (inr h hh w hw));have:=anti l2 l1 (by unfold tx; rw[vo,vo,hy,hw']);unfold tx at this;exact List.reverse_inj.mp this
section
variable(a b:List Seg)
theorem GK{l:List Way}{y:Way}:y∈gV a b l↔∃w,w∈l/\∃c,c≠0/\y∈kn a b c w:=by
 unfold gV;obtain⟨f1,_,_⟩:=wu l;constructor
 ·intro h;obtain⟨g,hg,h⟩:=eN.mp h;obtain⟨c,hc,h⟩:=eN.mp h;obtain⟨w,hw,h⟩:=eN.mp h;exact⟨w,by rw[<-f1]; exact yR.mpr ⟨g,hg,hw⟩,c,(Gu c).mp hc,h⟩
 ·rintro⟨w,hw,c,hc,h⟩;rw[<-f1]at hw;obtain⟨g,hg,hw⟩:=yR.mp hw;exact eN.mpr ⟨g,hg,eN.mpr ⟨c,(Gu c).mpr hc,eN.mpr ⟨w,hw,h⟩⟩⟩
theorem MB{l:List Way}{n:Nat}(hn:∀w∈l,w.text.length=n)(hl:l.Pairwise fun w v=>er (tx w) (tx v)):(gV a b l).Pairwise fun w v=>er (tx w) (tx v):=by
 unfold gV;obtain⟨f1,f2,f3⟩:=wu l
 have inl:∀g∈je l,∀y∈g,y∈l:=fun g hg y hy=>by
  rw[<-f1];exact yR.mpr ⟨g,hg,hy⟩
 have ft:∀{c:UInt8}{w y:Way},y∈kn a b c w->tx y=tx w++[c]:=fun{c w y} h=>by
  unfold tx;rw[Ai a b h,List.reverse_cons]
 rw[LY];refine⟨fun g hg=>?_,(EJ l hn hl).imp_of_mem ?_⟩
 ·rw[LY];refine⟨fun c hc=>?_,Pf.imp_of_mem ?_⟩
  ·
   have all:∀x∈g.flatMap (kn a b c),∀y∈g.flatMap (kn a b c),tx x=tx y:=fun x hx y hy=>by
    obtain⟨w,hw,hx⟩:=eN.mp hx;obtain⟨v,hv,hy⟩:=eN.mp hy;rw[ft hx,ft hy];unfold tx;rw[f3 g hg w hw v hv]
   refine LZ fun x hx y hy=>?_;rw[all x hx y hy];exact pF _
  ·intro c d hc hd hcd x hx y hy;obtain⟨w,hw,hx⟩:=eN.mp hx;obtain⟨v,hv,hy⟩:=eN.mp hy;rw[ft hx,ft hy];have:tx w=tx v:=by unfold tx; rw[f3 g hg w hw v hv]
   rw[this];exact Au _ hcd
 ·intro g h hg hh hgh x hx y hy;obtain⟨c,hc,hx⟩:=eN.mp hx;obtain⟨w,hw,hx⟩:=eN.mp hx;obtain⟨d,hd,hy⟩:=eN.mp hy;obtain⟨v,hv,hy⟩:=eN.mp hy;obtain⟨q1,q2⟩:=hgh w hw v hv;rw[ft hx,ft hy];refine Av [c] [d] ?_ q1 fun e=>q2 (List.reverse_inj.mp e);unfold tx;rw[vo,vo,hn w (inl g hg w hw),hn v (inl h hh v hv)]
end
structure iE(segs:List Seg):Prop where
 ne:segs≠[]
 len:segs.length<=14
 ats:∀(k:Nat)(as:List bc),segs[k]?=some (.one as)->as.length<=24
def kW(segs:List Seg):Spot->Prop
 |.deep k=>segs[k]?=some .deep
 |.atom k j=>∃as,segs[k]?=some (.one as)/\j<=as.length
theorem Br{segs:List Seg}{k:Nat}{as:List bc}(hk:segs[k]?=some (.one as)){f j:Nat}(hj:j<=as.length){x:Spot}(h:x∈passing as k f j):kW segs x:=by
 obtain⟨i,h1,h2,rfl,h3⟩:=(nJ _ _ _ _ _).mp h;refine⟨as,hk,?_⟩;by_cases e:i=j
 ·omega
 ·have:=(aK.mp (h3 (i-1) (by omega) (by omega))).1;omega
theorem tm{segs:List Seg}:∀(r:List Seg)(k:Nat),segs.drop k=r->∀x,x∈fb k r->kW segs x
 | [],k,_,x,h=>by cases h
 |.deep::r,k,hk,x,h=>by
  have hb:segs[k]?=some .deep:=(jF.mp hk).1;have hr:segs.drop (k+1)=r:=(jF.mp hk).2;rcases bg.mp h with rfl|h
  ·exact hb
  ·exact tm r (k+1) hr x h
 |.one as::r,k,hk,x,h=>Br (jF.mp hk).1 (bC _) h
theorem Hl{segs:List Seg}{c:UInt8}{x y:Spot}(hx:kW segs x)(h:y∈jh segs c x):kW segs y:=by
 cases x with
 |deep k=>
  have:y=.deep k:=by simpa [jh]using h
  rw[this]; exact hx
 |atom k j=>
  obtain⟨as,hk,hj⟩:=hx;cases e:as[j]? with
  |none=>rw[Hk hk e]at h; cases h
  |some a=>
   have hlt:=(aK.mp e).1;by_cases hs:a=.star
   ·subst hs;rw[Hn hk e]at h;rcases cj.mp h with h|h
    ·have:y=.atom k j:=by simpa using h
     rw[this]; exact⟨as,hk,hj⟩
    ·exact Br hk (by omega) h
   ·rw[Hm hk e hs]at h;by_cases ht:a.takes c=true
    ·rw[if_pos ht]at h;exact Br hk (by omega) h
    ·rw[if_neg ht]at h; cases h
theorem Ho{segs:List Seg}{x y:Spot}(h:y∈mE segs x):kW segs y:=by
 unfold mE at h;by_cases c:rK segs x=false
 ·rw[if_pos c]at h; cases h
 ·rw[if_neg c]at h;cases x with
  |deep k=>exact tm _ k rfl y h
  |atom k j=>exact tm _ (k+1) rfl y h
theorem xQ{segs:List Seg}(S:iE segs){x:Spot}(h:kW segs x):x.number<SPOTS:=by
 cases x with
 |deep k=>
  have:=(aK.mp (show segs[k]?=some .deep from h)).1;have:=S.len;show 26*k+25<364;omega
 |atom k j=>
  obtain⟨as,hk,hj⟩:=h;have h1:=(aK.mp hk).1;have h2:=S.len;have h3:=S.ats k as hk;show 26*k+j<364;omega
theorem Kp{segs:List Seg}(S:iE segs){x y:Spot}(hx:kW segs x)(hy:kW segs y)(e:x.number=y.number):x=y:=by
 cases x with
 |deep k=>
  cases y with
  |deep k'=>
   have e:26*k+25=26*k'+25:=e;rw[show k=k' by omega]
  |atom k' j'=>
   obtain⟨as,hk,hj⟩:=hy;have h3:=S.ats k' as hk;have e:26*k+25=26*k'+j':=e;omega
 |atom k j=>
  obtain⟨as,hk,hj⟩:=hx;have h3:=S.ats k as hk;cases y with
  |deep k'=>
   have e:26*k+j=26*k'+25:=e;omega
  |atom k' j'=>
   obtain⟨as',hk',hj'⟩:=hy;have h3':=S.ats k' as' hk';have e:26*k+j=26*k'+j':=e;have e1:k=k':=by omega
   have e2:j=j':=by omega
   rw[e1,e2]
section
variable(a b:List Seg)
structure lb(w:Way):Prop where
 one:kW a w.one
 two:kW b w.two
 part:w.part<4
theorem RC(p:Nat)(c:UInt8):cS p c<4:=by
 unfold cS;by_cases h:c=46/\p<2
 ·rw[if_pos h]; omega
 ·rw[if_neg h]; omega
theorem On{c:UInt8}{w y:Way}(hw:lb a b w)(h:y∈kn a b c w):lb a b y:=by
 unfold kn at h;by_cases hc:c=47
 ·rw[if_pos hc]at h;by_cases hp:w.part=3
  ·rw[if_pos hp]at h;obtain⟨s',h1,h⟩:=eN.mp h;obtain⟨t',h3,rfl⟩:=bP.mp h;exact⟨Ho h1,Ho h3,by show 0<4; omega⟩
  ·rw[if_neg hp]at h; cases h
 ·rw[if_neg hc]at h;obtain⟨s',h1,h⟩:=eN.mp h;obtain⟨t',h3,rfl⟩:=bP.mp h;exact⟨Hl hw.one h1,Hl hw.two h3,RC _ _⟩
def md:Nat:=SPOTS*SPOTS*4
variable{a b}
theorem yd(Sa:iE a)(Sb:iE b){w:Way}(h:lb a b w):w.number<md:=by
 have h1:=xQ Sa h.one;have h2:=xQ Sb h.two;have h3:=h.part;unfold Way.number md;have h1:w.one.number<364:=h1;have h2:w.two.number<364:=h2;show(w.one.number*364+w.two.number)*4+w.part<364*364*4;omega
theorem CK(Sa:iE a)(Sb:iE b){w v:Way}(hw:lb a b w)(hv:lb a b v)(e:w.number=v.number):w.one=v.one/\w.two=v.two/\w.part=v.part:=by
 have h2:w.two.number<364:=xQ Sb hw.two;have h2':v.two.number<364:=xQ Sb hv.two;have h3:=hw.part;have h3':=hv.part;have e:(w.one.number*364+w.two.number)*4+w.part=(v.one.number*364+v.two.number)*4+v.part:=e;have e1:w.one.number=v.one.number:=by omega
 have e2:w.two.number=v.two.number:=by omega
 exact⟨Kp Sa hw.one hv.one e1,Kp Sb hw.two hv.two e2,by omega⟩
theorem FI{seen:Array Bool}{n m:Nat}(hn:n<seen.size):(seen.setIfInBounds n true).getD m true=true↔seen.getD m true=true\/m=n:=by
 rw[nZ,nZ,Array.getElem?_setIfInBounds];by_cases e:n=m
 ·subst e;rw[if_pos rfl,if_pos hn];simp
 ·rw[if_neg e];constructor
  ·intro h; exact .inl h
  ·rintro(h|h)
   ·exact h
   ·exact absurd h.symm e
theorem yb{R:Way->Way->Prop}(hR:∀x,R x x):∀(l:List Way)(seen:Array Bool),seen.size=md->(∀x∈l,x.number<md)->l.Pairwise R->
  (fY l seen).2.size=md/\(fY l seen).1.Sublist l/\(∀n,(fY l seen).2.getD n true=true↔seen.getD n true=true\/∃y,y∈(fY l seen).1/\y.number=n)/\
  (∀x,x∈l->seen.getD x.number true=true\/∃y,y∈(fY l seen).1/\y.number=x.number/\R y x)
 | [],seen,hs,_,_=>⟨hs,List.Sublist.refl _,fun n=>by simp[fY],fun x hx=>by cases hx⟩
 |x::r,seen,hs,hl,hp=>by
  obtain⟨p1,p2⟩:=lV.mp hp;have hxs:=hl x (by simp);by_cases c:seen.getD x.number true=true
  ·have e:fY (x::r) seen=fY r seen:=by rw[fY,if_pos c]
   rw[e];obtain⟨h1,h2,h3,h4⟩:=yb hR r seen hs (fun y hy=>hl y (bU _ hy)) p2;refine⟨h1,h2.trans (Mb _ _),h3,fun y hy=>?_⟩;rcases bg.mp hy with rfl|hy
   ·exact .inl c
   ·exact h4 y hy
  ·have e:fY (x::r) seen=(x::(fY r (seen.setIfInBounds x.number true)).1,(fY r (seen.setIfInBounds x.number true)).2):=by rw[fY,if_neg c]
   rw[e];obtain⟨h1,h2,h3,h4⟩:=yb hR r (seen.setIfInBounds x.number true) (by rw[Array.size_setIfInBounds]; exact hs) (fun y hy=>hl y (bU _ hy)) p2;have hxn:x.number<seen.size:=by rw[hs]; exact hxs
   refine⟨h1,h2.cons_cons x,fun n=>?_,fun y hy=>?_⟩
   ·show(fY r (seen.setIfInBounds x.number true)).2.getD n true=true↔_;rw[h3 n,FI hxn];constructor
    ·rintro((h|h)|⟨y,hy,e⟩)
     ·exact .inl h
     ·exact .inr ⟨x,dD,h.symm⟩
     ·exact .inr ⟨y,bU _ hy,e⟩
    ·rintro(h|⟨y,hy,e'⟩)
     ·exact .inl (.inl h)
     ·rcases bg.mp hy with rfl|hy
      ·exact .inl (.inr e'.symm)
      ·exact .inr ⟨y,hy,e'⟩
   ·rcases bg.mp hy with rfl|hy
    ·exact .inr ⟨y,dD,rfl,hR y⟩
    ·rcases h4 y hy with h|⟨z,hz,e,q⟩
     ·rcases(FI hxn).mp h with h|h
      ·exact .inl h
      ·exact .inr ⟨x,dD,h.symm,p1 y hy⟩
     ·exact .inr ⟨z,bU _ hz,e,q⟩
def su(a b:List Seg)(w:Way):Prop:=∀z,jW a b z w.one w.two w.part->Both a b (tx w++z)
structure vg(a b:List Seg)(i:Nat)(l:List Way)(seen:Array Bool):Prop where
 size:seen.size=md
 len:∀w∈l,w.text.length=i
 ok:∀w∈l,lb a b w
 come:∀w∈l,su a b w
 sorted:l.Pairwise fun w v=>er (tx w) (tx v)
 old:∀n,n<md->seen.getD n true=true->∃w,w.number=n/\lb a b w/\su a b w/\(tx w).length<=i
 all:∀x,Both a b x->∃x',Both a b x'/\jg x' x/\∃w,w∈l/\∃z,x'=tx w++z/\jW a b z w.one w.two w.part
theorem tS{w:Way}:isEnd a b w=true↔jW a b [] w.one w.two w.part:=by
 unfold isEnd jW;simp only[cA,beq_iff_eq];constructor
 ·rintro⟨h1,h2,h3⟩;exact⟨h2,h3,h1⟩
 ·rintro⟨h2,h3,h1⟩;exact⟨h1,h2,h3⟩
theorem jU(w:Way):(tx w).length=w.text.length:=by unfold tx; rw[vo]
theorem Ph(Sa:iE a)(Sb:iE b){i:Nat}{l:List Way}{seen:Array Bool}(L:vg a b i l seen)(hn:∀w∈l,isEnd a b w≠true):
  vg a b (i+1) (fY (gV a b l) seen).1 (fY (gV a b l) seen).2:=by
 have lt:∀y∈gV a b l,∃w,w∈l/\∃c,c≠0/\y∈kn a b c w:=fun y hy=>(GK a b).mp hy
 have ok:∀y∈gV a b l,lb a b y:=fun y hy=>by
  obtain⟨w,hw,c,_,h⟩:=lt y hy;exact On a b (L.ok w hw) h
 have txy:∀{w y:Way}{c:UInt8},y∈kn a b c w->tx y=tx w++[c]:=fun{w y c} h=>by
  unfold tx;rw[Ai a b h,List.reverse_cons]
 have come:∀y∈gV a b l,su a b y:=fun y hy z hz=>by
  obtain⟨w,hw,c,h0,h⟩:=lt y hy;have:=L.come w hw (c::z) ((Ef a b (x:=w.text)).mpr ⟨h0,y,h,hz⟩);rw[txy h,dk];exact this
 have len:∀y∈gV a b l,y.text.length=i+1:=fun y hy=>by
  obtain⟨w,hw,c,h0,h⟩:=lt y hy;rw[Ai a b h,bG,L.len w hw]
 have sorted:=MB a b L.len L.sorted;obtain⟨u1,u2,u3,u4⟩:=yb (R:=fun w v=>er (tx w) (tx v)) (fun x=>pF _) (gV a b l) seen L.size (fun y hy=>yd Sa Sb (ok y hy)) sorted;have sub:∀y∈(fY (gV a b l) seen).1,y∈gV a b l:=fun y hy=>u2.subset hy
 have old:∀n,n<md->(fY (gV a b l) seen).2.getD n true=true->∃w,w.number=n/\lb a b w/\su a b w/\(tx w).length<=i+1:=fun n hn' h=>by
  rcases(u3 n).mp h with h|⟨y,hy,e⟩
  ·obtain⟨w,h1,h2,h3,h4⟩:=L.old n hn' h;exact⟨w,h1,h2,h3,by omega⟩
  ·have hy:=sub y hy;exact⟨y,e,ok y hy,come y hy,by rw[jU,len y hy]; omega⟩
 refine⟨u1,fun y hy=>len y (sub y hy),fun y hy=>ok y (sub y hy),fun y hy=>come y (sub y hy),sorted.sublist u2,old,?_⟩
 suffices key:∀(n:Nat)(x:ag),x.length<=n->Both a b x->∃x',Both a b x'/\jg x' x/\∃w,w∈(fY (gV a b l) seen).1/\∃z,x'=tx w++z/\jW a b z w.one w.two w.part from
  fun x hx=>key x.length x (aF _) hx
 intro n
 induction n with
 |zero=>
  intro x hx hb;obtain⟨x',b1,b2,w,hw,z,e,hz⟩:=L.all x hb;have:=rA b2
  have:z.length=0:=by
   have:x'.length=(tx w).length+z.length:=by rw[e,bt]
   omega
  have:z=[]:=mV.mp this;subst this;exact absurd (tS.mpr hz) (hn w hw)
 |succ n ih=>
  intro x hx hb;obtain⟨x',b1,b2,w,hw,z,e,hz⟩:=L.all x hb;cases z with
  |nil=>exact absurd (tS.mpr hz) (hn w hw)
  |cons c z=>
   obtain⟨h0,y,hy,hz'⟩:=(Ef a b (x:=w.text)).mp hz;have hyl:y∈gV a b l:=(GK a b).mpr ⟨w,hw,c,h0,hy⟩;have e':x'=tx y++z:=by rw[txy hy,e,dk]; rfl
   rcases u4 y hyl with h|⟨v,hv,e1,q⟩
   ·
    obtain⟨v,h1,h2,h3,h4⟩:=L.old y.number (yd Sa Sb (ok y hyl)) h;obtain⟨i1,i2,i3⟩:=CK Sa Sb h2 (ok y hyl) h1;have hz2:jW a b z v.one v.two v.part:=by rw[i1,i2,i3]; exact hz'
    have b3:=h3 z hz2
    have hl2:(tx v++z).length<x'.length:=by
     rw[e',bt,bt,jU y,len y hyl];omega
    have hlx:=rA b2;obtain⟨x3,c1,c2,c3⟩:=ih (tx v++z) (by omega) b3;exact⟨x3,c1,wV c2 (wV (.inl hl2) b2),c3⟩
   ·obtain⟨i1,i2,i3⟩:=CK Sa Sb (ok v (sub v hv)) (ok y hyl) e1;have hz2:jW a b z v.one v.two v.part:=by rw[i1,i2,i3]; exact hz'
    have b3:=come v (sub v hv) z hz2;refine⟨tx v++z,b3,wV (.inr ⟨?_,?_⟩) b2,v,hv,z,rfl,hz2⟩
    ·rw[e',bt,bt,jU,jU,len v (sub v hv),len y hyl]
    ·rw[e'];exact Gx z (by rw[jU,jU,len v (sub v hv),len y hyl]) q
theorem Gv{i:Nat}{l:List Way}{seen:Array Bool}(L:vg a b i l seen){w:Way}(h:l.find? (isEnd a b)=some w):Both a b (tx w)/\∀x,Both a b x->jg (tx w) x:=by
 have he:isEnd a b w=true:=List.find?_some h;have hw:w∈l:=Dv h
 have b1:Both a b (tx w):=by
  have:=L.come w hw [] (tS.mp he);rw[cC]at this;exact this
 refine⟨b1,fun x hx=>?_⟩;obtain⟨x',c1,c2,v,hv,z,e,hz⟩:=L.all x hx;refine wV ?_ c2;have hlw:(tx w).length=i:=by rw[jU,L.len w hw]
 have hlv:(tx v).length=i:=by rw[jU,L.len v hv]
 cases z with
 |cons c z=>
  refine .inl ?_;rw[e,bt,bG];omega
 |nil=>
  rw[cC]at e;subst e;refine .inr ⟨by omega,?_⟩;obtain⟨pre,post,e1,e2⟩:=(List.find?_eq_some_iff_append.mp h).2;rw[e1]at hv;have hs:=L.sorted;rw[e1]at hs;rcases cj.mp hv with y|y
  ·have:=e2 v y;rw[tS.mpr hz]at this;cases this
  ·rcases bg.mp y with rfl|y
   ·exact pF _
   ·exact(lV.mp (LX.mp hs).2.1).1 v y
theorem JL(Sa:iE a)(Sb:iE b):∀(n i:Nat)(l:List Way)(seen:Array Bool),i+n=PATH->vg a b i l seen->
  (∀y,search a b n l seen=some y->(Both a b y/\∀x,Both a b x->jg y x)/\y.length<=PATH)/\(search a b n l seen=none->∀x,Both a b x->PATH<x.length)
 |0,i,l,seen,hi,L=>by
  rw[search];cases e:l.find? (isEnd a b)with
  |some w=>
   refine⟨fun y hy=>?_,fun z=>by cases z⟩;cases hy;refine⟨Gv L e,?_⟩;have:=L.len w (Dv e);show(tx w).length<=PATH;rw[jU];omega
  |none=>
   refine⟨fun y hy=>(by cases hy),fun _ x hx=>?_⟩;obtain⟨x',c1,c2,v,hv,z,e',hz⟩:=L.all x hx;have h1:=rA c2;have hlv:(tx v).length=i:=by rw[jU,L.len v hv]
   cases z with
   |nil=>
    have:=List.find?_eq_none.mp e v hv;exact absurd (tS.mpr hz) this
   |cons c z=>
    have:x'.length=(tx v).length+(z.length+1):=by rw[e',bt,bG]
    omega
 |n+1,i,l,seen,hi,L=>by
  rw[search];cases e:l.find? (isEnd a b)with
  |some w=>
   refine⟨fun y hy=>?_,fun z=>by cases z⟩;cases hy;refine⟨Gv L e,?_⟩;have:=L.len w (Dv e);show(tx w).length<=PATH;rw[jU];omega
  |none=>
   have L':=Ph Sa Sb L fun w hw h=>List.find?_eq_none.mp e w hw h;simp only;by_cases c:(fY (gV a b l) seen).1.isEmpty=true
   ·rw[if_pos c];refine⟨fun y hy=>(by cases hy),fun _ x hx=>?_⟩;obtain⟨x',c1,c2,v,hv,_⟩:=L'.all x hx;rw[List.isEmpty_iff.mp c]at hv;cases hv
   ·rw[if_neg c];exact JL Sa Sb n (i+1) _ _ (by omega) L'
theorem OU(Sa:iE a)(Sb:iE b):(∀y,leastOf a b=some y->(Both a b y/\∀x,Both a b x->jg y x)/\y.length<=PATH)/\(leastOf a b=none->∀x,Both a b x->PATH<x.length):=by
 unfold leastOf;simp only
 have mem:∀w,w∈((fb 0 a).flatMap fun(s:Spot)=>(fb 0 b).map fun(t:Spot)=>(⟨s,t,0,[]⟩:Way))↔∃s t,s∈fb 0 a/\t∈fb 0 b/\w=⟨s,t,0,[]⟩:=fun w=>by
  constructor
  ·intro h;obtain⟨s,hs,h⟩:=eN.mp h;obtain⟨t,ht,rfl⟩:=bP.mp h;exact⟨s,t,hs,ht,rfl⟩
  ·rintro⟨s,t,hs,ht,rfl⟩;exact eN.mpr ⟨s,hs,bP.mpr ⟨t,ht,rfl⟩⟩
 have fresh:∀n,n<md->(Array.replicate (SPOTS*SPOTS*4) false).getD n true=true->False:=fun n hn h=>by
  rw[nZ,Array.getElem?_replicate,if_pos (show n<SPOTS*SPOTS*4 from hn)]at h;cases h
 have ok:∀w∈((fb 0 a).flatMap fun(s:Spot)=>(fb 0 b).map fun(t:Spot)=>(⟨s,t,0,[]⟩:Way)),lb a b w:=fun w hw=>by
  obtain⟨s,t,hs,ht,rfl⟩:=(mem w).mp hw;exact⟨tm a 0 rfl s hs,tm b 0 rfl t ht,by show 0<4; omega⟩
 have texts:∀w∈((fb 0 a).flatMap fun(s:Spot)=>(fb 0 b).map fun(t:Spot)=>(⟨s,t,0,[]⟩:Way)),w.text=[]:=fun w hw=>by
  obtain⟨s,t,hs,ht,rfl⟩:=(mem w).mp hw;rfl
 have sorted:((fb 0 a).flatMap fun(s:Spot)=>(fb 0 b).map fun(t:Spot)=>(⟨s,t,0,[]⟩:Way)).Pairwise fun w v=>er (tx w) (tx v):=
  LZ fun x hx y hy=>by
   unfold tx;rw[texts x hx];exact trivial
 obtain⟨u1,u2,u3,u4⟩:=yb (R:=fun w v=>er (tx w) (tx v)) (fun x=>pF _) _ (Array.replicate (SPOTS*SPOTS*4) false) (Array.size_replicate) (fun y hy=>yd Sa Sb (ok y hy)) sorted
 have come:∀w∈((fb 0 a).flatMap fun(s:Spot)=>(fb 0 b).map fun(t:Spot)=>(⟨s,t,0,[]⟩:Way)),su a b w:=fun w hw z hz=>by
  obtain⟨s,t,hs,ht,rfl⟩:=(mem w).mp hw;exact⟨s,t,hs,ht,hz⟩
 refine JL Sa Sb PATH 0 _ _ (by omega) ⟨u1,fun w hw=>by rw[texts w (u2.subset hw)]; rfl,fun w hw=>ok w (u2.subset hw),fun w hw=>come w (u2.subset hw),sorted.sublist u2,fun n hn h=>?_,fun x hx=>?_⟩
 ·rcases(u3 n).mp h with h|⟨y,hy,e⟩
  ·exact(fresh n hn h).elim
  ·exact⟨y,e,ok y (u2.subset hy),come y (u2.subset hy),by rw[jU,texts y (u2.subset hy)]; exact aF _⟩
 ·obtain⟨s,t,hs,ht,hz⟩:=id hx;have hm:=(mem ⟨s,t,0,[]⟩).mpr ⟨s,t,hs,ht,rfl⟩;rcases u4 _ hm with h|⟨y,hy,e,_⟩
  ·exact(fresh _ (yd Sa Sb (ok _ hm)) h).elim
  ·obtain⟨i1,i2,i3⟩:=CK Sa Sb (ok y (u2.subset hy)) (ok _ hm) e;refine⟨x,hx,OS x,y,hy,x,?_,?_⟩
   ·unfold tx;rw[texts y (u2.subset hy)];rfl
   ·rw[i1,i2,i3];exact hz
end
theorem xN{r t:List bc}(h:slim r=.star::t):slim (.star::r)=.star::t:=by
 rw[slim.eq_def];simp only[h]
theorem uH{a:bc}{r:List bc}(h:∀t,a=.star->slim r≠.star::t):slim (a::r)=a::slim r:=by
 rw[slim];exact h
theorem Ka:∀(as:List bc)(s:ag),eP (slim as) s↔eP as s
 | [],s=>fk
 |a::r,s=>by
  have ih:=Ka r;by_cases ha:∃t,a=.star/\slim r=.star::t
  ·obtain⟨t,rfl,e⟩:=ha;rw[xN e,kq];rw[e]at ih;constructor
   ·intro h;exact⟨[],s,rfl,(ih s).mp h⟩
   ·rintro⟨u,v,rfl,h⟩;obtain⟨u',v',e2,h'⟩:=kq.mp ((ih v).mpr h);exact kq.mpr ⟨u++u',v',by rw[e2,dk],h'⟩
  ·rw[uH fun t h1 h2=>ha ⟨t,h1,h2⟩];by_cases hs:a=.star
   ·subst hs;rw[kq,kq];simp only[ih]
   ·rw[mz hs,mz hs];simp only[ih]
theorem BZ:∀(as:List bc),(slim as).length<=as.length
 | []=>aF _
 |a::r=>by
  have ih:=BZ r;by_cases ha:∃t,a=.star/\slim r=.star::t
  ·obtain⟨t,rfl,e⟩:=ha;rw[xN e];rw[e]at ih;simp only[bG]at ih⊢;omega
  ·rw[uH fun t h1 h2=>ha ⟨t,h1,h2⟩];simp only[bG];omega
theorem rV:∀(segs:List Seg)(p:bj),cB (segs.map fg) p↔cB segs p
 | [],p=>fk
 |.one as::r,p=>by
  show cB (.one (slim as)::r.map fg) p↔_;rw[ku,ku];simp only[Ka,rV r]
 | [.deep],p=>fk
 |.deep::b::r,p=>by
  show cB (.deep::fg b::r.map fg) p↔_;rw[gY,gY];have ih:=rV (b::r);simp only[cV]at ih;simp only[ih]
theorem Er:∀(n:Nat)(s:ag)(as:List bc),s.length<=n->ats s=some as->as.length<=s.length
 |n,[],as,_,h=>by
  rw[Es]at h;cases h;exact aF _
 |0,c::s,as,hn,_=>by simp at hn
 |n+1,c::s,as,hn,h=>by
  rw[zD (by simp)]at h;cases e:eA (c::s)with
  |none=>rw[e]at h; cases h
  |some x=>
   rw[e]at h;have h:(ats x.2).map (fun l=>x.1::l)=some as:=h;have hl:=AN (a:=x.1) (r:=x.2) e;cases e2:ats x.2 with
   |none=>rw[e2]at h; cases h
   |some l=>
    rw[e2]at h;cases h;have:=Er n x.2 l (by omega) e2;simp only[bG]at hl⊢;omega
theorem xG:∀{ps:List ag}{l:List Seg},dI ps=some l->l.length=ps.length/\∀(k:Nat)(s:ag),ps[k]?=some s->∃x,l[k]?=some x/\hX s=some x
 | [],l,h=>by
  have h:some []=some l:=h;cases h;exact⟨rfl,fun k s e=>by simp at e⟩
 |p::ps,l,h=>by
  rw[pW]at h;cases e1:hX p with
  |none=>rw[e1]at h; cases h
  |some x=>
   cases e2:dI ps with
   |none=>rw[e1,e2]at h; cases h
   |some r=>
    rw[e1,e2]at h;cases h;obtain⟨h1,h2⟩:=xG e2;refine⟨by rw[bG,bG,h1],fun k s e=>?_⟩
    match k,e with
    |0,e=>
     have:p=s:=by simpa using e
     subst this;exact⟨x,rfl,e1⟩
    |k+1,e=>exact h2 k s (by simpa using e)
theorem Uu{ps:List ag}{l:List Seg}(h:dI ps=some l){k:Nat}{x:Seg}(hx:l[k]?=some x):∃s,ps[k]?=some s/\hX s=some x:=by
 obtain⟨h1,h2⟩:=xG h;have hk:k<ps.length:=by rw[<-h1]; exact(aK.mp hx).1
 obtain⟨x',e1,e2⟩:=h2 k ps[k] (bL hk);rw[hx]at e1;cases e1;exact⟨_,bL hk,e2⟩
theorem JN{s:ag}{x:Seg}(h:hX s=some x):s≠[]:=fun e=>by
 rw[e,uC]at h;cases h
theorem JM{s:ag}{as:List bc}(h:hX s=some (.one as)):as.length<=s.length:=by
 by_cases h2:s=[42,42]
 ·rw[h2,uB]at h;cases h
 ·rw[uD (JN h) h2]at h;cases e:ats s with
  |none=>rw[e]at h; cases h
  |some l=>
   rw[e]at h;cases h;exact Er s.length s _ (aF _) e
theorem split_len(c:UInt8):∀s:ag,((aG c s).map dS).sum+(aG c s).length=s.length+1
 | []=>rfl
 |x::s=>by
  have ih:=split_len c s;by_cases h:x=c
  ·subst h;rw[nS];simp only[cV,iY,bG,vm];omega
  ·cases e:aG c s with
   |nil=>exact absurd e (eV c s)
   |cons y r=>
    rw[e]at ih;rw[lI h e];simp only[cV,iY,bG]at ih⊢;omega
theorem KE:∀{l:List ag},(∀s∈l,s≠[])->l.length<=(l.map dS).sum
 | [],_=>aF _
 |s::l,h=>by
  have ih:=KE (l:=l) fun x hx=>h x (bU _ hx);have:=fC.mpr (h s (by simp));simp only[cV,iY,bG];omega
theorem RE{l:List ag}{s:ag}(h:s∈l):s.length<=(l.map dS).sum:=by
 induction l with
 |nil=>cases h
 |cons x r ih=>
  simp only[cV,iY];rcases bg.mp h with rfl|h
  ·omega
  ·have:=ih h;omega
theorem MT{neg dirs:Bool}{s:ag}{r:cX}(h:bodyOf neg dirs s=some r):r.segs≠[]/\2*r.segs.length<=s.length+4/\∀(k:Nat)(as:List bc),r.segs[k]?=some (.one as)->as.length<=s.length:=by
 rw[zI]at h;cases e:dI (gM s)with
 |none=>rw[e]at h; cases h
 |some l=>
  rw[e]at h;cases h;obtain⟨h1,_⟩:=xG e
  have ne:∀p∈gM s,p≠[]:=fun p hp=>by
   obtain⟨k,hk,rfl⟩:=iV hp;obtain⟨x,_,e2⟩:=(xG e).2 k _ (bL hk);exact JN e2
  have hs:=KE ne;have hp:0<(gM s).length:=fC.mpr (eV _ _);refine⟨fun z=>?_,?_,fun k as hk=>?_⟩
  ·have z:l=[]:=z;rw[z]at h1;have h1:0=(gM s).length:=h1;omega
  ·show 2*l.length<=s.length+4;rw[h1];unfold gM at hs⊢;have hl:=split_len 47 (if s.contains 47=true then(if s.head?=some 47 then s.drop 1 else s)else 42::42::47::s)
   have hb:(if s.contains 47=true then(if s.head?=some 47 then s.drop 1 else s)else 42::42::47::s).length<=s.length+3:=by
    by_cases c:s.contains 47=true
    ·rw[if_pos c];by_cases d:s.head?=some 47
     ·rw[if_pos d,cI]; omega
     ·rw[if_neg d]; omega
    ·rw[if_neg c]; simp only[bG]; omega
   omega
  ·have hk:l[k]?=some (.one as):=hk;obtain⟨p,e1,e2⟩:=Uu e hk;refine dW (JM e2) ?_;have hm:p∈gM s:=dq e1;have hl2:=RE hm;by_cases c:s.contains 47=true
   ·unfold gM at hm hl2;rw[if_pos c]at hm hl2;have hl:=split_len 47 (if s.head?=some 47 then s.drop 1 else s)
    have hb:(if s.head?=some 47 then s.drop 1 else s).length<=s.length:=by
     by_cases d:s.head?=some 47
     ·rw[if_pos d,cI]; omega
     ·rw[if_neg d]; omega
    have hp2:=fC.mpr (eV 47 (if s.head?=some 47 then s.drop 1 else s));omega
   ·unfold gM at hm;rw[if_neg c]at hm
    have e3:aG 47 (42::42::47::s)=[[42,42],s]:=by
     have:=mL 47 [42,42] s;rw[jQ (c:=47) (s:=[42,42]) (by decide),jQ (c:=47) (s:=s) (by simpa using c)]at this;exact this
    rw[e3]at hm;rcases bg.mp hm with rfl|hm
    ·rw[uB]at e2;cases e2
    ·have:p=s:=by simpa using hm
     rw[this];exact aF _
theorem Pi{s:ag}{r:cX}(h:dB s=some (some r)):r.segs≠[]/\2*r.segs.length<=s.length+4/\∀(k:Nat)(as:List bc),r.segs[k]?=some (.one as)->as.length<=s.length:=by
 by_cases c:s=[]\/s.head?=some 35
 ·rw[Ax c]at h;cases h
 ·rw[Ay c]at h;cases e:nL s with
  |none=>rw[e]at h; cases h
  |some r'=>
   rw[e]at h;cases h;unfold nL at e;obtain⟨h1,h2,h3⟩:=MT e
   have hb:(if((if(s.head?==some 33)=true then s.drop 1 else s).getLast?==some 47)=true then(if(s.head?==some 33)=true then s.drop 1 else s).dropLast else(if(s.head?==some 33)=true then s.drop 1 else s)).length<=s.length:=by
    have h0:(if(s.head?==some 33)=true then s.drop 1 else s).length<=s.length:=by
     by_cases d:(s.head?==some 33)=true
     ·rw[if_pos d,cI]; omega
     ·rw[if_neg d]; omega
    by_cases d:((if(s.head?==some 33)=true then s.drop 1 else s).getLast?==some 47)=true
    ·rw[if_pos d,LU]; omega
    ·rw[if_neg d]; exact h0
   exact⟨h1,by omega,fun k as hk=>dW (h3 k as hk) hb⟩
theorem UN{segs:List Seg}(h1:segs≠[])(h2:segs.length<=14)(h3:∀(k:Nat)(as:List bc),segs[k]?=some (.one as)->as.length<=24):iE (segs.map fg):=by
 refine⟨fun e=>h1 (by simpa using e),by rw[aE]; exact h2,fun k as hk=>?_⟩;rw[cH]at hk;cases e:segs[k]? with
 |none=>rw[e]at hk; cases hk
 |some x=>
  rw[e]at hk;cases x with
  |deep=>cases hk
  |one as'=>
   have hk:some (Seg.one (slim as'))=some (.one as):=hk;cases hk;exact dW (BZ as') (h3 k as' e)
def qy(r q:cX)(x:ag):Prop:=cB r.segs (aG 47 x)/\cB q.segs (aG 47 x)/\(aG 47 x).all gx=true
def qo(r q:cX)(o:Option ag):Prop:=match o with
 |some y=>(qy r q y/\∀x,qy r q x->jg y x)/\y.length<=PATH
 |none=>∀x,qy r q x->PATH<x.length
theorem Gw:∀{p q:ag},er p q->er q p->p.length=q.length->p=q
 | [],q,_,_,hl=>(mV.mp hl.symm).symm
 |c::p,[],_,_,hl=>by simp at hl
 |c::p,d::q,h1,h2,hl=>by
  rcases h1 with h1|⟨rfl,h1⟩
  ·rcases h2 with h2|⟨rfl,_⟩
   ·exact absurd (Ea h1 h2) (sZ _)
   ·exact absurd h1 (sZ _)
  ·rcases h2 with h2|⟨_,h2⟩
   ·exact absurd h2 (sZ _)
   ·rw[Gw h1 h2 (by simpa using hl)]
theorem OW{r q:cX}{o o':Option ag}(h:qo r q o)(h':qo r q o'):o=o':=by
 cases o with
 |none=>
  cases o' with
  |none=>rfl
  |some y=>
   have:=h y h'.1.1;have:=h'.2;omega
 |some y=>
  cases o' with
  |none=>
   have:=h' y h.1.1;have:=h.2;omega
  |some y'=>
   have a:=h.1.2 y' h'.1.1;have b:=h'.1.2 y h.1.1
   have e:y.length=y'.length:=by
    have:=rA a;have:=rA b;omega
   rcases a with a|⟨_,a⟩
   ·omega
   ·rcases b with b|⟨_,b⟩
    ·omega
    ·rw[Gw a b e]
theorem Gp{x:ag}(ha:jb x=true):∃r q,(du x=[r]/\q=r\/du x=[r,q])/\qo r q (least x):=by
 unfold jb at ha;simp only[cA,decide_eq_true_iff]at ha;obtain⟨h0,h1,h2,h3,h4⟩:=ha
 have small:∀r∈du x,iE (r.segs.map fg):=fun r hr=>by
  unfold du at hr;obtain⟨s,hs,e⟩:=kP.mp hr
  have hlen:s.length<=24:=by
   have:=ju.mp h1 s hs;simpa using this
  have e':dB s=some (some r):=by
   cases q:dB s with
   |none=>rw[q]at e; cases e
   |some y=>
    rw[q]at e;have e:y=some r:=e;rw[e]
  obtain⟨g1,g2,g3⟩:=Pi e';exact UN g1 (by omega) fun k as hk=>dW (g3 k as hk) hlen
 have both:∀r∈du x,∀q∈du x,qo r q (leastOf (r.segs.map fg) (q.segs.map fg)):=fun r hr q hq=>by
  have Sa:=small r hr;have Sb:=small q hq
  have hb:∀y,Both (r.segs.map fg) (q.segs.map fg) y↔qy r q y:=fun y=>by
   rw[MU _ _ Sa.ne Sb.ne,rV,rV];exact fk
  obtain⟨s1,s2⟩:=OU Sa Sb;cases e:leastOf (r.segs.map fg) (q.segs.map fg)with
  |some y=>
   obtain⟨⟨t1,t2⟩,t3⟩:=s1 y e;exact⟨⟨(hb y).mp t1,fun z hz=>t2 z ((hb z).mpr hz)⟩,t3⟩
  |none=>exact fun z hz=>s2 e z ((hb z).mpr hz)
 unfold least;cases e:du x with
 |nil=>rw[e]at h3; simp at h3
 |cons r l=>
  cases l with
  |nil=>exact⟨r,r,.inl ⟨rfl,rfl⟩,both r (by rw[e]; simp) r (by rw[e]; simp)⟩
  |cons q l=>
   cases l with
   |nil=>exact⟨r,q,.inr rfl,both r (by rw[e]; simp) q (by rw[e]; simp)⟩
   |cons z l=>
    rw[e]at h4;simp at h4
structure aZ where
 starts:List Nat
 fin:Nat
 steps:List (List (Nat×Nat))
def aZ.from(M:aZ)(p:Nat):List (Nat×Nat):=(M.steps[p]?).getD []
def lZ(M:aZ):ag->Nat->Nat->Prop
 | [],p,q=>p=q
 |c::x,p,q=>∃S t,(S,t)∈M.from p/\bF S c=true/\lZ M x t q
def Acc(M:aZ)(x:ag)(p:Nat):Prop:=lZ M x p M.fin
def fB(M:aZ)(x:ag):Prop:=∃p,p∈M.starts/\Acc M x p
theorem wb{M:aZ}{p:Nat}:Acc M [] p↔p=M.fin:=fk
theorem qT{M:aZ}{c:UInt8}{x:ag}{p:Nat}:Acc M (c::x) p↔∃S t,(S,t)∈M.from p/\bF S c=true/\Acc M x t:=fk
theorem pV{M:aZ}:∀{x y:ag}{p q:Nat},lZ M (x++y) p q↔∃r,lZ M x p r/\lZ M y r q
 | [],y,p,q=>⟨fun h=>⟨p,rfl,h⟩,fun⟨r,e,h⟩=>by cases e; exact h⟩
 |c::x,y,p,q=>by
  constructor
  ·rintro⟨S,t,h1,h2,h3⟩;obtain⟨r,h4,h5⟩:=pV.mp h3;exact⟨r,⟨S,t,h1,h2,h4⟩,h5⟩
  ·rintro⟨r,⟨S,t,h1,h2,h4⟩,h5⟩;exact⟨S,t,h1,h2,pV.mpr ⟨r,h4,h5⟩⟩
def eh:Nat:=2^46
def dO:Nat:=aR^^^2^46
def RN:List (List (Nat×Nat)):=[[(eh,1),(dO,3)],[(eh,2),(dO,3)],[(aR,3)],[(aR,3),(bY,0)]]
def jk:aZ:=⟨[0],3,RN⟩
theorem MQ(k:Nat)(c:UInt8):bF (2^k) c=decide (k=c.toNat):=by
 unfold bF;rw[oH]
theorem EE(c:UInt8):bF eh c=true↔c=46:=by
 unfold eh;rw[MQ,decide_eq_true_iff,iO];exact⟨fun h=>h.symm,fun h=>h.symm⟩
theorem MO(c:UInt8):bF dO c=true↔c≠0/\c≠47/\c≠46:=by
 have h1:bF dO c=(bF aR c^^bF (2^46) c):=by
  unfold bF dO;rw[zd]
 have h2:=mB.part c;have h3:bF (2^46) c=true↔c=46:=EE c;rw[h1];cases e1:bF aR c<;>cases e2:bF (2^46) c
 ·rw[e1]at h2; rw[e2]at h3; simp at h2 h3⊢; intro a b; exact absurd (h2 a) b
 ·rw[e1]at h2; rw[e2]at h3;simp at h2 h3;subst h3;exact absurd (h2 (by decide)) (by decide)
 ·rw[e1]at h2; rw[e2]at h3; simp at h2 h3⊢; exact⟨h2.1,h2.2,h3⟩
 ·rw[e1]at h2; rw[e2]at h3; simp at h2 h3⊢; intro _ _; exact h3
theorem Bw:∀(x:ag)(p:Nat),p<4->(Acc jk x p↔lY x p)
 | [],p,_=>fk
 |c::x,p,hp=>by
  have ih:=Bw x;have hpt:=mB.part c;have hd:=EE c;have hn:=MO c;have hs:=mB.slash c;by_cases h47:c=47
  ·subst h47;rw[Bq,qT]
   match p,hp with
   |0,_=>
    constructor
    ·rintro⟨S,t,h1,h2,_⟩;have h1:(S,t)∈ [(eh,1),(dO,3)]:=h1;simp at h1;rcases h1 with⟨rfl,rfl⟩|⟨rfl,rfl⟩
     ·exact absurd (hd.mp h2) (by decide)
     ·exact absurd rfl (hn.mp h2).2.1
    ·rintro⟨h,_⟩; cases h
   |1,_=>
    constructor
    ·rintro⟨S,t,h1,h2,_⟩;have h1:(S,t)∈ [(eh,2),(dO,3)]:=h1;simp at h1;rcases h1 with⟨rfl,rfl⟩|⟨rfl,rfl⟩
     ·exact absurd (hd.mp h2) (by decide)
     ·exact absurd rfl (hn.mp h2).2.1
    ·rintro⟨h,_⟩; cases h
   |2,_=>
    constructor
    ·rintro⟨S,t,h1,h2,_⟩;have h1:(S,t)∈ [(aR,3)]:=h1;simp at h1;obtain⟨rfl,rfl⟩:=h1;exact absurd rfl (hpt.mp h2).2
    ·rintro⟨h,_⟩; cases h
   |3,_=>
    constructor
    ·rintro⟨S,t,h1,h2,h3⟩;have h1:(S,t)∈ [(aR,3),(bY,0)]:=h1;simp at h1;rcases h1 with⟨rfl,rfl⟩|⟨rfl,rfl⟩
     ·exact absurd rfl (hpt.mp h2).2
     ·exact⟨rfl,(ih 0 (by decide)).mp h3⟩
    ·rintro⟨_,h⟩;exact⟨bY,0,by show _∈ [(aR,3),(bY,0)]; simp,hs.mpr rfl,(ih 0 (by decide)).mpr h⟩
  ·rw[Bp h47,qT]
   match p,hp with
   |0,_=>
    constructor
    ·rintro⟨S,t,h1,h2,h3⟩;have h1:(S,t)∈ [(eh,1),(dO,3)]:=h1;simp at h1;rcases h1 with⟨rfl,rfl⟩|⟨rfl,rfl⟩
     ·have e:=hd.mp h2;subst e;exact⟨by decide,(ih 1 (by decide)).mp h3⟩
     ·obtain⟨g1,_,g3⟩:=hn.mp h2;refine⟨g1,?_⟩;rw[show cS 0 c=3 by unfold cS; rw[if_neg (fun z=>g3 z.1)]];exact(ih 3 (by decide)).mp h3
    ·rintro⟨g1,h⟩;by_cases h46:c=46
     ·subst h46;exact⟨eh,1,by show _∈ [(eh,1),(dO,3)]; simp,hd.mpr rfl,(ih 1 (by decide)).mpr h⟩
     ·rw[show cS 0 c=3 by unfold cS; rw[if_neg (fun z=>h46 z.1)]]at h;exact⟨dO,3,by show _∈ [(eh,1),(dO,3)]; simp,hn.mpr ⟨g1,h47,h46⟩,(ih 3 (by decide)).mpr h⟩
   |1,_=>
    constructor
    ·rintro⟨S,t,h1,h2,h3⟩;have h1:(S,t)∈ [(eh,2),(dO,3)]:=h1;simp at h1;rcases h1 with⟨rfl,rfl⟩|⟨rfl,rfl⟩
     ·have e:=hd.mp h2;subst e;exact⟨by decide,(ih 2 (by decide)).mp h3⟩
     ·obtain⟨g1,_,g3⟩:=hn.mp h2;refine⟨g1,?_⟩;rw[show cS 1 c=3 by unfold cS; rw[if_neg (fun z=>g3 z.1)]];exact(ih 3 (by decide)).mp h3
    ·rintro⟨g1,h⟩;by_cases h46:c=46
     ·subst h46;exact⟨eh,2,by show _∈ [(eh,2),(dO,3)]; simp,hd.mpr rfl,(ih 2 (by decide)).mpr h⟩
     ·rw[show cS 1 c=3 by unfold cS; rw[if_neg (fun z=>h46 z.1)]]at h;exact⟨dO,3,by show _∈ [(eh,2),(dO,3)]; simp,hn.mpr ⟨g1,h47,h46⟩,(ih 3 (by decide)).mpr h⟩
   |2,_=>
    have e:cS 2 c=3:=by unfold cS; rw[if_neg (fun z=>absurd z.2 (by decide))]
    rw[e];constructor
    ·rintro⟨S,t,h1,h2,h3⟩;have h1:(S,t)∈ [(aR,3)]:=h1;simp at h1;obtain⟨rfl,rfl⟩:=h1;exact⟨(hpt.mp h2).1,(ih 3 (by decide)).mp h3⟩
    ·rintro⟨g1,h⟩;exact⟨aR,3,by show _∈ [(aR,3)]; simp,hpt.mpr ⟨g1,h47⟩,(ih 3 (by decide)).mpr h⟩
   |3,_=>
    have e:cS 3 c=3:=by unfold cS; rw[if_neg (fun z=>absurd z.2 (by decide))]
    rw[e];constructor
    ·rintro⟨S,t,h1,h2,h3⟩;have h1:(S,t)∈ [(aR,3),(bY,0)]:=h1;simp at h1;rcases h1 with⟨rfl,rfl⟩|⟨rfl,rfl⟩
     ·exact⟨(hpt.mp h2).1,(ih 3 (by decide)).mp h3⟩
     ·exact absurd (hs.mp h2) h47
    ·rintro⟨g1,h⟩;exact⟨aR,3,by show _∈ [(aR,3),(bY,0)]; simp,hpt.mpr ⟨g1,h47⟩,(ih 3 (by decide)).mpr h⟩
theorem RM(x:ag):fB jk x↔(aG 47 x).all gx=true:=by
 have h:=xw x [] (fun c hc=>by cases hc);rw[show([]:ag)++x=x from rfl]at h;rw[<-h];constructor
 ·rintro⟨p,hp,ha⟩;have hp:p∈ [0]:=hp;simp at hp;subst hp;exact(Bw x 0 (by decide)).mp ha
 ·intro ha;exact⟨0,by show 0∈ [0]; simp,(Bw x 0 (by decide)).mpr ha⟩
def De(cs:List MC)(k:Nat)(x:ag):Prop:=(k=cs.length/\x=[])\/∃c u b v,cs[k]?=some c/\x=u++b::v/\(∀d∈u,bF c.stays d=true)/\bF c.moves b=true/\dE (cs.drop (k+1)) v
theorem wZ(cs:List MC)(x:ag):∀(n j:Nat),j+n=cs.length->(dE (cs.drop j) x↔∃k,j<=k/\k<=cs.length/\(∀i,j<=i->i<k->∃c,cs[i]?=some c/\c.opt=true)/\De cs k x)
 |0,j,h=>by
  have e:cs.drop j=[]:=lT (by omega);rw[e];constructor
  ·intro(hx:x=[]);exact⟨j,aF _,by omega,fun i h1 h2=>by omega,.inl ⟨by omega,hx⟩⟩
  ·rintro⟨k,h1,h2,_,hc⟩;rcases hc with⟨_,hx⟩|⟨c,u,b,v,hc,_⟩
   ·exact hx
   ·have:=(aK.mp hc).1;omega
 |n+1,j,h=>by
  have hj:j<cs.length:=by omega
  have e:cs.drop j=cs[j]::cs.drop (j+1):=Do hj;have ej:cs[j]?=some cs[j]:=bL hj;rw[e];have ih:=wZ cs x n (j+1) (by omega);constructor
  ·rintro(⟨ho,hm⟩|⟨u,b,v,hx,h1,h2,h3⟩)
   ·obtain⟨k,h1,h2,h3,h4⟩:=ih.mp hm;refine⟨k,by omega,h2,fun i hi hk=>?_,h4⟩;by_cases q:i=j
    ·subst q; exact⟨_,ej,ho⟩
    ·exact h3 i (by omega) hk
   ·exact⟨j,aF _,by omega,fun i h1 h2=>by omega,.inr ⟨_,u,b,v,ej,hx,h1,h2,h3⟩⟩
  ·rintro⟨k,h1,h2,h3,h4⟩;by_cases q:k=j
   ·subst q;rcases h4 with⟨z,_⟩|⟨c,u,b,v,hc,hx,g1,g2,g3⟩
    ·omega
    ·rw[ej]at hc;cases hc;exact .inr ⟨u,b,v,hx,g1,g2,g3⟩
   ·obtain⟨c,hc,ho⟩:=h3 j (aF _) (by omega);rw[ej]at hc;cases hc;exact .inl ⟨ho,ih.mpr ⟨k,by omega,h2,fun i hi hk=>h3 i (by omega) hk,h4⟩⟩
structure jy(cs:List MC)(M:aZ):Prop where
 fin:M.fin=cs.length
 len:M.steps.length=cs.length+1
 starts:∀t,t∈M.starts↔t<=cs.length/\∀i,i<t->∃c,cs[i]?=some c/\c.opt=true
 cell:∀(k:Nat)(c:MC),cs[k]?=some c->∀S t,(S,t)∈M.from k↔(S=c.stays/\t=k)\/(S=c.moves/\k+1<=t/\t<=cs.length/\∀i,k+1<=i->i<t->∃d,cs[i]?=some d/\d.opt=true)
 last:M.from cs.length=[]
theorem Bu{cs:List MC}{M:aZ}(P:jy cs M):∀(x:ag)(k:Nat),k<=cs.length->(Acc M x k↔De cs k x)
 | [],k,hk=>by
  rw[wb,P.fin];constructor
  ·intro h; exact .inl ⟨h,rfl⟩
  ·rintro(⟨h,_⟩|⟨c,u,b,v,_,hx,_⟩)
   ·exact h
   ·cases u<;>cases hx
 |b::x,k,hk=>by
  rw[qT];by_cases hl:k=cs.length
  ·subst hl;constructor
   ·rintro⟨S,t,h,_⟩;rw[P.last]at h;cases h
   ·rintro(⟨_,h⟩|⟨c,u,d,v,hc,_⟩)
    ·cases h
    ·have:=(aK.mp hc).1;omega
  ·have hk':k<cs.length:=by omega
   have ek:cs[k]?=some cs[k]:=bL hk';have ih:=Bu P x;constructor
   ·rintro⟨S,t,h1,h2,h3⟩;rcases(P.cell k _ ek S t).mp h1 with⟨rfl,rfl⟩|⟨rfl,g1,g2,g3⟩
    ·rcases(ih t hk).mp h3 with⟨z,_⟩|⟨c,u,d,v,hc,hx,g1,g2,g3⟩
     ·omega
     ·rw[ek]at hc;cases hc;refine .inr ⟨_,b::u,d,v,ek,by rw[hx]; rfl,fun y hy=>?_,g2,g3⟩;rcases bg.mp hy with rfl|hy
      ·exact h2
      ·exact g1 y hy
    ·refine .inr ⟨_,[],b,x,ek,rfl,(fun y hy=>by cases hy),h2,?_⟩;exact(wZ cs x (cs.length-(k+1)) (k+1) (by omega)).mpr ⟨t,g1,g2,g3,(ih t g2).mp h3⟩
   ·rintro(⟨z,_⟩|⟨c,u,d,v,hc,hx,g1,g2,g3⟩)
    ·exact absurd z hl
    ·rw[ek]at hc;cases hc;cases u with
     |nil=>
      cases hx;obtain⟨t,k1,k2,k3,k4⟩:=(wZ cs x (cs.length-(k+1)) (k+1) (by omega)).mp g3;exact⟨_,t,(P.cell k _ ek _ t).mpr (.inr ⟨rfl,k1,k2,k3⟩),g2,(ih t k2).mpr k4⟩
     |cons y u=>
      cases hx;exact⟨_,k,(P.cell k _ ek _ k).mpr (.inl ⟨rfl,rfl⟩),g1 _ (dD),(ih k hk).mpr (.inr ⟨_,u,d,v,ek,rfl,fun z hz=>g1 z (bU _ hz),g2,g3⟩)⟩
theorem HD{cs:List MC}{M:aZ}(P:jy cs M)(x:ag):fB M x↔dE cs x:=by
 have h:=wZ cs x cs.length 0 (by omega);rw[sD]at h;rw[h];constructor
 ·rintro⟨p,hp,ha⟩;obtain⟨h1,h2⟩:=(P.starts p).mp hp;exact⟨p,bC _,h1,fun i _ hi=>h2 i hi,(Bu P x p h1).mp ha⟩
 ·rintro⟨k,_,h1,h2,h3⟩;exact⟨k,(P.starts k).mpr ⟨h1,fun i hi=>h2 i (bC _) hi⟩,(Bu P x k h1).mpr h3⟩
theorem Bv{cs:List MC}{M:aZ}(P:jy cs M){k:Nat}{S t:Nat}(h:(S,t)∈M.from k):k<=t/\t<=cs.length:=by
 by_cases hk:k<cs.length
 ·rcases(P.cell k _ (bL hk) S t).mp h with⟨_,rfl⟩|⟨_,h1,h2,_⟩
  ·exact⟨aF _,by omega⟩
  ·exact⟨by omega,h2⟩
 ·by_cases e:k=cs.length
  ·rw[e,P.last]at h; cases h
  ·have:M.steps[k]?=none:=gT (by rw[P.len]; omega);unfold aZ.from at h;rw[this]at h;cases h
structure DZ(A B:aZ)(met:List (Nat×Nat))(steps:List (List (Nat×Nat))):Prop where
 here:∀(i:Nat)(l:List (Nat×Nat))(p q:Nat),steps[i]?=some l->met[i]?=some (p,q)->∀Z n,(Z,n)∈l->∃S t S' u,(S,t)∈A.from p/\(S',u)∈B.from q/\Z=S&&&S'/\Z≠0/\met[n]?=some (t,u)
 all:∀(i:Nat)(l:List (Nat×Nat))(p q:Nat),steps[i]?=some l->met[i]?=some (p,q)->∀S t S' u,(S,t)∈A.from p->(S',u)∈B.from q->S&&&S'≠0->∃n,(S&&&S',n)∈l/\met[n]?=some (t,u)
structure uZ(A B M:aZ)(met:List (Nat×Nat)):Prop where
 st:DZ A B met M.steps
 len:M.steps.length=met.length
 nd:met.Nodup
 fin:met[M.fin]?=some (A.fin,B.fin)
 starts:∀n,n∈M.starts->∃p q,p∈A.starts/\q∈B.starts/\met[n]?=some (p,q)
 all:∀p q,p∈A.starts->q∈B.starts->∃n,n∈M.starts/\met[n]?=some (p,q)
theorem GU{α:Type}{l:List α}(h:l.Nodup){i j:Nat}{x:α}(a:l[i]?=some x)(b:l[j]?=some x):i=j:=by
 obtain⟨hi,ei⟩:=aK.mp a;obtain⟨hj,ej⟩:=aK.mp b;have hp:=yU.mp h;rcases Nat.lt_trichotomy i j with z|z|z
 ·exact absurd (ei.trans ej.symm) (hp i j hi hj z)
 ·exact z
 ·exact absurd (ej.trans ei.symm) (hp j i hj hi z)
theorem ED{S T:Nat}{c:UInt8}:bF (S&&&T) c=true↔bF S c=true/\bF T c=true:=by
 unfold bF;rw[lX,cA]
theorem wk{A B M:aZ}{met:List (Nat×Nat)}(h:uZ A B M met):∀(x:ag)(n p q:Nat),met[n]?=some (p,q)->(Acc M x n↔Acc A x p/\Acc B x q)
 | [],n,p,q,e=>by
  rw[wb,wb,wb];constructor
  ·intro z;rw[z,h.fin]at e;cases e;exact⟨rfl,rfl⟩
  ·rintro⟨rfl,rfl⟩;exact GU h.nd e h.fin
 |c::x,n,p,q,e=>by
  have hn:n<M.steps.length:=by rw[h.len]; exact(aK.mp e).1
  have el:M.steps[n]?=some M.steps[n]:=bL hn;have ef:M.from n=M.steps[n]:=by unfold aZ.from; rw[el]; rfl
  rw[qT,qT,qT,ef];constructor
  ·rintro⟨Z,m,h1,h2,h3⟩;obtain⟨S,t,S',u,g1,g2,rfl,_,g3⟩:=h.st.here n _ p q el e Z m h1;obtain⟨k1,k2⟩:=ED.mp h2;obtain⟨a1,a2⟩:=(wk h x m t u g3).mp h3;exact⟨⟨S,t,g1,k1,a1⟩,⟨S',u,g2,k2,a2⟩⟩
  ·rintro⟨⟨S,t,g1,k1,a1⟩,⟨S',u,g2,k2,a2⟩⟩;have hb:bF (S&&&S') c=true:=ED.mpr ⟨k1,k2⟩;have hz:S&&&S'≠0:=fun z=>by rw[z,EC]at hb; cases hb
   obtain⟨m,h1,h2⟩:=h.st.all n _ p q el e S t S' u g1 g2 hz;exact⟨_,m,h1,hb,(wk h x m t u h2).mpr ⟨a1,a2⟩⟩
theorem MV{A B M:aZ}{met:List (Nat×Nat)}(h:uZ A B M met)(x:ag):fB M x↔fB A x/\fB B x:=by
 constructor
 ·rintro⟨n,hn,ha⟩;obtain⟨p,q,h1,h2,e⟩:=h.starts n hn;obtain⟨a1,a2⟩:=(wk h x n p q e).mp ha;exact⟨⟨p,h1,a1⟩,⟨q,h2,a2⟩⟩
 ·rintro⟨⟨p,h1,a1⟩,⟨q,h2,a2⟩⟩;obtain⟨n,hn,e⟩:=h.all p q h1 h2;exact⟨n,hn,(wk h x n p q e).mpr ⟨a1,a2⟩⟩
theorem lC:∀(n:Nat)(l:List Nat),l.Nodup->(∀x∈l,x<n)->l.length<=n
 |0,[],_,_=>aF _
 |0,x::l,_,h=>absurd (h x dD) (Nat.not_lt_zero _)
 |n+1,l,hd,h=>by
  have h1:(l.erase n).Nodup:=hd.erase n
  have h2:=lC n (l.erase n) h1 (fun x hx=>by
   have h3:=(List.Nodup.mem_erase_iff hd).mp hx;have:=h x h3.2;have:=h3.1;omega)
  by_cases hn:n∈l
  ·have:=List.length_erase_of_mem hn;omega
  ·rw[List.erase_of_not_mem hn]at h2;omega
theorem Bo{l:List (Nat×Nat)}{a b:Nat}(hd:l.Nodup)(h:∀x∈l,x.1<a/\x.2<b):l.length<=a*b:=by
 have e:(l.map fun x=>x.1*b+x.2).length=l.length:=aE _;rw[<-e];refine lC _ _ ?_ ?_
 ·refine kQ.mpr (sA ?_ hd);intro x y hx hy hne q;have q:x.1*b+x.2=y.1*b+y.2:=q;have h1:=(h x hx).2;have h2:=(h y hy).2
  have e1:(x.1*b+x.2) / b=x.1:=by
   rw[Nat.mul_comm,Nat.mul_add_div (by omega),Nat.div_eq_of_lt h1,Nat.add_zero]
  have e2:(y.1*b+y.2) / b=y.1:=by
   rw[Nat.mul_comm,Nat.mul_add_div (by omega),Nat.div_eq_of_lt h2,Nat.add_zero]
  have e3:x.1=y.1:=by rw[<-e1,<-e2,q]
  rw[e3]at q;exact hne (Prod.ext e3 (Nat.add_left_cancel q))
 ·intro z hz;obtain⟨x,hx,rfl⟩:=bP.mp hz;obtain⟨h1,h2⟩:=h x hx;show x.1*b+x.2<a*b;have:(x.1+1)*b<=a*b:=vB b h1;rw[oF]at this;omega
theorem xD{M:aZ}:∀{x:ag}{p q:Nat},lZ M x p q->∃f:Nat->Nat,f 0=p/\f x.length=q/\(∀i,i<x.length->∃S,(S,f (i+1))∈M.from (f i))/\∀i,i<=x.length->lZ M (x.take i) p (f i)/\lZ M (x.drop i) (f i) q
 | [],p,q,h=>by
  cases(show p=q from h);refine⟨fun _=>p,rfl,rfl,fun i hi=>by simp at hi,fun i hi=>?_⟩;simp at hi;subst hi;exact⟨rfl,rfl⟩
 |c::x,p,q,h=>by
  obtain⟨S,t,h1,h2,h3⟩:=h;obtain⟨f,e0,e1,g1,g2⟩:=xD h3;refine⟨fun i=>match i with|0=>p|i+1=>f i,rfl,e1,fun i hi=>?_,fun i hi=>?_⟩
  ·match i with
   |0=>exact⟨S,by show(S,f 0)∈_; rw[e0]; exact h1⟩
   |i+1=>exact g1 i (by simpa using hi)
  ·match i with
   |0=>exact⟨rfl,S,t,h1,h2,h3⟩
   |i+1=>
    obtain⟨k1,k2⟩:=g2 i (by simpa using hi);exact⟨⟨S,t,h1,h2,k1⟩,k2⟩
theorem BS{M:aZ}{f:Nat->Nat}{n:Nat}(up:∀k S t,(S,t)∈M.from k->k<=t)(h:∀i,i<n->∃S,(S,f (i+1))∈M.from (f i)):∀(d i:Nat),i+d<=n->f i<=f (i+d)
 |0,i,_=>aF _
 |d+1,i,hd=>by
  obtain⟨S,hS⟩:=h (i+d) (by omega);exact dW (BS up h d i (by omega)) (up _ _ _ hS)
theorem HF{k S t:Nat}(h:(S,t)∈jk.from k):t<4:=by
 have hk:k<4\/4<=k:=by omega
 rcases hk with hk|hk
 ·match k,hk with
  |0,_=>have h:(S,t)∈ [(eh,1),(dO,3)]:=h; simp at h; omega
  |1,_=>have h:(S,t)∈ [(eh,2),(dO,3)]:=h; simp at h; omega
  |2,_=>have h:(S,t)∈ [(aR,3)]:=h; simp at h; omega
  |3,_=>have h:(S,t)∈ [(aR,3),(bY,0)]:=h; simp at h; omega
 ·unfold aZ.from at h;rw[show jk.steps[k]?=none from gT (by show 4<=k; exact hk)]at h;cases h
def sr(A B:aZ)(x:ag):Prop:=fB jk x/\fB A x/\fB B x
theorem UC{cs ds:List MC}{A B:aZ}(PA:jy cs A)(PB:jy ds B){x:ag}(h:sr A B x)(hm:∀y,sr A B y->x.length<=y.length):x.length+1<=4*(cs.length+ds.length+1):=by
 obtain⟨⟨s0,hs0,a0⟩,⟨s1,hs1,a1⟩,⟨s2,hs2,a2⟩⟩:=h;obtain⟨f0,b0,e0,st0,g0⟩:=xD a0;obtain⟨f1,b1,e1,st1,g1⟩:=xD a1;obtain⟨f2,b2,e2,st2,g2⟩:=xD a2;have u1:=BS (M:=A) (f:=f1) (n:=x.length) (fun k S t hh=>(Bv PA hh).1) st1;have u2:=BS (M:=B) (f:=f2) (n:=x.length) (fun k S t hh=>(Bv PB hh).1) st2
 have l0:∀i,i<=x.length->f0 i<4:=fun i hi=>by
  match i with
  |0=>
   have hs0:s0∈ [0]:=hs0;simp at hs0;rw[b0,hs0]; decide
  |i+1=>
   obtain⟨S,hS⟩:=st0 i hi;exact HF hS
 have l1:∀i,i<=x.length->f1 i<=cs.length:=fun i hi=>by
  have:=u1 (x.length-i) i (by omega);rw[show i+(x.length-i)=x.length by omega,e1,PA.fin]at this;exact this
 have l2:∀i,i<=x.length->f2 i<=ds.length:=fun i hi=>by
  have:=u2 (x.length-i) i (by omega);rw[show i+(x.length-i)=x.length by omega,e2,PB.fin]at this;exact this
 have key:∀i j,i<j->j<=x.length->(f1 i+f2 i)*4+f0 i≠(f1 j+f2 j)*4+f0 j:=by
  intro i j hij hj q;have q1:=l0 i (by omega);have q2:=l0 j hj;have m1:=u1 (j-i) i (by omega);have m2:=u2 (j-i) i (by omega);rw[show i+(j-i)=j by omega]at m1 m2;have z0:f0 i=f0 j:=by omega
  have z1:f1 i=f1 j:=by omega
  have z2:f2 i=f2 j:=by omega
  have w:=hm (x.take i++x.drop j) ⟨⟨s0,hs0,pV.mpr ⟨f0 i,(g0 i (by omega)).1,by rw[z0]; exact(g0 j hj).2⟩⟩,⟨s1,hs1,pV.mpr ⟨f1 i,(g1 i (by omega)).1,by rw[z1]; exact(g1 j hj).2⟩⟩,
   ⟨s2,hs2,pV.mpr ⟨f2 i,(g2 i (by omega)).1,by rw[z2]; exact(g2 j hj).2⟩⟩⟩
  rw[bt,cP,cI]at w;omega
 have hb:=lC (4*(cs.length+ds.length+1)) ((dU (x.length+1)).map fun i=>(f1 i+f2 i)*4+f0 i) ?_ ?_
 ·rw[aE,iW]at hb;exact hb
 ·refine kQ.mpr (sA ?_ vt);intro i j hi hj hij;exact key i j hij (by have:=lU.mp hj; omega)
 ·intro z hz;obtain⟨i,hi,rfl⟩:=bP.mp hz;have hi:=lU.mp hi;have q0:=l0 i (by omega);have q1:=l1 i (by omega);have q2:=l2 i (by omega);show(f1 i+f2 i)*4+f0 i<_;omega
def oj(M:aZ)(p t:Nat):Prop:=∃S,(S,t)∈M.from p
structure mX(M:aZ):Prop where
 fin:M.fin<M.steps.length
 starts:∀p∈M.starts,p<M.steps.length
 to:∀p S t,(S,t)∈M.from p->t<M.steps.length/\S≠0/\S<2^256
theorem wJ{M:aZ}{p S t:Nat}(h:(S,t)∈M.from p):p<M.steps.length:=by
 by_cases hp:p<M.steps.length
 ·exact hp
 ·unfold aZ.from at h;rw[gT (by omega)]at h;cases h
def kb(S b:Nat):Prop:=S.testBit b=true/\∀c,S.testBit c=true->b<=c
theorem AA{S b:Nat}(h:kb S b)(hs:S<2^256):b<256:=by
 by_cases z:b<256
 ·exact z
 ·have h1:=h.1;rw[vD (cW hs (kd (by decide) (by omega)))]at h1;cases h1
theorem zH{S b:Nat}(hb:b<256):bF S (kl b)=S.testBit b:=by
 unfold bF;rw[vW];rw[vA hb]
theorem Ca{S:Nat}(h:S≠0):∃b,kb S b:=by
 obtain⟨i,hi⟩:=Mf h
 have:∀n,(∃i,i<=n/\S.testBit i=true)->∃b,kb S b:=by
  intro n
  induction n with
  |zero=>
   rintro⟨i,h0,h1⟩;have:i=0:=by omega
   subst this;exact⟨0,h1,fun c _=>bC _⟩
  |succ n ih=>
   rintro⟨i,h0,h1⟩;by_cases q:∃i,i<=n/\S.testBit i=true
   ·exact ih q
   ·refine⟨i,h1,fun c hc=>?_⟩;by_cases z:c<=n
    ·exact absurd ⟨c,z,hc⟩ q
    ·omega
 exact this i ⟨i,aF _,hi⟩
theorem NU{M:aZ}(ok:mX M){p t:Nat}(h:oj M p t):∃S c,(S,t)∈M.from p/\bF S c=true:=by
 obtain⟨S,hS⟩:=h;obtain⟨_,h1,h2⟩:=ok.to p S t hS;obtain⟨b,hb⟩:=Ca h1;exact⟨S,kl b,hS,by rw[zH (AA hb h2)]; exact hb.1⟩
structure iA(M:aZ)(L:List (Nat×Nat))(i:Nat):Prop where
 nd:(L.map (·.1)).Nodup
 lt:∀x∈L,x.1<M.steps.length
 hd:L[0]?=some (M.fin,0)
 path:∀p d,(p,d)∈L->∃x:ag,x.length=d/\Acc M x p
 mono:∀(a b:Nat)(x y:Nat×Nat),a<=b->L[a]?=some x->L[b]?=some y->x.2<=y.2
 near:∀x y,L[i]?=some x->y∈L->y.2<=x.2+1
 done:∀(j:Nat)(x:Nat×Nat)(p:Nat),j<i->L[j]?=some x->oj M p x.1->∃d,(p,d)∈L/\d<=x.2+1
structure lS(M:aZ)(L:List (Nat×Nat))(i:Nat)(x:Nat×Nat)(pre:List Nat):Prop where
 nd:(L.map (·.1)).Nodup
 lt:∀x∈L,x.1<M.steps.length
 hd:L[0]?=some (M.fin,0)
 path:∀p d,(p,d)∈L->∃x:ag,x.length=d/\Acc M x p
 mono:∀(a b:Nat)(x y:Nat×Nat),a<=b->L[a]?=some x->L[b]?=some y->x.2<=y.2
 at_:L[i]?=some x
 near:∀y,y∈L->y.2<=x.2+1
 done:∀(j:Nat)(x:Nat×Nat)(p:Nat),j<i->L[j]?=some x->oj M p x.1->∃d,(p,d)∈L/\d<=x.2+1
 pre:∀p,p∈pre->∃d,(p,d)∈L/\d<=x.2+1
theorem Pe{M:aZ}(ok:mX M):iA M [(M.fin,0)] 0 where
 nd:=by simp
 lt x hx:=by simp at hx; rw[hx]; exact ok.fin
 hd:=rfl
 path p d h:=by simp at h; exact⟨[],h.2.symm,h.1⟩
 mono a b x y hab ha hb:=by
  have h1:=(aK.mp ha).1;have h2:=(aK.mp hb).1;simp at h1 h2;subst h1; subst h2;rw[ha]at hb; cases hb; exact aF _
 near x y hx hy:=by simp at hy; rw[hy]; exact bC _
 done j x p hj:=by omega
theorem Pd{M:aZ}{L:List (Nat×Nat)}{i:Nat}{x:Nat×Nat}(h:iA M L i)(e:L[i]?=some x):lS M L i x []:=
 ⟨h.nd,h.lt,h.hd,h.path,h.mono,e,fun y hy=>h.near x y e hy,h.done,fun p hp=>by cases hp⟩
theorem Pc{M:aZ}{L:List (Nat×Nat)}{i:Nat}{x:Nat×Nat}{pre:List Nat}{p:Nat}(h:lS M L i x pre)(hp:p∈L.map (·.1)):lS M L i x (pre++[p]):=
 ⟨h.nd,h.lt,h.hd,h.path,h.mono,h.at_,h.near,h.done,fun q hq=>by
  rcases cj.mp hq with hq|hq
  ·exact h.pre q hq
  ·simp at hq;subst hq;obtain⟨⟨a,d⟩,ha,rfl⟩:=bP.mp hp;exact⟨d,ha,h.near _ ha⟩⟩
theorem Pa{M:aZ}{L:List (Nat×Nat)}{i:Nat}{x:Nat×Nat}{pre:List Nat}{p:Nat}(ok:mX M)(h:lS M L i x pre)(hp:p∉L.map (·.1))(he:oj M p x.1):lS M (L++[(p,x.2+1)]) i x (pre++[p]) where
 nd:=by
  rw[cv];refine yS.mpr ⟨h.nd,by simp,fun a ha b hb=>?_⟩;simp at hb;subst hb;intro e;rw[e]at ha;exact hp ha
 lt y hy:=by
  rcases cj.mp hy with hy|hy
  ·exact h.lt y hy
  ·simp at hy;subst hy;obtain⟨S,hS⟩:=he;exact wJ hS
 hd:=by
  have:=(aK.mp h.hd).1;rw[jv this];exact h.hd
 path q d hq:=by
  rcases cj.mp hq with hq|hq
  ·exact h.path q d hq
  ·simp at hq;obtain⟨rfl,rfl⟩:=hq;obtain⟨S,c,hS,hc⟩:=NU ok he;obtain⟨w,hw,ha⟩:=h.path x.1 x.2 (dq h.at_);exact⟨c::w,by rw[bG,hw],S,x.1,hS,hc,ha⟩
 mono a b y z hab ha hb:=by
  have hb':=(aK.mp hb).1;rw[bt,dJ]at hb';by_cases h2:b<L.length
  ·rw[jv h2]at hb;rw[jv (by omega)]at ha;exact h.mono a b y z hab ha hb
  ·have:b=L.length:=by omega
   subst this;rw[oA (aF _),qD]at hb;have hb:some (p,x.2+1)=some z:=hb;cases hb;show y.2<=x.2+1;by_cases h1:a<L.length
   ·rw[jv h1]at ha;exact h.near y (dq ha)
   ·have:a=L.length:=by omega
    subst this;rw[oA (aF _),qD]at ha;have ha:some (p,x.2+1)=some y:=ha;cases ha;exact aF _
 at_:=by
  have:=(aK.mp h.at_).1;rw[jv this];exact h.at_
 near y hy:=by
  rcases cj.mp hy with hy|hy
  ·exact h.near y hy
  ·simp at hy;subst hy;exact aF _
 done j y q hj hy hq:=by
  have:=(aK.mp h.at_).1;rw[jv (by omega)]at hy;obtain⟨d,h1,h2⟩:=h.done j y q hj hy hq;exact⟨d,dn _ h1,h2⟩
 pre q hq:=by
  rcases cj.mp hq with hq|hq
  ·obtain⟨d,h1,h2⟩:=h.pre q hq;exact⟨d,dn _ h1,h2⟩
  ·simp at hq;subst hq;exact⟨x.2+1,dC _ (by simp),aF _⟩
theorem Pb{M:aZ}{L:List (Nat×Nat)}{i:Nat}{x:Nat×Nat}{pre:List Nat}(h:lS M L i x pre)(hp:∀p,oj M p x.1->p∈pre):iA M L (i+1):=
 ⟨h.nd,h.lt,h.hd,h.path,h.mono,fun y z hy hz=>by
  have h1:=h.mono i (i+1) x y (by omega) h.at_ hy;have h2:=h.near z hz;omega,fun j y p hj hy he=>by
  by_cases q:j=i
  ·subst q;rw[h.at_]at hy;cases hy;exact h.pre p (hp p he)
  ·exact h.done j y p (by omega) hy he⟩
theorem iA.bound{M:aZ}{L:List (Nat×Nat)}{i:Nat}(h:iA M L i):L.length<=M.steps.length:=by
 rw[<-aE (f:=(·.1))];refine lC _ _ h.nd fun x hx=>?_;obtain⟨y,hy,rfl⟩:=bP.mp hx;exact h.lt y hy
theorem lS.bound{M:aZ}{L:List (Nat×Nat)}{i:Nat}{x:Nat×Nat}{pre:List Nat}(h:lS M L i x pre):L.length<=M.steps.length:=by
 rw[<-aE (f:=(·.1))];refine lC _ _ h.nd fun x hx=>?_;obtain⟨y,hy,rfl⟩:=bP.mp hx;exact h.lt y hy
theorem tT{M:aZ}{L:List (Nat×Nat)}(h:iA M L L.length):∀(x:ag)(p:Nat),Acc M x p->∃d,(p,d)∈L/\d<=x.length
 | [],p,ha=>by
  cases(show p=M.fin from ha);exact⟨0,dq h.hd,aF _⟩
 |c::x,p,ha=>by
  obtain⟨S,t,h1,h2,h3⟩:=ha;obtain⟨d,g1,g2⟩:=tT h x t h3;obtain⟨j,hj,ej⟩:=iV g1;have e:L[j]?=some (t,d):=by rw[bL hj,ej]
  obtain⟨d',k1,k2⟩:=h.done j _ p hj e ⟨S,h1⟩;refine⟨d',k1,?_⟩;have k2:d'<=d+1:=k2;rw[bG];omega
theorem Gq{M:aZ}{L:List (Nat×Nat)}{i:Nat}(h:iA M L i){p d e:Nat}(h1:(p,d)∈L)(h2:(p,e)∈L):d=e:=by
 obtain⟨a,ha,ea⟩:=iV h1;obtain⟨b,hb,eb⟩:=iV h2;have q1:(L.map (·.1))[a]?=some p:=by rw[cH,bL ha,ea]; rfl
 have q2:(L.map (·.1))[b]?=some p:=by rw[cH,bL hb,eb]; rfl
 have:=GU h.nd q1 q2;subst this;rw[ea]at eb;cases eb;rfl
structure qL(M:aZ)(L:List (Nat×Nat))(m i:Nat)(row:ag)(places:List Nat):Prop where
 len:row.length=i
 le:i<=m
 come:∀p,p∈places->∃s,s∈M.starts/\lZ M row s p
 live:∃p,p∈places/\(p,m-i)∈L
 all:∀y,fB M y->y.length=m->er row (y.take i)/\(y.take i=row->∃p,p∈places/\Acc M (y.drop i) p)
def sx(M:aZ)(L:List (Nat×Nat))(m:Nat):Prop:=(∃s,s∈M.starts/\(s,m)∈L)/\∀s d,s∈M.starts->(s,d)∈L->m<=d
theorem FA{M:aZ}{L:List (Nat×Nat)}{m:Nat}(h:iA M L L.length)(hm:sx M L m){y:ag}(hy:fB M y):m<=y.length:=by
 obtain⟨s,hs,ha⟩:=hy;obtain⟨d,h1,h2⟩:=tT h y s ha;exact dW (hm.2 s d hs h1) h2
theorem Us{M:aZ}{L:List (Nat×Nat)}{m:Nat}(hm:sx M L m):qL M L m 0 [] M.starts where
 len:=rfl
 le:=bC _
 come p hp:=⟨p,hp,rfl⟩
 live:=by rw[Nat.sub_zero]; exact hm.1
 all y hy _:=⟨kY,fun _=>hy⟩
def oQ(M:aZ)(L:List (Nat×Nat))(places:List Nat)(k:Nat)(ss:List (Nat×Nat)):Prop:=∀S t,(S,t)∈ss↔(∃p,p∈places/\(S,t)∈M.from p)/\(t,k)∈L
theorem Uq{M:aZ}{L:List (Nat×Nat)}{m i:Nat}{row:ag}{places:List Nat}{ss:List (Nat×Nat)}(h:iA M L L.length)(r:qL M L m i row places)(hi:i<m)(hs:oQ M L places (m-i-1) ss):ss≠[]:=by
 obtain⟨p,hp,hl⟩:=r.live;obtain⟨x,hx,ha⟩:=h.path p _ hl
 match x,hx,ha with
 | [],hx,_=>simp at hx; omega
 |c::x,hx,ha=>
  obtain⟨S,t,h1,h2,h3⟩:=ha;obtain⟨d,g1,g2⟩:=tT h x t h3;rw[bG]at hx
  have e:d=m-i-1:=by
   obtain⟨j,hj,ej⟩:=iV g1;obtain⟨d',k1,k2⟩:=h.done j _ p hj (by rw[bL hj,ej]) ⟨S,h1⟩;have:=Gq h k1 hl;have k2:d'<=d+1:=k2;omega
  intro z;have:=(hs S t).mpr ⟨⟨p,hp,h1⟩,by rw[<-e]; exact g1⟩;rw[z]at this;cases this
theorem Ut{M:aZ}{L:List (Nat×Nat)}{m i:Nat}{row:ag}{places places':List Nat}{ss:List (Nat×Nat)}{b:Nat}(ok:mX M)(h:iA M L L.length)(hm:sx M L m)(r:qL M L m i row places)(hi:i<m)(hs:oQ M L places (m-i-1) ss)
  (hb1:∃S t,(S,t)∈ss/\kb S b)(hb2:∀S t l,(S,t)∈ss->kb S l->b<=l)(hp:∀t,t∈places'↔∃S,(S,t)∈ss/\S.testBit b=true):b<256/\qL M L m (i+1) (row++[kl b]) places':=by
 obtain⟨S0,t0,hS0,hl0⟩:=hb1;obtain⟨⟨p0,hp0,hf0⟩,hk0⟩:=(hs S0 t0).mp hS0;have b256:b<256:=AA hl0 (ok.to _ _ _ hf0).2.2;refine⟨b256,⟨?_,?_,?_,?_,?_⟩⟩
 ·rw[bt,r.len]; rfl
 ·omega
 ·intro t ht;obtain⟨S,hS,hbit⟩:=(hp t).mp ht;obtain⟨⟨p,hpp,hf⟩,_⟩:=(hs S t).mp hS;obtain⟨s,hs1,hs2⟩:=r.come p hpp;exact⟨s,hs1,pV.mpr ⟨p,hs2,S,t,hf,by rw[zH b256]; exact hbit,rfl⟩⟩
 ·exact⟨t0,(hp t0).mpr ⟨S0,hS0,hl0.1⟩,by rw[show m-(i+1)=m-i-1 by omega]; exact hk0⟩
 ·intro y hy hlen;obtain⟨h1,h2⟩:=r.all y hy hlen;have hyi:i<y.length:=by omega
  have et:y.take (i+1)=y.take i++[y[i]]:=by rw[List.take_succ_eq_append_getElem hyi]
  have el:row.length=(y.take i).length:=by rw[r.len,cP]; omega
  by_cases q:y.take i=row
  ·obtain⟨p,hpp,ha⟩:=h2 q;rw[Do hyi]at ha;obtain⟨S,t,g1,g2,g3⟩:=ha;obtain⟨d,k1,k2⟩:=tT h _ t g3;rw[cI]at k2
   have ed:d=m-i-1:=by
    obtain⟨s,hs1,hs2⟩:=r.come p hpp;obtain⟨w,hw,haw⟩:=h.path t d k1;have:=FA h hm (y:=row++y[i]::w) ⟨s,hs1,pV.mpr ⟨p,hs2,S,t,g1,g2,haw⟩⟩;rw[bt,bG,hw,r.len]at this;omega
   subst ed;have hss:(S,t)∈ss:=(hs S t).mpr ⟨⟨p,hpp,g1⟩,k1⟩;obtain⟨_,hS0',_⟩:=ok.to _ _ _ g1;obtain⟨l,hl⟩:=Ca hS0';have hbl:=hb2 S t l hss hl;have hlc:=hl.2 _ g2
   have hc:kl b<=y[i]:=by
    rw[sY,vW,vA b256];omega
   rw[et,q];refine⟨Au row hc,fun e=>?_⟩
   have e2:y[i]=kl b:=by
    have:=Dl e;simpa using this
   refine⟨t,(hp t).mpr ⟨S,hss,?_⟩,g3⟩;rw[<-zH b256,<-e2];exact g2
  ·rw[et];refine⟨Av _ _ el h1 (fun e=>q e.symm),fun e=>absurd ?_ q⟩;exact(List.append_inj e el.symm).1
theorem Up{M:aZ}{L:List (Nat×Nat)}{m:Nat}{row:ag}{places:List Nat}(h:iA M L L.length)(hm:sx M L m)(r:qL M L m m row places):fB M row/\∀y,fB M y->jg row y:=by
 obtain⟨p,hp,hl⟩:=r.live;rw[qD]at hl;obtain⟨x,hx,ha⟩:=h.path p 0 hl;have:x=[]:=mV.mp hx;subst this;cases(show p=M.fin from ha);obtain⟨s,hs,hr⟩:=r.come _ hp;refine⟨⟨s,hs,hr⟩,fun y hy=>?_⟩;have h1:=FA h hm hy;by_cases q:y.length=m
 ·obtain⟨h2,_⟩:=r.all y hy q;rw[ka (by omega)]at h2;exact .inr ⟨by rw[r.len,q],h2⟩
 ·exact .inl (by rw[r.len]; omega)
theorem Ur{M:aZ}{L:List (Nat×Nat)}(h:iA M L L.length)(hn:∀s d,s∈M.starts->(s,d)∉L)(x:ag): ¬fB M x:=by
 rintro⟨s,hs,ha⟩;obtain⟨d,h1,_⟩:=tT h x s ha;exact hn s d hs h1
theorem JZ:∀(t:List bc),(slim t).head?=some .star↔t.head?=some .star
 | []=>fk
 |a::r=>by
  by_cases q:∃t,a=.star/\slim r=.star::t
  ·obtain⟨t,rfl,h⟩:=q;rw[xN h];simp
  ·rw[uH (fun t h1 h2=>q ⟨t,h1,h2⟩)];simp
def me(as r:List bc)(st:Bool):Prop:=∀t,(t.head?=some .star↔st=true)->slim (as++t)=r++slim t
theorem UK(st:Bool):me [] [] st:=fun _ _=>rfl
theorem UL{as r:List bc}{a:bc}{st:Bool}(ha:a≠.star)(h:me as r false):me (as++[a]) (r++[a]) st:=fun t _=>by
 rw[dk,dk];rw[h ([a]++t) (by simp[ha]),show [a]++t=a::t from rfl,uH (fun _ z=>absurd z ha)];rfl
theorem UM{as r:List bc}(h:me as r true):me (as++[.star]) (r++[.star]) false:=fun t ht=>by
 rw[dk,dk];rw[h ([bc.star]++t) (by simp),show [bc.star]++t=.star::t from rfl,uH (fun u _ z=>?_)]
 ·rfl
 ·have:(slim t).head?=some .star:=by rw[z]; rfl
  have:=ht.mp ((JZ t).mp this);cases this
theorem UJ{as r:List bc}(h:me as r true):me (as++[.star]) r true:=fun t ht=>by
 rw[dk];rw[h ([bc.star]++t) (by simp),show [bc.star]++t=.star::t from rfl];have:(slim t).head?=some .star:=(JZ t).mpr (ht.mpr rfl);cases e:slim t with
 |nil=>rw[e]at this; cases this
 |cons x u=>
  rw[e]at this;have:x=.star:=by simpa using this
  subst this;rw[xN e]
theorem UI{as r:List bc}(h:me as r false):slim as=r:=by
 have:=h [] (by simp);rw[cC]at this;rw[this];show r++[]=r;rw[cC]
def fc:Seg->Bool
 |.deep=>true
 |_=>false
def hY:List Seg->List Seg
 | []=> []
 |a::r=>if fc a=true/\(r.head?.map fc)=some true then hY r else a::hY r
theorem UG{r:List Seg}(h:r.head?.map fc=some true):hY (.deep::r)=hY r:=by
 show(if fc .deep=true/\_ then _ else _)=_;rw[if_pos ⟨rfl,h⟩]
theorem uG{a:Seg}{r:List Seg}(h: ¬(fc a=true/\r.head?.map fc=some true)):hY (a::r)=a::hY r:=by
 show(if _ then _ else _)=_;rw[if_neg h]
theorem JW:∀{l:List Seg},l≠[]->hY l≠[]
 | [],h=>absurd rfl h
 |a::r,_=>by
  by_cases q:fc a=true/\r.head?.map fc=some true
  ·show(if _ then _ else _)≠_;rw[if_pos q];refine JW (fun z=>?_);rw[z]at q;cases q.2
  ·rw[uG q];simp
theorem FZ{a:Seg}:fc a=true↔a=.deep:=by
 cases a<;>simp[fc]
theorem PF{r:List Seg}{p:bj}:cB (.deep:: .deep::r) p↔cB (.deep::r) p:=by
 rw[gY];cases r with
 |nil=>
  rw[rC];constructor
  ·rintro⟨u,v,rfl,h⟩;rw[rC]at h;intro z;exact h (Dm.mp z).2
  ·intro h;exact⟨[],p,rfl,rC.mpr h⟩
 |cons b r=>
  rw[gY];constructor
  ·rintro⟨u,v,rfl,h⟩;obtain⟨u',v',rfl,h'⟩:=gY.mp h;exact⟨u++u',v',by rw[dk],h'⟩
  ·rintro⟨u,v,rfl,h⟩;exact⟨u,v,rfl,gY.mpr ⟨[],v,rfl,h⟩⟩
theorem PD{a:Seg}{r r':List Seg}(hn:r=[]↔r'=[])(h:∀p,cB r p↔cB r' p)(p:bj):cB (a::r) p↔cB (a::r') p:=by
 cases a with
 |one as=>
  rw[ku,ku];constructor
  ·rintro⟨s,q,e,h1,h2⟩; exact⟨s,q,e,h1,(h q).mp h2⟩
  ·rintro⟨s,q,e,h1,h2⟩; exact⟨s,q,e,h1,(h q).mpr h2⟩
 |deep=>
  cases r with
  |nil=>rw[hn.mp rfl]
  |cons b r=>
   cases r' with
   |nil=>cases hn.mpr rfl
   |cons b' r'=>
    rw[gY,gY];constructor
    ·rintro⟨s,q,e,h1⟩; exact⟨s,q,e,(h q).mp h1⟩
    ·rintro⟨s,q,e,h1⟩; exact⟨s,q,e,(h q).mpr h1⟩
theorem BX:∀(l:List Seg)(p:bj),cB (hY l) p↔cB l p
 | [],_=>fk
 |a::r,p=>by
  have ih:=BX r;by_cases q:fc a=true/\r.head?.map fc=some true
  ·have e:hY (a::r)=hY r:=by show(if _ then _ else _)=_; rw[if_pos q]
   rw[e,ih];have ha:=FZ.mp q.1;subst ha;cases r with
   |nil=>cases q.2
   |cons b t=>
    have hb:fc b=true:=by simpa using q.2
    have hb:=FZ.mp hb;subst hb;exact PF.symm
  ·rw[uG q];refine PD ⟨fun h=>?_,fun h=>by rw[h]; rfl⟩ ih p;cases r with
   |nil=>rfl
   |cons b t=>exact absurd h (JW (by simp))
def mT(l r:List Seg)(st:Bool):Prop:=∀t,(t.head?.map fc=some true↔st=true)->hY (l++t)=r++hY t
theorem NJ(st:Bool):mT [] [] st:=fun _ _=>rfl
theorem NK{l r:List Seg}{as:List bc}{st:Bool}(h:mT l r false):mT (l++[.one as]) (r++[.one as]) st:=fun t _=>by
 rw[dk,dk];rw[h ([Seg.one as]++t) (by simp[fc]),show [Seg.one as]++t=.one as::t from rfl,uG (by simp[fc])];rfl
theorem NL{l r:List Seg}(h:mT l r true):mT (l++[.deep]) (r++[.deep]) false:=fun t ht=>by
 rw[dk,dk];rw[h ([Seg.deep]++t) (by simp[fc]),show [Seg.deep]++t=.deep::t from rfl,uG (fun z=>by have:=ht.mp z.2; cases this)];rfl
theorem NI{l r:List Seg}(h:mT l r true):mT (l++[.deep]) r true:=fun t ht=>by
 rw[dk];rw[h ([Seg.deep]++t) (by simp[fc]),show [Seg.deep]++t=.deep::t from rfl,UG (ht.mpr rfl)]
def ff(l:List Seg):List Seg:=hY (l.map fg)
def iR(l:List Seg)(cs:List MC):Prop:=iu cu aR bY (ff l) cs
theorem wy{l:List Seg}{cs:List MC}(h:iR l cs){p:bj}(hp:cg p):dE cs (aD p)↔cB l p:=by
 rw[wA mB h p hp];unfold ff;rw[BX,rV]
def wt:Seg->Nat
 |.deep=>0
 |.one as=>as.length
theorem zN:∀{as:List bc}{cs:List MC},jr aR as cs->cs.length=as.length
 |_,_,.nil=>rfl
 |_,_,.cons _ h=>by rw[bG,bG,zN h]
theorem zO:∀{l:List Seg}{cs:List MC},iu cu aR bY l cs->cs.length<=(l.map fun x=>wt x+1).sum
 |_,_,.lastDeep=>by simp[wt]
 |_,_,.lastOne h=>by simp[wt,zN h]
 |_,_,.deep h=>by
  have:=zO h;simp[wt]at this⊢;omega
 |_,_,.one h h2=>by
  have:=zO h2;have:=zN h;simp[wt]at*;omega
theorem JX:∀(l:List Seg),((hY l).map fun x=>wt x+1).sum<=(l.map fun x=>wt x+1).sum
 | []=>aF _
 |a::r=>by
  have ih:=JX r;by_cases q:fc a=true/\r.head?.map fc=some true
  ·have e:hY (a::r)=hY r:=by show(if _ then _ else _)=_; rw[if_pos q]
   rw[e,cV,iY];omega
  ·rw[uG q,cV,iY,cV,iY];omega
theorem JY:∀(l:List Seg),((l.map fg).map fun x=>wt x+1).sum<=(l.map fun x=>wt x+1).sum
 | []=>aF _
 |a::r=>by
  have ih:=JY r;rw[cV,cV,iY,cV,iY]
  have:wt (fg a)<=wt a:=by
   cases a with
   |deep=>exact aF _
   |one as=>exact BZ as
  omega
theorem Hz:∀{ps:List ag}{l:List Seg},dI ps=some l->(l.map fun x=>wt x+1).sum<=(ps.map dS).sum+ps.length
 | [],l,h=>by
  have h:some []=some l:=h;cases h;exact aF _
 |p::ps,l,h=>by
  rw[pW]at h;cases e1:hX p with
  |none=>rw[e1]at h; cases h
  |some x=>
   cases e2:dI ps with
   |none=>rw[e1,e2]at h; cases h
   |some r=>
    rw[e1,e2]at h;cases h;have ih:=Hz e2;rw[cV,iY,cV,iY,bG]
    have:wt x<=p.length:=by
     cases x with
     |deep=>exact bC _
     |one as=>exact JM e1
    omega
theorem Ni{s:ag}{r:cX}{cs:List MC}(h:dB s=some (some r))(hc:iR r.segs cs):cs.length<=s.length+4:=by
 by_cases hn:s=[]\/s.head?=some 35
 ·rw[Ax hn]at h;cases h
 ·rw[Ay hn]at h;obtain⟨r',hr',e⟩:=vH.mp h;cases e;unfold nL at hr';rw[zI]at hr';obtain⟨l,hl,rfl⟩:=vH.mp hr';have h1:=zO hc;have h2:=JX (l.map fg);have h3:=JY l;have h4:=Hz hl;unfold ff at h1;simp only at h1
  have h5:∀z:ag,((gM z).map dS).sum+(gM z).length<=z.length+4:=fun z=>by
   unfold gM;rw[split_len];split
   ·split
    ·rw[cI]; omega
    ·omega
   ·simp only[bG]; omega
  have h6:=h5 (if((if(s.head?==some 33)=true then s.drop 1 else s).getLast?==some 47)=true then(if(s.head?==some 33)=true then s.drop 1 else s).dropLast else(if(s.head?==some 33)=true then s.drop 1 else s))
  have h8:∀t:ag,(if(t.getLast?==some 47)=true then t.dropLast else t).length<=t.length:=fun t=>by
   split
   ·rw[LU]; omega
   ·exact aF _
  have h7:=h8 (if(s.head?==some 33)=true then s.drop 1 else s)
  have h9:(if(s.head?==some 33)=true then s.drop 1 else s).length<=s.length:=by
   split
   ·rw[cI]; omega
   ·exact aF _
  omega
theorem wL{x:ag}(h:(aG 47 x).all gx=true):cg (aG 47 x):=
 ⟨eV 47 x,fun s hs=>FM (ju.mp h s hs)⟩
theorem zA{r q:cX}{cs ds:List MC}{A B:aZ}(hc:iR r.segs cs)(hd:iR q.segs ds)(PA:jy cs A)(PB:jy ds B)(x:ag):sr A B x↔qy r q x:=by
 unfold sr qy;rw[RM,HD PA,HD PB];constructor
 ·rintro⟨h1,h2,h3⟩;have g:=wL h1;have e:=lL x;refine⟨(wy hc g).mp (by rw[e]; exact h2),(wy hd g).mp (by rw[e]; exact h3),h1⟩
 ·rintro⟨h2,h3,h1⟩;have g:=wL h1;have e:=lL x;have k2:=(wy hc g).mpr h2;have k3:=(wy hd g).mpr h3;rw[e]at k2 k3;exact⟨h1,k2,k3⟩
def vR(M:aZ)(o:Option ag):Prop:=match o with
 |some y=>fB M y/\∀x,fB M x->jg y x
 |none=>∀x,¬fB M x
theorem Ia{r q:cX}{cs ds:List MC}{A B M:aZ}{o:Option ag}(hc:iR r.segs cs)(hd:iR q.segs ds)(PA:jy cs A)(PB:jy ds B)(hM:∀x,fB M x↔sr A B x)(hl:cs.length+ds.length<=63)(h:vR M o):qo r q o:=by
 cases o with
 |none=>
  intro x hx;exact absurd ((hM x).mpr ((zA hc hd PA PB x).mpr hx)) (h x)
 |some y=>
  obtain⟨h1,h2⟩:=h;refine⟨⟨(zA hc hd PA PB y).mp ((hM y).mp h1),fun x hx=>h2 x ((hM x).mpr ((zA hc hd PA PB x).mpr hx))⟩,?_⟩;have:=UC PA PB ((hM y).mp h1) (fun z hz=>rA (h2 z ((hM z).mpr hz)));show y.length<=256;omega
end PM
namespace L2
open PySem PySem.Spec PyProof.Rows
abbrev aP:=Sum Int Str
def rn:aP->ae->Bool
 |.inl k,v=>ae.isInt k v
 |.inr x,v=>ae.isStrOf x v
def OF(w:aN):aP->Int
 |.inl k=>hashInt k
 |.inr x=>hashStr w x
theorem my:∀{k:aP}{v:ae},rn k v=true->(∃i t,k=bW i/\v=km i t)\/(∃x t,k=oR x/\v=ae.str x t)
 |.inl i,v,h=>by
  obtain⟨t,e⟩:=Ec (k:=i) (v:=v) h;exact .inl ⟨i,t,rfl,e⟩
 |.inr x,v,h=>by
  obtain⟨t,e⟩:=ae.isStrOf_shape (x:=x) (v:=v) h;exact .inr ⟨x,t,rfl,e⟩
theorem OG(i:Int)(t:Tok):rn (.inl i) (.int i t)=true:=by simp[rn,ae.isInt]
theorem OH(x:Str)(t:Tok):rn (.inr x) (.str x t)=true:=by simp[rn,ae.isStrOf]
theorem OI(a b:Int):decide ((bW a:aP)=bW b)=(a==b):=by
 by_cases e:a=b
 ·subst e; simp
 ·have h: ¬(bW a:aP)=bW b:=fun q=>e (bW.inj q);rw[dF h];exact(beq_eq_false_iff_ne.mpr e).symm
theorem OM(a b:Str):decide ((oR a:aP)=oR b)=decide (a=b):=by
 by_cases e:a=b
 ·subst e; simp
 ·have h: ¬(oR a:aP)=oR b:=fun q=>e (oR.inj q);rw[dF h,dF e]
theorem OJ(a:Int)(b:Str):decide ((bW a:aP)=oR b)=false:=dF (fun q=>nomatch q)
theorem OL(a:Str)(b:Int):decide ((oR a:aP)=bW b)=false:=dF (fun q=>nomatch q)
def gL(prog:aO)(w:aN):PySem.KeyKind prog w aP where
 is:=rn
 hash:=OF w
 inj:=fun v a b ha hb=>by
  rcases my ha with⟨i,t,rfl,rfl⟩|⟨x,t,rfl,rfl⟩
  ·rcases my hb with⟨j,u,rfl,e⟩|⟨y,u,rfl,e⟩
   ·injection e with e1 _; rw[e1]
   ·exact nomatch e
  ·rcases my hb with⟨j,u,rfl,e⟩|⟨y,u,rfl,e⟩
   ·exact nomatch e
   ·injection e with e1 _; rw[e1]
 byValue:=fun k v h=>by
  rcases my h with⟨i,t,rfl,rfl⟩|⟨x,t,rfl,rfl⟩<;>rfl
 pyHash:=fun hv h=>by
  rcases my hv with⟨i,t,rfl,rfl⟩|⟨x,t,rfl,rfl⟩
  ·exact wpAny_pyHash_int h
  ·exact wpAny_pyHash_str h
 eqBool:=fun hu hv h=>by
  rcases my hu with⟨i,t,rfl,rfl⟩|⟨x,t,rfl,rfl⟩
  ·rcases my hv with⟨j,u,rfl,rfl⟩|⟨y,u,rfl,rfl⟩
   ·rw[OI]at h; exact wpAny_eqBool_int h
   ·rw[OJ]at h; exact fR.int_str i t y u _ _ _ _ h
  ·rcases my hv with⟨j,u,rfl,rfl⟩|⟨y,u,rfl,rfl⟩
   ·rw[OL]at h; exact fR.str_int x t j u _ _ _ _ h
   ·rw[OM]at h; exact wpAny_eqBool_str h
 «strs» :=fun k x t v h=>by
  rcases my h with⟨i,u,rfl,e⟩|⟨y,u,rfl,e⟩
  ·exact nomatch e
  ·injection e with e1 _;subst e1;cases v<;>rfl
theorem PQ(prog:aO)(w:aN)(i:Int)(t:Tok):(gL prog w).is (.inl i) (.int i t)=true:=OG i t
theorem PR(prog:aO)(w:aN)(x:Str)(t:Tok):(gL prog w).is (.inr x) (.str x t)=true:=OH x t
inductive V where
 |non|bl (b:Bool)|int (i:Int)|str (x:Str)|byt (b:Array UInt8)|flt (b:UInt64)|ref (a:aa)|ty (n:String)
 deriving DecidableEq
def RelV:V->ae->Prop
 |.non,u=>u=iG
 |.bl b,u=>u=oV b
 |.int i,u=>∃t,u=km i t
 |.str x,u=>∃t,u=ae.str x t
 |.byt b,u=>∃t,u=ae.bytes b t
 |.flt b,u=>∃t,u=ae.float b t
 |.ref a,u=>u=cK a
 |.ty n,u=>u=nr n
abbrev aS:List V->List ae->Prop:=bH RelV
theorem aS.length{xs:List V}{us:List ae}(r:aS xs us):xs.length=us.length:=bH.length r
theorem aS.get:∀{xs:List V}{us:List ae}{i:Nat}{x:V},aS xs us->xs[i]?=some x->∃u,us[i]?=some u/\RelV x u
 |_,_,_,_,.nil,e=>by simp at e
 |_,_,0,_,.cons r _,e=>by simp at e; subst e; exact⟨_,rfl,r⟩
 |_,_,i+1,x,.cons _ t,e=>by
  obtain⟨u,h1,h2⟩:=aS.get (i:=i) (x:=x) t (by simpa using e);exact⟨u,by simpa using h1,h2⟩
theorem aS.set{x:V}{u:ae}(r:RelV x u):∀{xs:List V}{us:List ae}(i:Nat),aS xs us->aS (xs.set i x) (us.set i u)
 |_,_,_,.nil=>.nil
 |_,_,0,.cons _ t=>.cons r t
 |_,_,i+1,.cons q t=>.cons q (aS.set r i t)
theorem aS.append:∀{xs ys:List V}{us ws:List ae},aS xs us->aS ys ws->aS (xs++ys) (us++ws)
 |_,_,_,_,.nil,s=>s
 |_,_,_,_,.cons r t,s=>.cons r (aS.append t s)
theorem aS.take:∀{xs:List V}{us:List ae}(n:Nat),aS xs us->aS (xs.take n) (us.take n)
 |_,_,0,_=>.nil
 |_,_,_+1,.nil=>.nil
 |_,_,n+1,.cons r t=>.cons r (aS.take n t)
theorem aS.drop:∀{xs:List V}{us:List ae}(n:Nat),aS xs us->aS (xs.drop n) (us.drop n)
 |_,_,0,r=>r
 |_,_,_+1,.nil=>.nil
 |_,_,n+1,.cons _ t=>aS.drop n t
def fQ:Option V->Option ae->Prop
 |some v,some u=>RelV v u
 |none,none=>True
 |_,_=>False
def KV{κ:Type}:List (κ×V)->List (κ×ae)->Prop:=bH fun(p:κ×V)(q:κ×ae)=>p.1=q.1/\RelV p.2 q.2
def kV:aP->V
 |.inl i=>.int i
 |.inr x=>.str x
inductive HO where
 |lst (xs:List V)
 |tup (xs:List V)
 |dK (kvs:List (aP×V))|dT (kvs:List (List aP×V))
 |set (S:Int->Bool) (n:Nat)
 |ins (C dx:aa) (fs:List (Str×V))
 |own (x:aa)
 |xd (fs:List (Str×V))
 |met (f x:aa)
 |rng (lo hi:Int)
 |frz (o:Obj) (u:HO)
 |tbl (ps:Array ae)
 |ext (φ:aC->Prop)
abbrev Hp:=aa->Option HO
def ah(H:Hp)(a:aa)(o:HO):Hp:=fun b=>if b=a then some o else H b
theorem ax{H:Hp}{a:aa}{o:HO}:ah H a o a=some o:=by unfold ah; rw[if_pos rfl]
theorem aM{H:Hp}{a b:aa}{o:HO}(h:b≠a):ah H a o b=H b:=by unfold ah; rw[if_neg h]
theorem upd_upd{H:Hp}{a:aa}{o u:HO}:ah (ah H a o) a u=ah H a u:=by
 funext b; unfold ah; split<;>rfl
theorem mD{H:Hp}{a b:aa}{o u:HO}(h:H a=some o)(h':H b=some u)(d:o≠u):a≠b:=by
 intro e; subst e; rw[h]at h'; exact d (eE h')
theorem dh{H:Hp}{a b:aa}{o:HO}(h:H a=some o)(h':H b=none):a≠b:=by
 intro e; subst e; rw[h]at h'; cases h'
section
variable(P:aO)(w:aN)
def dM(H:Hp)(h:aC)(a:aa):HO->Prop
 |.lst xs=>xs.length<=aY/\∃(its:List ae)(n:Nat),aS xs its/\h.get? a=some {cls:=.type "list",data:=.seq its.toArray n}
 |.tup xs=>xs.length<=aY/\∃its:List ae,aS xs its/\IsTup h a its.toArray
 |.dK kvs=>kvs.length<=aY/\(a==lK)=false/\∃vs,KV kvs vs/\h.DictOf (gL P w) a vs
 |.dT kvs=>kvs.length<=aY/\(a==lK)=false/\∃xs:List (List aP×aa×ae),
   bH (fun(p:List aP×V)(q:List aP×aa×ae)=>p.1=q.1/\H q.2.1=some (.tup (p.1.map kV))/\RelV p.2 q.2.2) kvs xs/\
   ∃o es ep,h.get? a=some o/\o.ExactDict/\o.data=.dict es ep/\es.toList=xs.map (entryOfKey (uR (gL P w)))/\(xs.map (·.1)).Nodup
 |.set S n=>h.SetOf (intKind P w) a S n
 |.ins C dx fs=>H dx=some (.own a)/\fs.length<=1000/\dx≠a/\h.get? a=some (oO C dx)/\
   ∃mA,h.Ns1 dx mA/\(∀f,fQ (fs.lookup f) (mA f))/\zq mA (fs.map (·.1))
 |.own _=>∃o,h.get? a=some o
 |.xd fs=>∃mA,h.Ns1 a mA/\∀f,fQ (fs.lookup f) (mA f)
 |.rng lo hi=>∃t u v,h.get? a=some {cls:=.type "range",data:=.fields #[.int lo t,.int hi u,.int 1 v]}
 |.frz o u=>h.get? a=some o/\dM H h a u
 |.tbl ps=>h.get? a=some {cls:=.none,data:=.fields ps}
 |.met f x=>h.get? a=some (DQ (.ref f) (.ref x))
 |.ext φ=>φ h/\(∃o,h.get? a=some o)/\∀h1 h2:aC,φ h1->(∀o,h1.get? a=some o->h2.get? a=some o)->φ h2
def cx(H:Hp)(h:aC):Prop:=∀a o,H a=some o->dM P w H h a o
end
section
variable{P:aO}{w:aN}{H H':Hp}{h h':aC}{a:aa}{o:HO}
theorem dM.lt(x:dM P w H h a o):a<h.objs.size:=by
 cases o with
 |lst xs=>obtain⟨_,_,_,_,e⟩:=x; exact bO e
 |tup xs=>obtain⟨_,_,_,p⟩:=x; exact p.lt
 |dK kvs=>obtain⟨_,_,_,_,o,_,_,e,_⟩:=x; exact bO e
 |dT kvs=>obtain⟨_,_,_,_,o,_,_,e,_⟩:=x; exact bO e
 |set S n=>obtain⟨o,_,_,_,e,_⟩:=x; exact bO e
 |ins C dx fs=>obtain⟨_,_,_,e,_⟩:=x; exact bO e
 |own y=>obtain⟨_,e⟩:=x; exact bO e
 |xd fs=>obtain⟨_,⟨_,_,_,e,_⟩,_⟩:=x; exact bO e
 |rng lo hi=>obtain⟨_,_,_,e⟩:=x; exact bO e
 |frz ob u=>obtain⟨e,_⟩:=x; exact bO e
 |tbl ps=>exact bO (show h.get? a=some _ from x)
 |met f y=>exact bO (show h.get? a=some _ from x)
 |ext φ=>obtain⟨_,⟨_,e⟩,_⟩:=x; exact bO e
theorem bH.mapP{α β:Type}{F G:α->β->Prop}:∀{l₁:List α}{l₂:List β},bH F l₁ l₂->(∀a b,F a b->G a b)->bH G l₁ l₂
 |_,_,.nil,_=>.nil
 |_,_,.cons r t,f=>.cons (f _ _ r) (bH.mapP t f)
theorem dM.stay(x:dM P w H h a o)(k:∀b u,(b=a\/H b=some (.own a))->h.get? b=some u->h'.get? b=some u)
  (ho:∀b,H b=some (.own a)->H' b=some (.own a))(ht:∀b xs,H b=some (.tup xs)->H' b=some (.tup xs)):dM P w H' h' a o:=by
 induction o with
 |lst xs=>obtain⟨z,its,n,r,e⟩:=x; exact⟨z,its,n,r,k _ _ (.inl rfl) e⟩
 |tup xs=>obtain⟨z,its,r,ob,e,c⟩:=x; exact⟨z,its,r,ob,k _ _ (.inl rfl) e,c⟩
 |dK kvs=>obtain⟨z,y,vs,r,ob,es,ep,e,c⟩:=x; exact⟨z,y,vs,r,ob,es,ep,k _ _ (.inl rfl) e,c⟩
 |dT kvs=>
  obtain⟨z,y,xs,r,ob,es,ep,e,c⟩:=x;exact⟨z,y,xs,bH.mapP r fun p q z=>⟨z.1,ht _ _ z.2.1,z.2.2⟩,ob,es,ep,k _ _ (.inl rfl) e,c⟩
 |set S n=>obtain⟨ob,es,ep,t,e,c⟩:=x; exact⟨ob,es,ep,t,k _ _ (.inl rfl) e,c⟩
 |ins C dx fs=>
  obtain⟨d,z,ne,e,mA,⟨od,es,ep,e2,c⟩,r⟩:=x;exact⟨ho _ d,z,ne,k _ _ (.inl rfl) e,mA,⟨od,es,ep,k _ _ (.inr d) e2,c⟩,r⟩
 |own y=>obtain⟨ob,e⟩:=x; exact⟨ob,k _ _ (.inl rfl) e⟩
 |xd fs=>obtain⟨mA,⟨od,es,ep,e,c⟩,r⟩:=x; exact⟨mA,⟨od,es,ep,k _ _ (.inl rfl) e,c⟩,r⟩
 |rng lo hi=>obtain⟨t,u,v,e⟩:=x; exact⟨t,u,v,k _ _ (.inl rfl) e⟩
 |frz ob u ih=>obtain⟨e,q⟩:=x; exact⟨k _ _ (.inl rfl) e,ih q⟩
 |tbl ps=>
  have e:h.get? a=some {cls:=.none,data:=.fields ps}:=x;show h'.get? a=some {cls:=.none,data:=.fields ps};exact k a _ (.inl rfl) e
 |met f y=>
  have e:h.get? a=some (DQ (.ref f) (.ref y)):=x;show h'.get? a=some (DQ (.ref f) (.ref y));exact k a _ (.inl rfl) e
 |ext φ=>obtain⟨p,⟨o,e⟩,st⟩:=x; exact⟨st _ _ p fun o q=>k _ _ (.inl rfl) q,⟨o,k _ _ (.inl rfl) e⟩,st⟩
theorem cx.lt(x:cx P w H h)(e:H a=some o):a<h.objs.size:=(x a o e).lt
theorem cx.fresh(x:cx P w H h)(e:h.objs.size<=a):H a=none:=by
 cases q:H a with
 |none=>rfl
 |some u=>exact absurd (cW (x.lt q) e) (ic _)
theorem cx.kept(x:cx P w H h)(k:∀b u,h.get? b=some u->h'.get? b=some u):cx P w H h':=fun a o e=>
 (x a o e).stay (fun b u _ q=>k b u q) (fun _ q=>q) fun _ _ q=>q
theorem cx.laid(x:cx P w H h)(k:∀b u,h.get? b=some u->h'.get? b=some u)(hp:h.objs.size<=a)(new:dM P w (ah H a o) h' a o):cx P w (ah H a o) h':=fun b u e=>by
 have hn:=x.fresh hp;by_cases hb:b=a
 ·subst hb; rw[ax]at e; cases e; exact new
 ·rw[aM hb]at e;exact(x b u e).stay (fun c v _ q=>k c v q) (fun c q=>by rw[aM (dh q hn)]; exact q) fun c xs q=>by rw[aM (dh q hn)]; exact q
end
def Rd(H:Hp)(a:aa)(u:HO):Prop:=H a=some u\/∃o,H a=some (.frz o u)
theorem Rd.ok{P:aO}{w:aN}{H:Hp}{h:aC}{a:aa}{u:HO}(r:Rd H a u)(x:cx P w H h):dM P w H h a u:=by
 rcases r with r|⟨o,r⟩
 ·exact x a u r
 ·obtain⟨_,q⟩:=x a _ r;exact q
def sJ:Option HO->Prop
 |some (.lst _)=>True
 |some (.dK _)=>True
 |some (.dT _)=>True
 |some (.set _ _)=>True
 |some (.ins _ _ _)=>True
 |some (.ext _)=>True
 |_=>False
section
variable{P:aO}{w:aN}{H:Hp}{h h':aC}{x e:aa}{o':HO}
theorem cx.write(ok:cx P w H h)(mu:sJ (H x))(he:e=x\/H e=some (.own x))(k:∀b u,b≠e->h.get? b=some u->h'.get? b=some u)(heo:∃u,h'.get? e=some u)
  (new:dM P w (ah H x o') h' x o'):cx P w (ah H x o') h':=fun b u q=>by
 have nown:∀c y,H c=some (.own y)->c≠x:=fun c y r z=>by subst z; rw[r]at mu; exact mu
 have ntup:∀c xs,H c=some (.tup xs)->c≠x:=fun c xs r z=>by subst z; rw[r]at mu; exact mu
 by_cases hb:b=x
 ·subst hb; rw[ax]at q; cases q; exact new
 ·rw[aM hb]at q;by_cases hbe:b=e
  ·have q':H b=some (.own x):=by
    rcases he with z|z
    ·exact absurd (hbe.trans z) hb
    ·rw[hbe]; exact z
   rw[q]at q'; cases q';obtain⟨v,hv⟩:=heo;exact⟨v,by rw[hbe]; exact hv⟩
  ·refine(ok b u q).stay (fun c v hc r=>k c v ?_ r) (fun c r=>by rw[aM (nown c b r)]; exact r) fun c xs r=>by rw[aM (ntup c xs r)]; exact r
   rcases hc with rfl|hc
   ·exact hbe
   ·rintro rfl;rcases he with z|z
    ·exact nown c b hc z
    ·rw[hc]at z; cases z; exact hb rfl
end
structure Un(fs ex:List aa)(H H':Hp)(h h':aC):Prop where
 keep:∀b o,h.get? b=some o->H b=none->b∉fs->b∉ex->h'.get? b=some o
 slot:∀b o,h.get? b=some o->H b=none->b∈fs->b∉ex->∃sl,h'.get? b=some {o with slots:=sl}
 free:∀b o,h.get? b=some o->H b=none->b∉ex->H' b=none
 there:∀b o,h.get? b=some o->b∉ex->∃o',h'.get? b=some o'
 tups:∀b xs,H b=some (.tup xs)->H' b=some (.tup xs)
 frzs:∀b o u,H b=some (.frz o u)->H' b=some (.frz o u)
 tbls:∀b ps,H b=some (.tbl ps)->∃more,H' b=some (.tbl (ps++more))
section
variable{fs fs' ex ex':List aa}{H H1 H2:Hp}{h h1 h2 h':aC}{a x e:aa}{o:HO}
theorem Un.any(u:Un fs ex H H1 h h1){b:aa}{ob:Obj}(q:h.get? b=some ob)(n:H b=none)(hx:b∉ex):∃sl,h1.get? b=some {ob with slots:=sl}:=by
 by_cases hb:b∈fs
 ·exact u.slot b ob q n hb hx
 ·exact⟨ob.slots,u.keep b ob q n hb hx⟩
theorem Un.kept(k:∀b u,h.get? b=some u->h'.get? b=some u):Un fs ex H H h h':=
 ⟨fun b ob q _ _ _=>k b ob q,fun b ob q _ _ _=>⟨ob.slots,k b ob q⟩,fun _ _ _ n _=>n,fun b ob q _=>⟨ob,k b ob q⟩,fun _ _ q=>q,fun _ _ _ q=>q,fun _ ps q=>⟨#[],by rw[q]; simp⟩⟩
theorem Un.refl:Un fs ex H H h h:=Un.kept fun _ _ q=>q
theorem Un.laid(k:∀b u,h.get? b=some u->h'.get? b=some u)(hp:h.objs.size<=a)(hn:H a=none):Un fs ex H (ah H a o) h h' where
 keep:=fun b u q _ _ _=>k b u q
 slot:=fun b u q _ _ _=>⟨u.slots,k b u q⟩
 free:=fun b u q n _=>by rw[aM (cJ (cW (bO q) hp))]; exact n
 there:=fun b u q _=>⟨u,k b u q⟩
 tups:=fun b xs q=>by rw[aM (dh q hn)]; exact q
 frzs:=fun b u xs q=>by rw[aM (dh q hn)]; exact q
 tbls:=fun b ps q=>⟨#[],by rw[aM (dh q hn),q]; simp⟩
theorem Un.write(mu:sJ (H x))(he:e=x\/H e=some (.own x))(k:∀b u,b≠e->h.get? b=some u->h'.get? b=some u)(heo:∃u,h'.get? e=some u):Un fs ex H (ah H x o) h h':=by
 have hx:∀b,H b=none->b≠x:=fun b n z=>by subst z; rw[n]at mu; exact mu
 have hb:∀b,H b=none->b≠e:=fun b n z=>by
  subst z;rcases he with r|r
  ·exact hx b n r
  ·rw[n]at r; cases r
 have hm:∀b u,H b=some u-> ¬sJ (some u)->b≠x:=fun b u q nm z=>by subst z; rw[q]at mu; exact nm mu
 refine⟨fun b u q n _ _=>k b u (hb b n) q,fun b u q n _ _=>⟨u.slots,k b u (hb b n) q⟩,fun b u q n _=>by rw[aM (hx b n)]; exact n,fun b u q _=>?_,
  fun b xs q=>by rw[aM (hm b _ q fun z=>z)]; exact q,fun b u xs q=>by rw[aM (hm b _ q fun z=>z)]; exact q,fun b ps q=>⟨#[],by rw[aM (hm b _ q fun z=>z),q]; simp⟩⟩
 by_cases hbe:b=e
 ·subst hbe; exact heo
 ·exact⟨u,k b u hbe q⟩
end
def xZ(h:aC)(H:Hp):List aa:=(dU h.objs.size).filter fun a=>(H a).isSome
def mn(h:aC)(H:Hp):aC:=PySem.W.hideAll h (xZ h H)
theorem Ou(h:aC)(H:Hp):(mn h H).objs.size=h.objs.size:=PySem.W.hideAll_size _ _
theorem Ak{h:aC}{H:Hp}{b:aa}{o:Obj}(e:h.get? b=some o)(n:H b=none):(mn h H).get? b=some o:=
 PySem.W.hideAll_get _ e fun hm=>by
  have q:(H b).isSome=true:=(qx.mp hm).2;rw[n]at q; simp at q
theorem Qs{h:aC}{H:Hp}{b:aa}{o:Obj}(e:(mn h H).get? b=some o):h.get? b=some o/\H b=none:=by
 have e':h.get? b=some o:=PySem.W.of_hideAll (xZ h H) e;refine⟨e',?_⟩;cases q:H b with
 |none=>rfl
 |some x=>
  have hm:b∈xZ h H:=qx.mpr ⟨lU.mpr (bO e'),by simp[q]⟩;have z:(mn h H).get? b=none:=PySem.W.hideAll_none (xZ h H) hm;rw[z]at e; cases e
def wc(g h:aC)(L:aa):List (aa×Obj):=(dU h.objs.size).filterMap fun a=>if a=L\/(g.get? a).isSome=true then none else(h.get? a).map fun o=>(a,o)
theorem GL{g h:aC}{L a:aa}{o:Obj}(h1:a≠L)(h2:g.get? a=none)(h3:h.get? a=some o):(a,o)∈wc g h L:=
 kP.mpr ⟨a,lU.mpr (bO h3),by simp[h1,h2,h3]⟩
theorem GY{g h:aC}{L:aa}{p:aa×Obj}(hp:p∈wc g h L):p.1≠L/\g.get? p.1=none/\h.get? p.1=some p.2:=by
 obtain⟨b,_,e⟩:=kP.mp hp;split at e
 ·cases e
 ·rename_i hn
  cases q:h.get? b with
  |none=>rw[q]at e; simp at e
  |some u=>
   rw[q]at e;simp only[kT,Mj.injEq]at e;subst e;refine⟨fun z=>hn (.inl z),?_,q⟩;show g.get? b=none;cases r:g.get? b with
   |none=>rfl
   |some v=>exact(hn (.inr (by simp[r]))).elim
theorem PZ{g h:aC}{L:aa}:News g L h (wc g h L):=fun p hp=>let⟨a,b,c⟩:=GY hp; ⟨c,a,b⟩
structure Mod(K:aw)(mg:Str->Option ae)(base:aC):Prop where
 kin:K.In base
 glob:base.Ns iL mg
 blt:∃mb,base.Ns qY mb/\∀x:Str,x≠"__name__"->mb x=qX x
 nolimit:base.NoLimit
structure Cx where
 prog:aO
 w:aN
 K:aw
 mg:Str->Option ae
 base:aC
 A:bJ
 N:List Str
 s_0:aj
 H_0:Hp
 env:Env
 outer:List Env
 stack:List Env
 ex:List aa
 fn:Str->Bool
 calm:Bool
 pn:List (aa×Obj)
 xe:ae->aj->Prop
def ck(l:List Env):List aa:=l.filterMap (·.frame)
abbrev Cx.fs(X:Cx):List aa:=ck X.outer
def qP(sc:cR)(x:Str):Prop:=sc.names.lookup x=some .local\/sc.names.lookup x=some .cell\/sc.names.lookup x=some .free
def Loc(sc:cR)(x:Str):Prop:=sc.names.lookup x=some .local\/sc.names.lookup x=some .cell
def Mc(env:Env)(h:aC)(m:Str->Option ae)(x:Str)(u:ae):Prop:=
 (env.kindOf x=some .local/\m x=some u)\/((env.kindOf x=some .cell\/env.kindOf x=some .free)/\∃c,env.cells.lookup x=some c/\h.IsCell c (some u))
structure Cx.Ok(X:Cx):Prop where
 mod:Mod X.K X.mg X.base
 kind:X.env.scope.kind=.function
 glob:X.env.globals=iL
 blt:X.env.builtins=qY
 above:X.s_0.heap.objs.size<=X.env.locals
 inj:∀x y c,X.env.cells.lookup x=some c->X.env.cells.lookup y=some c->x=y
 has:∀x,(X.env.kindOf x=some .cell\/X.env.kindOf x=some .free)->∃c,X.env.cells.lookup x=some c
 cab:∀x c,X.fn x=true->X.env.cells.lookup x=some c->X.s_0.heap.objs.size<=c
 hd:X.calm=true->X.A.handled=none
 frames:X.A.frames=some X.stack
 stk:X.stack=X.outer\/(X.stack=X.env::X.outer/\X.env.frame=some X.env.locals)
 exf:∀b∈X.ex,b≠X.env.locals/\∀x c,X.env.cells.lookup x=some c->c≠b
 bs:∀b o,X.base.get? b=some o->X.s_0.heap.get? b=some o/\X.H_0 b=none
 bsz:X.base.objs.size<=X.s_0.heap.objs.size
 noex:∀b o,X.base.get? b=some o->b∉X.ex
 exfs:∀b∈X.ex,b∉X.fs
 funs:X.s_0.heap.FunFrames X.base X.outer
 frf:∀b∈X.fs,X.H_0 b=none
structure Inv(X:Cx)(pins:List (aa×Obj))(σ:List (Option V))(H:Hp)(s:aj):Prop where
 ok:X.Ok
 os:s.os=X.s_0.os
 bare:mQ s.gens
 base:Un X.fs X.ex X.H_0 H X.s_0.heap s.heap
 loc:∃m,s.heap.Ns X.env.locals m/\∀(i:Nat)(x:Str)(v:V),X.N[i]?=some x->σ[i]?=some (some v)->qP X.env.scope x->∃u,RelV v u/\Mc X.env s.heap m x u
 cell:∀x c,X.env.cells.lookup x=some c->∃v,s.heap.IsCell c v
 free:H X.env.locals=none
 freeC:∀x c,X.env.cells.lookup x=some c->H c=none
 pin:∀p∈X.pn++pins,s.heap.get? p.1=some p.2/\H p.1=none/\p.1≠X.env.locals/\p.1∉X.fs/\∀v,p.2.data≠.cell v
 hok:cx X.prog X.w H s.heap
 len:σ.length=X.N.length
section
variable{X:Cx}{pins:List (aa×Obj)}{σ:List (Option V)}{H H':Hp}{s:aj}{h':aC}
theorem Cx.Ok.nofr(ok:X.Ok){b:aa}{o:Obj}(e:X.base.get? b=some o):b∉X.fs:=fun hb=>by
 have:=(ok.funs.mem hb).1;rw[e]at this; cases this
theorem Inv.bs(I:Inv X pins σ H s):∀b o,X.base.get? b=some o->s.heap.get? b=some o/\H b=none:=fun b o e=>
 ⟨I.base.keep b o (I.ok.bs b o e).1 (I.ok.bs b o e).2 (I.ok.nofr e) (I.ok.noex b o e),I.base.free b o (I.ok.bs b o e).1 (I.ok.bs b o e).2 (I.ok.noex b o e)⟩
theorem Inv.bk(I:Inv X pins σ H s):∀b o,X.base.get? b=some o->s.heap.get? b=some o:=fun b o e=>(I.bs b o e).1
theorem Inv.mod(I:Inv X pins σ H s):Mod X.K X.mg X.base:=I.ok.mod
theorem Inv.kIn(I:Inv X pins σ H s):X.K.In s.heap:=I.ok.mod.kin.keeps I.bk
theorem Inv.fr(I:Inv X pins σ H s):∃m,Fr X.base X.env.locals s.heap m:=
 let⟨m,hn,_⟩:=I.loc
 ⟨m,hn,I.bk,dW I.ok.bsz I.ok.above⟩
theorem Inv.lt(I:Inv X pins σ H s):X.env.locals<s.heap.objs.size:=let⟨_,hn,_⟩:=I.loc; hn.lt
theorem Inv.sz(I:Inv X pins σ H s):X.s_0.heap.objs.size<=s.heap.objs.size:=dW I.ok.above (jx I.lt)
theorem Inv.nofs(I:Inv X pins σ H s){a:aa}(h:s.heap.objs.size<=a):a∉X.fs:=fun hb=>by
 obtain⟨_,o,ho,_⟩:=I.ok.funs.mem hb;exact absurd (cW (bO ho) (dW I.sz h)) (ic _)
theorem Inv.cne(I:Inv X pins σ H s):∀x c,X.env.cells.lookup x=some c->c≠X.env.locals:=fun x c e z=>by
 obtain⟨v,o,ho,hd⟩:=I.cell x c e;obtain⟨m,⟨o',es,ep,ho',hd',_⟩,_⟩:=I.loc;rw[z,ho']at ho; cases ho; rw[hd']at hd; cases hd
theorem Inv.funs(I:Inv X pins σ H s):s.heap.FunFrames X.base X.outer:=by
 have all:∀(l:List Env),(∀b∈ck l,b∈X.fs)->X.s_0.heap.FunFrames X.base l->s.heap.FunFrames X.base l:=by
  intro l
  induction l with
  |nil=>intro _ _; trivial
  |cons env r ih=>
   intro hs hl;obtain⟨hk,⟨L,o,hf,hn,ho,hd⟩,hr⟩:=hl;have hL:L∈X.fs:=hs L (by unfold ck; rw[sE,hf]; exact dD);obtain⟨sl,e⟩:=I.base.slot L o ho (I.ok.frf L hL) hL fun z=>I.ok.exfs L z hL;exact⟨hk,⟨L,_,hf,hn,e,hd⟩,ih (fun b hb=>hs b (by unfold ck; rw[sE,hf]; exact bU _ hb)) hr⟩
 exact all X.outer (fun _ hb=>hb) I.ok.funs
theorem Inv.stack(I:Inv X pins σ H s):s.heap.FunFrames X.base X.stack:=by
 rcases I.ok.stk with e|⟨e,hf⟩
 ·rw[e]; exact I.funs
 ·rw[e];obtain⟨m,hn,_⟩:=I.loc;refine .cons (by rw[I.ok.kind]; decide) hf hn ?_ I.funs;exact LM (dW I.ok.bsz I.ok.above)
theorem Inv.stkSub(I:Inv X pins σ H s):∀b∈ck X.stack,b∈X.env.locals::X.fs:=fun b hb=>by
 rcases I.ok.stk with e|⟨e,hf⟩
 ·rw[e]at hb; exact bU _ hb
 ·rw[e]at hb;unfold ck at hb;rw[sE,hf]at hb;exact hb
theorem Inv.stkFree(I:Inv X pins σ H s):∀b∈ck X.stack,H b=none:=fun b hb=>by
 rcases bg.mp (I.stkSub b hb)with e|hb
 ·rw[e]; exact I.free
 ·obtain⟨_,o,ho,_⟩:=I.ok.funs.mem hb;exact I.base.free b o ho (I.ok.frf b hb) fun z=>I.ok.exfs b z hb
theorem Inv.step{g':Array GenState}{t':Nat}{d':Drawn}{ch:List aa}(I:Inv X pins σ H s)
  (hch:∀b∈ch,(b∈X.ex\/X.s_0.heap.objs.size<=b)/\b≠X.env.locals/\(∀x c,X.env.cells.lookup x=some c->c≠b)/\∀p∈X.pn++pins,p.1≠b)
  (keep:∀b o,b≠X.env.locals->b∉X.fs->b∉ch->s.heap.get? b=some o->H b=none->h'.get? b=some o)
  (slot:∀b o,b≠X.env.locals->b∈X.fs->b∉ch->s.heap.get? b=some o->H b=none->∃sl,h'.get? b=some {o with slots:=sl})(free:∀b o,b∉ch->s.heap.get? b=some o->H b=none->H' b=none)
  (there:∀b o,b∉ch->s.heap.get? b=some o->∃o',h'.get? b=some o')
  (tups:∀b xs,H b=some (.tup xs)->H' b=some (.tup xs))(frzs:∀b o u,H b=some (.frz o u)->H' b=some (.frz o u))(tbls:∀b ps,H b=some (.tbl ps)->∃more,H' b=some (.tbl (ps++more)))
  (ns:∀m,s.heap.Ns X.env.locals m->h'.Ns X.env.locals m)(hok:cx X.prog X.w H' h')(hg:mQ g'):
  Inv X pins σ H' {s with heap:=h',gens:=g',drawn:=d',toks:=t'}:=by
 have neL:∀b o,X.s_0.heap.get? b=some o->b≠X.env.locals:=fun b o e=>cJ (cW (bO e) I.ok.above)
 have neC:∀b o,X.s_0.heap.get? b=some o->b∉X.ex->b∉ch:=fun b o e hx hb=>by
  rcases(hch b hb).1 with z|z
  ·exact hx z
  ·exact absurd (cW (bO e) z) (ic _)
 have cellK:∀x c,X.env.cells.lookup x=some c->∀v,s.heap.IsCell c v->h'.IsCell c v:=fun x c e v⟨o,ho,hd⟩=>by
  have nch:c∉ch:=fun z=>(hch c z).2.2.1 x c e rfl;by_cases hc:c∈X.fs
  ·obtain⟨sl,q⟩:=slot c o (I.cne x c e) hc nch ho (I.freeC x c e);exact⟨_,q,hd⟩
  ·exact⟨o,keep c o (I.cne x c e) hc nch ho (I.freeC x c e),hd⟩
 refine⟨I.ok,I.os,hg,⟨fun b o e n hb hx=>?_,fun b o e n hb hx=>?_,fun b o e n hx=>?_,fun b o e hx=>?_,fun b xs e=>tups b xs (I.base.tups b xs e),fun b o xs e=>frzs b o xs (I.base.frzs b o xs e),fun b ps e=>?_⟩,?_,fun x c e=>?_,?_,fun x c e=>?_,fun p hp=>?_,hok,I.len⟩
 ·exact keep b o (neL b o e) hb (neC b o e hx) (I.base.keep b o e n hb hx) (I.base.free b o e n hx)
 ·obtain⟨sl,e1⟩:=I.base.slot b o e n hb hx;obtain⟨sl',e2⟩:=slot b _ (neL b o e) hb (neC b o e hx) e1 (I.base.free b o e n hx);exact⟨sl',e2⟩
 ·obtain⟨o',e1⟩:=I.base.there b o e hx;exact free b o' (neC b o e hx) e1 (I.base.free b o e n hx)
 ·obtain⟨o',e1⟩:=I.base.there b o e hx;exact there b o' (neC b o e hx) e1
 ·obtain⟨m1,e1⟩:=I.base.tbls b ps e;obtain⟨m2,e2⟩:=tbls b _ e1;exact⟨m1++m2,by rw[e2,Array.append_assoc]⟩
 ·obtain⟨m,hn,hl⟩:=I.loc;refine⟨m,ns m hn,fun i x v e1 e2 e3=>?_⟩;obtain⟨u,r,l⟩:=hl i x v e1 e2 e3;refine⟨u,r,?_⟩;rcases l with l|⟨k,c,e,z⟩
  ·exact .inl l
  ·exact .inr ⟨k,c,e,cellK x c e _ z⟩
 ·obtain⟨v,z⟩:=I.cell x c e;exact⟨v,cellK x c e v z⟩
 ·obtain⟨m,⟨o,_,_,ho,_⟩,_⟩:=I.loc;exact free _ o (fun z=>(hch _ z).2.1 rfl) ho I.free
 ·obtain⟨v,o,ho,hd⟩:=I.cell x c e;exact free c o (fun z=>(hch c z).2.2.1 x c e rfl) ho (I.freeC x c e)
 ·obtain⟨e,n,ne,nf,d⟩:=I.pin p hp;have nch:p.1∉ch:=fun z=>(hch p.1 z).2.2.2 p hp rfl;exact⟨keep p.1 p.2 ne nf nch e n,free p.1 p.2 nch e n,ne,nf,d⟩
theorem Inv.un{t':Nat}(I:Inv X pins σ H s)(u:Un X.fs [] H H' s.heap h')(hok:cx X.prog X.w H' h'):Inv X pins σ H' {s with heap:=h',toks:=t'}:=by
 obtain⟨m,⟨o,es,ep,ho,r⟩,_⟩:=id I.loc;obtain⟨sl,hL⟩:=u.any ho I.free (by simp)
 exact I.step (g':=s.gens) (d':=s.drawn) (ch:=[]) (fun _ z=>nomatch z) (fun b o _ hb _ e n=>u.keep b o e n hb (by simp)) (fun b o _ hb _ e n=>u.slot b o e n hb (by simp)) (fun b o _ e n=>u.free b o e n (by simp)) (fun b o _ e=>u.there b o e (by simp)) u.tups u.frzs u.tbls (fun m' hm=>by
  obtain⟨o',es',ep',ho',r'⟩:=hm;rw[ho]at ho'; cases ho';exact⟨_,es',ep',hL,r'⟩) hok I.bare
theorem Inv.call{g':Array GenState}{t':Nat}{d':Drawn}{ch:List aa}(I:Inv X pins σ H s)(u:Un (ck X.stack) ch H H' s.heap h')(hok:cx X.prog X.w H' h')(hg:mQ g')
  (hch:∀b∈ch,(b∈X.ex\/X.s_0.heap.objs.size<=b)/\b≠X.env.locals/\(∀x c,X.env.cells.lookup x=some c->c≠b)/\∀p∈X.pn++pins,p.1≠b):
  Inv X pins σ H' {s with heap:=h',gens:=g',drawn:=d',toks:=t'}:=by
 obtain⟨m,⟨o,es,ep,ho,r⟩,_⟩:=id I.loc;obtain⟨sl,hL⟩:=u.any ho I.free fun z=>(hch _ z).2.1 rfl
 exact I.step (ch:=ch) hch (fun b o hL hb hc e n=>u.keep b o e n (fun z=>(bg.mp (I.stkSub b z)).elim hL hb) hc) (fun b o _ _ hc e n=>u.any e n hc) (fun b o hc e n=>u.free b o e n hc) (fun b o hc e=>u.there b o e hc) u.tups u.frzs u.tbls (fun m' hm=>by
  obtain⟨o',es',ep',ho',r'⟩:=hm;rw[ho]at ho'; cases ho';exact⟨_,es',ep',hL,r'⟩) hok hg
theorem Inv.turned{t':Nat}{it:aa}(I:Inv X pins σ H s)(k:∀b o,b≠it->s.heap.get? b=some o->h'.get? b=some o)(hn:H it=none)(hL:it≠X.env.locals)
  (h1:it∈X.ex\/X.s_0.heap.objs.size<=it)(h2:∀x c,X.env.cells.lookup x=some c->c≠it)(h3:∀p∈X.pn++pins,p.1≠it):Inv X pins σ H {s with heap:=h',toks:=t'}:=by
 have nit:∀b u,H b=some u->b≠it:=fun b u e z=>by rw[z,hn]at e; cases e
 refine I.step (g':=s.gens) (d':=s.drawn) (ch:=[it]) (fun b hb=>?_) (fun b o _ _ hc e _=>k b o (fun z=>hc (by simp[z])) e) (fun b o _ _ hc e _=>⟨o.slots,k b o (fun z=>hc (by simp[z])) e⟩) (fun _ _ _ _ n=>n)
  (fun b o hc e=>⟨o,k b o (fun z=>hc (by simp[z])) e⟩) (fun _ _ e=>e) (fun _ _ _ e=>e) (fun b ps e=>⟨#[],by rw[e]; simp⟩) (fun m hm=>?_) (fun b u e=>?_) I.bare
 ·have e:b=it:=by simpa using hb
  subst e;exact⟨h1,hL,h2,h3⟩
 ·obtain⟨o,es,ep,ho,r⟩:=hm;exact⟨o,es,ep,k _ o (bq hL) ho,r⟩
 ·refine(I.hok b u e).stay (fun c v hc q=>k c v ?_ q) (fun _ q=>q) fun _ _ q=>q;rcases hc with z|z
  ·rw[z]; exact nit b u e
  ·exact nit c _ z
theorem Inv.tok(I:Inv X pins σ H s)(t:Nat):Inv X pins σ H {s with toks:=t}:=I.un (h':=s.heap) (t':=t) Un.refl I.hok
theorem Inv.kept{t':Nat}(I:Inv X pins σ H s)(k:∀b u,s.heap.get? b=some u->h'.get? b=some u):Inv X pins σ H {s with heap:=h',toks:=t'}:=I.un (Un.kept k) (I.hok.kept k)
theorem Inv.laid{a:aa}{o:HO}{t':Nat}(I:Inv X pins σ H s)(k:∀b u,s.heap.get? b=some u->h'.get? b=some u)(hp:s.heap.objs.size<=a)(new:dM X.prog X.w (ah H a o) h' a o):
  Inv X pins σ (ah H a o) {s with heap:=h',toks:=t'}:=I.un (Un.laid k hp (I.hok.fresh hp)) (I.hok.laid k hp new)
theorem Inv.write{x e:aa}{o:HO}{t':Nat}(I:Inv X pins σ H s)(mu:sJ (H x))(he:e=x\/H e=some (.own x))(k:∀b u,b≠e->s.heap.get? b=some u->h'.get? b=some u)(heo:∃u,h'.get? e=some u)
  (new:dM X.prog X.w (ah H x o) h' x o):Inv X pins σ (ah H x o) {s with heap:=h',toks:=t'}:=I.un (Un.write mu he k heo) (I.hok.write mu he k heo new)
theorem Inv.weak{σ':List (Option V)}(I:Inv X pins σ H s)(hl:σ'.length=σ.length)(w:∀(i:Nat) v,σ'[i]?=some (some v)->σ[i]?=some (some v)):Inv X pins σ' H s:=
 ⟨I.ok,I.os,I.bare,I.base,let⟨m,hn,hl'⟩:=I.loc; ⟨m,hn,fun i x v e1 e2 e3=>hl' i x v e1 (w i v e2) e3⟩,I.cell,I.free,I.freeC,I.pin,I.hok,hl.trans I.len⟩
theorem Inv.pins_of{pins':List (aa×Obj)}(I:Inv X pins σ H s)(h:∀p∈pins',s.heap.get? p.1=some p.2/\H p.1=none/\p.1≠X.env.locals/\p.1∉X.fs/\∀v,p.2.data≠.cell v):Inv X pins' σ H s:=
 ⟨I.ok,I.os,I.bare,I.base,I.loc,I.cell,I.free,I.freeC,fun p hp=>(cj.mp hp).elim (fun z=>I.pin p (dn _ z)) (h p),I.hok,I.len⟩
theorem AQ{N:List Str}(hN:N.Nodup){i j:Nat}{x:Str}(a:N[i]?=some x)(b:N[j]?=some x):i=j:=by
 obtain⟨h1,e1⟩:=aK.mp a;obtain⟨h2,e2⟩:=aK.mp b;exact(List.getElem_inj hN).mp (e1.trans e2.symm)
theorem Ck{M:Model}{A:bJ}{E:ae->aj->Prop}{i:Nat}{x:Str}{v:V}{u:ae}{Q:Unit->aj->Prop}(I:Inv X pins σ H s)(hN:X.N.Nodup)(hi:X.N[i]?=some x)(hx:Loc X.env.scope x)(r:RelV v u)
  (h:∀s',Inv X pins (σ.set i (some v)) H s'->(∃a,lP a s.heap s'.heap/\(a=X.env.locals\/X.env.cells.lookup x=some a))->Q () s')(hf:X.fn x=true\/X.env.scope.names.lookup x=some .local:=by first|exact .inl rfl|exact .inr rfl|assumption):az M A (storeName X.env x u) Q E s:=by
 obtain⟨m,hn,hl⟩:=id I.loc;have hcls:(X.env.scope.kind== .class||(X.env.scope.kind== .module&&X.env.locals != X.env.globals))=false:=by rw[I.ok.kind]; rfl
 have hiσ:i<σ.length:=by rw[I.len]; exact(aK.mp hi).1
 have cne:=I.cne
 have tracked:∀{a:aa}{h':aC},(∃o,s.heap.get? a=some o/\H a=none)->lP a s.heap h'->cx X.prog X.w H h':=fun{a h'} ha hs b ob e=>by
  obtain⟨_,_,hfree⟩:=ha;refine(I.hok b ob e).stay (fun c w' hc q=>(hs.2 c ?_).trans q) (fun _ q=>q) fun _ _ q=>q;rintro rfl;rcases hc with rfl|hc
  ·rw[hfree]at e; cases e
  ·rw[hfree]at hc; cases hc
 rcases hx with hk|hk
 ·refine wpAny_storeName_local hk hn (fun h' hn' hs=>?_) hcls;obtain⟨oL,_,_,hoL,_⟩:=id hn;refine h _ ⟨I.ok,I.os,I.bare,⟨fun b o e n hb hx=>?_,fun b o e n hb hx=>?_,I.base.free,fun b o e hx=>?_,I.base.tups,I.base.frzs,I.base.tbls⟩,⟨_,hn',fun j y v' e1 e2 e3=>?_⟩,fun y c e=>?_,I.free,I.freeC,fun p hp=>?_,tracked ⟨oL,hoL,I.free⟩ hs,by simpa using I.len⟩ ⟨_,hs,.inl rfl⟩
  ·exact(hs.2 b (cJ (cW (bO e) I.ok.above))).trans (I.base.keep b o e n hb hx)
  ·obtain⟨sl,e1⟩:=I.base.slot b o e n hb hx;exact⟨sl,(hs.2 b (cJ (cW (bO e) I.ok.above))).trans e1⟩
  ·obtain⟨o',e1⟩:=I.base.there b o e hx;exact⟨o',(hs.2 b (cJ (cW (bO e) I.ok.above))).trans e1⟩
  ·by_cases hj:j=i
   ·subst hj;rw[hi]at e1; cases e1;rw[sG hiσ]at e2;cases e2;exact⟨u,r,.inl ⟨hk,by simp⟩⟩
   ·rw[qv (bq hj)]at e2;obtain⟨u',r',q⟩:=hl j y v' e1 e2 e3;refine⟨u',r',?_⟩;rcases q with⟨k,e⟩|⟨k,c,e,z⟩
    ·refine .inl ⟨k,?_⟩;have:y≠x:=fun e=>hj (AQ hN e1 (e▸hi));simp[this,e]
    ·exact .inr ⟨k,c,e,z.sameBut hs (cne y c e)⟩
  ·obtain⟨w',z⟩:=I.cell y c e;exact⟨w',z.sameBut hs (cne y c e)⟩
  ·obtain⟨e,n,ne,nf,d⟩:=I.pin p hp;exact⟨(hs.2 p.1 ne).trans e,n,ne,nf,d⟩
 ·have hfn:X.fn x=true:=by
   rcases hf with z|z
   ·exact z
   ·rw[z]at hk; cases hk
  obtain⟨c,hc⟩:=I.ok.has x (.inl hk);obtain⟨w',z⟩:=I.cell x c hc;refine wpAny_storeName_cell I.ok.kind hk hc z (fun h' hc' hs=>?_);obtain⟨oc,hoc,hocd⟩:=id z;refine h {s with heap:=h'} ⟨I.ok,I.os,I.bare,⟨fun b o e n hb hx=>?_,fun b o e n hb hx=>?_,I.base.free,fun b o e hx=>?_,I.base.tups,I.base.frzs,I.base.tbls⟩,⟨m,hn.sameBut hs (bq (cne x c hc)),fun j y v' e1 e2 e3=>?_⟩,fun y c' e=>?_,I.free,I.freeC,fun p hp=>?_,tracked ⟨oc,hoc,I.freeC x c hc⟩ hs,by simpa using I.len⟩ ⟨c,hs,.inr hc⟩
  ·exact(hs.2 b (cJ (cW (bO e) (I.ok.cab x c hfn hc)))).trans (I.base.keep b o e n hb hx)
  ·obtain⟨sl,e1⟩:=I.base.slot b o e n hb hx;exact⟨sl,(hs.2 b (cJ (cW (bO e) (I.ok.cab x c hfn hc)))).trans e1⟩
  ·obtain⟨o',e1⟩:=I.base.there b o e hx;exact⟨o',(hs.2 b (cJ (cW (bO e) (I.ok.cab x c hfn hc)))).trans e1⟩
  ·by_cases hj:j=i
   ·subst hj;rw[hi]at e1; cases e1;rw[sG hiσ]at e2;cases e2;exact⟨u,r,.inr ⟨.inl hk,c,hc,hc'⟩⟩
   ·rw[qv (bq hj)]at e2;obtain⟨u',r',q⟩:=hl j y v' e1 e2 e3;refine⟨u',r',?_⟩;rcases q with q|⟨k,c',e,z'⟩
    ·exact .inl q
    ·refine .inr ⟨k,c',e,z'.sameBut hs ?_⟩;rintro rfl;exact hj (AQ hN e1 (I.ok.inj _ _ _ e hc▸hi))
  ·by_cases hcc:c'=c
   ·subst hcc; exact⟨_,hc'⟩
   ·obtain⟨w2,z2⟩:=I.cell y c' e;exact⟨w2,z2.sameBut hs hcc⟩
  ·obtain⟨e,n,ne,nf,d⟩:=I.pin p hp;refine⟨(hs.2 p.1 ?_).trans e,n,ne,nf,d⟩;intro q;rw[q,hoc]at e;have q':oc=p.2:=eE e;exact d w' (by rw[<-q']; exact hocd)
theorem Cj{M:Model}{A:bJ}{E:ae->aj->Prop}{i:Nat}{x:Str}{v:V}{u:ae}{Q:Unit->aj->Prop}(I:Inv X pins σ H s)(hN:X.N.Nodup)(hi:X.N[i]?=some x)(hx:Loc X.env.scope x)(r:RelV v u)
  (h:∀s',Inv X pins (σ.set i (some v)) H s'->Q () s')(hf:X.fn x=true\/X.env.scope.names.lookup x=some .local:=by first|exact .inl rfl|exact .inr rfl|assumption):az M A (storeName X.env x u) Q E s:=
 Ck I hN hi hx r (fun s' I' _=>h s' I') hf
theorem Inv.call'{s':aj}{ch:List aa}(I:Inv X pins σ H s)(ho:s'.os=s.os)(u:Un (ck X.stack) ch H H' s.heap s'.heap)(hok:cx X.prog X.w H' s'.heap)(hg:mQ s'.gens)
  (hch:∀b∈ch,(b∈X.ex\/X.s_0.heap.objs.size<=b)/\b≠X.env.locals/\(∀x c,X.env.cells.lookup x=some c->c≠b)/\∀p∈X.pn++pins,p.1≠b):Inv X pins σ H' s':=by
 obtain⟨h',g',d',t',o'⟩:=s';have e:o'=s.os:=ho;subst e;exact I.call (g':=g') (t':=t') (d':=d') u hok hg hch
end
abbrev XK:=ae->Option aa->Hp->Prop
abbrev St:=List (Option V)
abbrev VK:=V->Hp->Prop
abbrev TE:=St->Hp->VK->Prop
abbrev TT:=St->Hp->(Bool->Hp->Prop)->Prop
abbrev TA:=St->Hp->(List V->Hp->Prop)->Prop
structure iy where
 nx:St->Hp->Prop
 rt:VK
 bk:St->Hp->Prop:=fun _ _=>False
 ct:St->Hp->Prop:=fun _ _=>False
abbrev TS:=iy->St->Hp->Prop
def EP(X:Cx)(pins:List (aa×Obj))(σ:St)(Q:VK)(u:ae)(s':aj):Prop:=∃v H',Inv X pins σ H' s'/\RelV v u/\Q v H'
def TP(X:Cx)(pins:List (aa×Obj))(σ:St)(Q:Bool->Hp->Prop)(b:Bool)(s':aj):Prop:=∃H',Inv X pins σ H' s'/\Q b H'
def AP(X:Cx)(pins:List (aa×Obj))(σ:St)(Q:List V->Hp->Prop)(us:List ae)(s':aj):Prop:=∃vs H',Inv X pins σ H' s'/\aS vs us/\Q vs H'
def SP(X:Cx)(pins:List (aa×Obj))(D:iy)(f:Flow)(s':aj):Prop:=
 match f with
 |.next=>∃σ' H',Inv X pins σ' H' s'/\D.nx σ' H'
 |.brk=>∃σ' H',Inv X pins σ' H' s'/\D.bk σ' H'
 |.cont=>∃σ' H',Inv X pins σ' H' s'/\D.ct σ' H'
 |.ret u=>∃v σ' H',Inv X pins σ' H' s'/\RelV v u/\D.rt v H'
def PE(X:Cx)(e:aJ)(t:TE):Prop:=
 ∀(pins:List (aa×Obj))(s:aj)(σ:St)(H:Hp)(Q:VK),Inv X pins σ H s->t σ H Q->az (aB X.prog X.w) X.A (bw e X.env) (EP X pins σ Q) X.xe s
def PT(X:Cx)(e:aJ)(t:TT):Prop:=
 ∀(pins:List (aa×Obj))(s:aj)(σ:St)(H:Hp)(Q:Bool->Hp->Prop),Inv X pins σ H s->t σ H Q->az (aB X.prog X.w) X.A (isTrue e X.env (bw e X.env)) (TP X pins σ Q) X.xe s
def PW(X:Cx)(e:aJ)(t:TT):Prop:=
 ∀(whole:Sem ae)(pins:List (aa×Obj))(s:aj)(σ:St)(H:Hp)(Q:Bool->Hp->Prop),Inv X pins σ H s->t σ H Q->az (aB X.prog X.w) X.A (isTrue e X.env whole) (TP X pins σ Q) X.xe s
theorem PW.pt{X:Cx}{e:aJ}{t:TT}(h:PW X e t):PT X e t:=h _
def PA(X:Cx)(es:List aJ)(t:TA):Prop:=
 ∀(pos:Pos)(pins:List (aa×Obj))(s:aj)(σ:St)(H:Hp)(Q:List V->Hp->Prop),Inv X pins σ H s->t σ H Q->az (aB X.prog X.w) X.A (spliced (dX pos (bN es X.env))) (AP X pins σ Q) X.xe s
def PS(X:Cx)(st:aH)(t:TS):Prop:=
 ∀(pins:List (aa×Obj))(s:aj)(σ:St)(H:Hp)(D:iy),Inv X pins σ H s->t D σ H->az (aB X.prog X.w) X.A (exec st X.env) (SP X pins D) X.xe s
def fo(X:Cx)(st:List aH)(t:TS):Prop:=
 ∀(pins:List (aa×Obj))(s:aj)(σ:St)(H:Hp)(D:iy),Inv X pins σ H s->t D σ H->az (aB X.prog X.w) X.A (execs st X.env) (SP X pins D) X.xe s
theorem aQ{α:Type}{t:Sem α}{Q Q':α->aj->Prop}{M:Model}{A:bJ}{E:ae->aj->Prop}{s:aj}(h:az M A t Q E s)(hQ:∀a s,Q a s->Q' a s):az M A t Q' E s:=iq h hQ fun _ _ x=>x
section
variable{X:Cx}
theorem Xa{a b:aJ}{ta tb:TE}(ha:PE X a ta)(hb:PE X b tb){pins:List (aa×Obj)}{s:aj}{σ:St}{H:Hp}{R:V->V->Hp->Prop}(I:Inv X pins σ H s)(h:ta σ H fun x H1=>tb σ H1 fun y H2=>R x y H2)
  {α:Type}{Q:α->aj->Prop}{f:ae->ae->Sem α}
  (hf:∀v u s2 x y H2,Inv X pins σ H2 s2->RelV x v->RelV y u->R x y H2->az (aB X.prog X.w) X.A (f v u) Q X.xe s2):
  az (aB X.prog X.w) X.A (bw a X.env) (fun v s₁=>az (aB X.prog X.w) X.A (bw b X.env) (fun u s₂=>az (aB X.prog X.w) X.A (f v u) Q X.xe s₂) X.xe s₁) X.xe s:=by
 refine aQ (ha pins s σ H _ I h) fun v s1⟨x,H1,I1,r1,q1⟩=>?_;refine aQ (hb pins s1 σ H1 _ I1 q1) fun u s2⟨y,H2,I2,r2,q2⟩=>?_;exact hf v u s2 x y H2 I2 r1 r2 q2
def jT(i:Nat):TE:=fun σ H Q=>∃v,σ[i]?=some (some v)/\Q v H
def tC(v:V):TE:=fun _ H Q=>Q v H
theorem Sg{i:Nat}{x:Str}{pos:Pos}(hN:X.N[i]?=some x)(hv:qP X.env.scope x)(hd:(x==("__debug__":Str))=false:=by decide)(hcd:(x==("__classdict__":Str))=false:=by decide):PE X (.Name x pos) (jT i):=by
 intro pins s σ H Q I h;obtain⟨v,e,h⟩:=h;obtain⟨m,hn,hl⟩:=I.loc;obtain⟨u,r,l⟩:=hl i x v hN e hv;have fin:EP X pins σ Q u s:=⟨v,H,I,r,h⟩;rcases l with⟨hk,hm⟩|⟨hk,c,hc,hcell⟩
 ·exact yg (Lr I.ok.kind hk hn hm fin) hd
 ·rcases hk with hk|hk
  ·exact yg (WQ I.ok.kind hk hc hcell fin) hd
  ·exact yg (WR I.ok.kind hk hc hcell fin hcd) hd
theorem aA{i j pos}:PE X (.Constant (.int i) j pos) (tC (.int i)):=fun _ _ _ H _ I h=>wpAny_Constant_int ⟨.int i,H,I.tok _,⟨_,rfl⟩,h⟩
theorem pP{b j pos}:PE X (.Constant (.bool b) j pos) (tC (.bl b)):=fun _ _ _ H _ I h=>Constant_bool ⟨.bl b,H,I,rfl,h⟩
theorem lF{j pos}:PE X (.Constant .none j pos) (tC .non):=fun _ _ _ H _ I h=>Constant_none ⟨.non,H,I,rfl,h⟩
theorem um{x j pos}:PE X (.Constant (.str x) j pos) (tC (.str x)):=fun _ _ _ H _ I h=>Calls.Constant_str ⟨.str x,H,I.tok _,⟨_,rfl⟩,h⟩
def Gl(X:Cx)(x:Str):Prop:=X.env.kindOf x=some .globalImplicit
theorem nH{E:ae->aj->Prop}{pins:List (aa×Obj)}{s:aj}{σ:St}{H:Hp}{x:Str}{u:ae}{pos:Pos}{Q:ae->aj->Prop}(I:Inv X pins σ H s)(hg:Gl X x)(hm:X.mg x=some u)(h:Q u s)
  (hd:(x==("__debug__":Str))=false:=by decide):az (aB X.prog X.w) X.A (bw (.Name x pos) X.env) Q E s:=
 Da I.ok.kind hg (Calls.loadGlobal_global (by rw[I.ok.glob]; exact I.mod.glob.keeps I.bk) hm h) hd
theorem rq{E:ae->aj->Prop}{pins:List (aa×Obj)}{s:aj}{σ:St}{H:Hp}{x:Str}{u:ae}{pos:Pos}{Q:ae->aj->Prop}(I:Inv X pins σ H s)(hg:Gl X x)(hm:X.mg x=none)(hv:qX x=some u)(h:Q u s)
  (hn:x≠"__name__":=by decide)(hd:(x==("__debug__":Str))=false:=by decide):az (aB X.prog X.w) X.A (bw (.Name x pos) X.env) Q E s:=by
 obtain⟨mb,h1,h2⟩:=I.mod.blt;exact Da I.ok.kind hg (LC (by rw[I.ok.glob]; exact I.mod.glob.keeps I.bk) hm (by rw[I.ok.blt]; exact h1.keeps I.bk) ((h2 x hn).trans hv) h) hd
theorem RW{x:Str}{v:V}{u:ae}{pos:Pos}(hg:Gl X x)(hm:X.mg x=some u)(r:RelV v u)(hd:(x==("__debug__":Str))=false:=by decide):PE X (.Name x pos) (tC v):=
 fun _ _ _ H _ I h=>nH I hg hm ⟨v,H,I,r,h⟩ hd
variable{a b:aJ}{ta tb:TE}{pos:Pos}
def PC(X:Cx)(op:CmpOp)(a b:aJ)(t:TE):Prop:=
 ∀(pins:List (aa×Obj))(s:aj)(σ:St)(H:Hp)(Q:VK),Inv X pins σ H s->t σ H Q->
  az (aB X.prog X.w) X.A (bw a X.env) (fun v s₁=>az (aB X.prog X.w) X.A (bw b X.env) (fun u s₂=>az (aB X.prog X.w) X.A (fG op v u) (EP X pins σ Q) X.xe s₂) X.xe s₁) X.xe s
def tB(t:TE):TT:=fun σ H Q=>t σ H fun x H1=>∃c,x=.bl c/\Q c H1
theorem rN{op:CmpOp}{t:TE}(h:PC X op a b t)(h1:wj op b=false:=by first|exact nobehind _ (by decide) (by decide)|rfl):PT X (.Compare a [op] [b] pos) (tB t):=by
 intro pins s σ H Q I hw;refine WO (aQ (h pins s σ H _ I hw) fun v s1 h1=>aQ h1 fun u s2 h2=>aQ h2 fun c s3⟨x,H1,I1,r1,q1⟩=>?_) h1;obtain⟨d,rfl,q⟩:=q1;cases r1;exact uU ⟨H1,I1,q⟩
theorem dR{e:aJ}{t:TE}(h:PE X e t)(he:∀whole,isTrue e X.env whole=(do let v<-whole; standAt e.pos; holding [v] (truthy v)):=by intro _; rfl):PT X e (tB t):=by
 intro pins s σ H Q I hw;refine isTrue_plain (aQ (h pins s σ H _ I hw) fun v s1⟨x,H1,I1,r1,q1⟩=>?_) (he _);obtain⟨d,rfl,q⟩:=q1;cases r1;exact uU ⟨H1,I1,q⟩
variable{tA tB':TT}{rest:List aJ}
def KF(t u:TT):TT:=fun σ H Q=>t σ H fun c H1=>if c=true then u σ H1 Q else Q false H1
def KW(t u:TT):TT:=fun σ H Q=>t σ H fun c H1=>if c=true then Q true H1 else u σ H1 Q
def KU(t:TT):TT:=fun σ H Q=>t σ H fun c H1=>Q (!c) H1
theorem uu(ha:PT X a tA):PW X (.BoolOp .And [a] pos) tA:=by
 intro wh pins s σ H Q I h;refine isTrue_and (aQ (ha pins s σ H Q I h) fun c s1 e=>?_);cases c with
 |true=>exact isTrue_and_nil e
 |false=>exact e
theorem xB(ha:PT X a tA):PW X (.BoolOp .Or [a] pos) tA:=by
 intro wh pins s σ H Q I h;refine isTrue_or (aQ (ha pins s σ H Q I h) fun c s1 e=>?_);cases c with
 |false=>exact isTrue_or_nil e
 |true=>exact e
theorem ur(ha:PT X a tA)(hb:PW X (.BoolOp .And (b::rest) pos) tB'):PW X (.BoolOp .And (a::b::rest) pos) (KF tA tB'):=by
 intro wh pins s σ H Q I h;refine isTrue_and (aQ (ha pins s σ H _ I h) fun c s1⟨H1,I1,q1⟩=>?_);cases c with
 |true=>exact hb wh pins s1 σ H1 Q I1 q1
 |false=>exact⟨H1,I1,q1⟩
theorem xA(ha:PT X a tA)(hb:PW X (.BoolOp .Or (b::rest) pos) tB'):PW X (.BoolOp .Or (a::b::rest) pos) (KW tA tB'):=by
 intro wh pins s σ H Q I h;refine isTrue_or (aQ (ha pins s σ H _ I h) fun c s1⟨H1,I1,q1⟩=>?_);cases c with
 |true=>exact⟨H1,I1,q1⟩
 |false=>exact hb wh pins s1 σ H1 Q I1 q1
theorem lG(ha:PT X a tA):PT X (.UnaryOp .Not a pos) (KU tA):=by
 intro pins s σ H Q I h;exact isTrue_not (ha pins s σ H (fun c H1=>Q (!c) H1) I h)
def KG(ta tb:TE):TE:=fun σ H Q=>ta σ H fun x H1=>∃c,x=.bl c/\if c=true then tb σ H1 Q else Q (.bl false) H1
def KY(ta tb:TE):TE:=fun σ H Q=>ta σ H fun x H1=>∃c,x=.bl c/\if c=true then Q (.bl true) H1 else tb σ H1 Q
def Wo(ta:TE):TE:=fun σ H Q=>ta σ H fun x H1=>∃c,x=.bl c/\Q (.bl (!c)) H1
theorem BC{op}{t:TE}(h:PE X a t):PE X (.BoolOp op [a] pos) t:=fun pins s σ H Q I hw=>BoolOp_one (h pins s σ H Q I hw)
theorem Bz(ha:PE X a ta)(hb:PE X (.BoolOp .And (b::rest) pos) tb):PE X (.BoolOp .And (a::b::rest) pos) (KG ta tb):=by
 intro pins s σ H Q I h;refine BoolOp_and (aQ (ha pins s σ H _ I h) fun v s1⟨x,H1,I1,r1,q1⟩=>?_);obtain⟨c,rfl,q1⟩:=q1;cases r1;refine uU ?_;cases c with
 |true=>exact hb pins s1 σ H1 Q I1 q1
 |false=>exact⟨.bl false,H1,I1,rfl,q1⟩
theorem Sf(ha:PE X a ta)(hb:PE X (.BoolOp .Or (b::rest) pos) tb):PE X (.BoolOp .Or (a::b::rest) pos) (KY ta tb):=by
 intro pins s σ H Q I h;refine BoolOp_or (aQ (ha pins s σ H _ I h) fun v s1⟨x,H1,I1,r1,q1⟩=>?_);obtain⟨c,rfl,q1⟩:=q1;cases r1;refine uU ?_;cases c with
 |false=>exact hb pins s1 σ H1 Q I1 q1
 |true=>exact⟨.bl true,H1,I1,rfl,q1⟩
def KO(t:TT)(ta tb:TE):TE:=fun σ H Q=>t σ H fun c H1=>if c=true then ta σ H1 Q else tb σ H1 Q
theorem BB{c:aJ}(hc:PT X c tA)(ha:PE X a ta)(hb:PE X b tb):PE X (.IfExp c a b pos) (KO tA ta tb):=by
 intro pins s σ H Q I h;refine wpAny_IfExp (aQ (hc pins s σ H _ I h) fun d s1⟨H1,I1,q1⟩=>?_);cases d with
 |true=>exact ha pins s1 σ H1 Q I1 q1
 |false=>exact hb pins s1 σ H1 Q I1 q1
end
def ak(K:aw)(H:Hp)(a:aa)(xs:List V):Prop:=
 Rd H a (.lst xs)\/
  ∃(o:Obj)(its:Array ae)(n:Nat),K.lookup a=some o/\o.cls=.type "list"/\o.dict=none/\o.data=.seq its n/\its.size<=aY/\aS xs its.toList
def bQ(K:aw)(H:Hp)(a:aa)(xs:List V):Prop:=
 Rd H a (.tup xs)\/
  ∃(o:Obj)(its:Array ae)(n:Nat),K.lookup a=some o/\o.cls=.type "tuple"/\o.data=.seq its n/\its.size<=aY/\aS xs its.toList
def My:ae->Option V
 |.none=>some .non
 |.bool b=>some (.bl b)
 |.int i _=>some (.int i)
 |.str x _=>some (.str x)
 |.bytes b _=>some (.byt b)
 |.float b _=>some (.flt b)
 |.ref a=>some (.ref a)
 |.type n=>some (.ty n)
 |_=>none
theorem RelV.abs{x:V}{u:ae}(r:RelV x u):My u=some x:=by
 cases x with
 |non=>cases r; rfl
 |bl _=>cases r; rfl
 |int _=>obtain⟨t,rfl⟩:=r; rfl
 |str _=>obtain⟨t,rfl⟩:=r; rfl
 |byt _=>obtain⟨t,rfl⟩:=r; rfl
 |flt _=>obtain⟨t,rfl⟩:=r; rfl
 |ref _=>cases r; rfl
 |ty _=>cases r; rfl
theorem RelV.inj{x y:V}{u:ae}(r:RelV x u)(q:RelV y u):x=y:=eE (r.abs.symm.trans q.abs)
theorem aS.inj:∀{xs ys:List V}{us:List ae},aS xs us->aS ys us->xs=ys
 |_,_,_,.nil,.nil=>rfl
 |_,_,_,.cons r t,.cons r' t'=>by rw[r.inj r',aS.inj t t']
section
variable{X:Cx}{pins:List (aa×Obj)}{σ:St}{H:Hp}{s:aj}{a:aa}{xs ys:List V}
theorem ak.of{K:aw}(h:H a=some (.lst xs)):ak K H a xs:=.inl (.inl h)
theorem bQ.of{K:aw}(h:H a=some (.tup xs)):bQ K H a xs:=.inl (.inl h)
theorem Inv.list(I:Inv X pins σ H s)(h:ak X.K H a xs):∃its:List ae,aS xs its/\PlainL s.heap a its.toArray/\xs.length<=aY:=by
 rcases h with h|⟨o,its,n,hk,hc,hd,hs,hz,r⟩
 ·obtain⟨z,its,n,r,e⟩:=h.ok I.hok;exact⟨its,r,⟨_,n,e,rfl,rfl,rfl⟩,z⟩
 ·refine⟨its.toList,r,⟨o,n,I.kIn a o hk,hc,hd,by simpa using hs⟩,?_⟩;have e:=r.length;simp only[gc]at e;omega
theorem Inv.tuple(I:Inv X pins σ H s)(h:bQ X.K H a xs):∃its:List ae,aS xs its/\IsTup s.heap a its.toArray/\xs.length<=aY:=by
 rcases h with h|⟨o,its,n,hk,hc,hs,hz,r⟩
 ·obtain⟨z,its,r,p⟩:=h.ok I.hok;exact⟨its,r,p,z⟩
 ·refine⟨its.toList,r,⟨o,I.kIn a o hk,hc,n,by simpa using hs⟩,?_⟩;have e:=r.length;simp only[gc]at e;omega
theorem Inv.list_inj(I:Inv X pins σ H s)(h:ak X.K H a xs)(h':ak X.K H a ys):xs=ys:=by
 obtain⟨its,r,⟨o,n,e,_,_,d⟩,_⟩:=I.list h;obtain⟨its',r',⟨o',n',e',_,_,d'⟩,_⟩:=I.list h';rw[e]at e'; cases e';rw[d]at d';injection d' with d1 _;have:its=its':=by simpa using congrArg Array.toList d1
 subst this;exact r.inj r'
end
abbrev Cx.wish(X:Cx)(E:ae->aj->Prop):Cx:={X with xe:=E}
abbrev Cx.nox(X:Cx):Cx:=X.wish fun _ _=>False
theorem Cx.Ok.wish{X:Cx}(ok:X.Ok)(E:ae->aj->Prop):(X.wish E).Ok:=
 ⟨ok.mod,ok.kind,ok.glob,ok.blt,ok.above,ok.inj,ok.has,ok.cab,ok.hd,ok.frames,ok.stk,ok.exf,ok.bs,ok.bsz,ok.noex,ok.exfs,ok.funs,ok.frf⟩
theorem Cx.Ok.unwish{X:Cx}{E:ae->aj->Prop}(ok:(X.wish E).Ok):X.Ok:=
 ⟨ok.mod,ok.kind,ok.glob,ok.blt,ok.above,ok.inj,ok.has,ok.cab,ok.hd,ok.frames,ok.stk,ok.exf,ok.bs,ok.bsz,ok.noex,ok.exfs,ok.funs,ok.frf⟩
section
variable{X:Cx}{pins:List (aa×Obj)}{σ:St}{H:Hp}{s:aj}{E:ae->aj->Prop}
theorem Inv.wish(I:Inv X pins σ H s)(E:ae->aj->Prop):Inv (X.wish E) pins σ H s:=⟨I.ok.wish E,I.os,I.bare,I.base,I.loc,I.cell,I.free,I.freeC,I.pin,I.hok,I.len⟩
theorem Inv.unwish(I:Inv (X.wish E) pins σ H s):Inv X pins σ H s:=⟨I.ok.unwish,I.os,I.bare,I.base,I.loc,I.cell,I.free,I.freeC,I.pin,I.hok,I.len⟩
theorem SP.unwish{D:iy}{f:Flow}{s':aj}(h:SP (X.wish E) pins D f s'):SP X pins D f s':=by
 cases f with
 |next=>obtain⟨σ',H',I,q⟩:=h; exact⟨σ',H',I.unwish,q⟩
 |brk=>obtain⟨σ',H',I,q⟩:=h; exact⟨σ',H',I.unwish,q⟩
 |cont=>obtain⟨σ',H',I,q⟩:=h; exact⟨σ',H',I.unwish,q⟩
 |ret u=>obtain⟨v,σ',H',I,r,q⟩:=h; exact⟨v,σ',H',I.unwish,r,q⟩
theorem fo.nox{st:List aH}{t:TS}(h:fo X.nox st t):fo X st t:=fun pins s σ H D I hw=>
 iq (h pins s σ H D (I.wish _) hw) (fun _ _ q=>q.unwish) fun _ _ z=>fK z
end
section
variable{X:Cx}{st:aH}{rest:List aH}{t u:TS}{e:aJ}{te:TE}{pos:Pos}
def Cv:TS:=fun D σ H=>D.nx σ H
def Cw(t u:TS):TS:=fun D σ H=>t {D with nx:=u D} σ H
theorem bE:fo X [] Cv:=fun _ _ σ H _ I h=>yi ⟨σ,H,I,h⟩
theorem aq(h1:PS X st t)(h2:fo X rest u):fo X (st::rest) (Cw t u):=by
 intro pins s σ H D I h;refine wpAny_execs_cons (aQ (h1 pins s σ H {D with nx:=u D} I h) fun f s1 q=>?_);cases f with
 |next=>
  obtain⟨σ',H',I',q⟩:=q;exact h2 pins s1 σ' H' D I' q
 |ret v=>exact q
 |brk=>exact q
 |cont=>exact q
theorem au(h1:PS X st t):fo X [st] t:=by
 intro pins s σ H D I h;refine wpAny_execs_cons (aQ (h1 pins s σ H D I h) fun f s1 q=>?_);cases f with
 |next=>exact yi q
 |ret v=>exact q
 |brk=>exact q
 |cont=>exact q
theorem Inv.quiet{pins:List (aa×Obj)}{σ:St}{H:Hp}{s:aj}(I:Inv X pins σ H s):interactive X.env=false:=by simp[interactive,I.ok.kind]
def Cs(te:TE):TS:=fun D σ H=>te σ H fun _ H1=>D.nx σ H1
theorem eC(he:PE X e te)(hs:nU e none pos.line X.env=pure false:=by rfl):PS X (.Expr e pos) (Cs te):=by
 intro pins s σ H D I h;exact wpAny_Expr_any (aQ (he pins s σ H _ I h) fun v s1⟨x,H1,I1,r1,q1⟩=>⟨σ,H1,I1,q1⟩) I.quiet hs
def uP(te:TE):TS:=fun D σ H=>te σ H D.rt
theorem aL(he:PE X e te):PS X (.Return (some e) pos) (uP te):=by
 intro pins s σ H D I h;exact wpAny_Return_some (aQ (he pins s σ H _ I h) fun v s1⟨x,H1,I1,r1,q1⟩=>⟨x,σ,H1,I1,r1,q1⟩)
def Wp:TS:=fun D _ H=>D.rt .non H
def Cu(c:TT)(t u:TS):TS:=fun D σ H=>c σ H fun b H1=>if b=true then t D σ H1 else u D σ H1
theorem bz{c:aJ}{a b:List aH}{tc:TT}(hc:PT X c tc)(ha:fo X a t)(hb:fo X b u):PS X (.If c a b pos) (Cu tc t u):=by
 intro pins s σ H D I h;refine wpAny_If (aQ (hc pins s σ H _ I h) fun d s1⟨H1,I1,q1⟩=>?_);cases d with
 |true=>exact ha pins s1 σ H1 D I1 q1
 |false=>exact hb pins s1 σ H1 D I1 q1
def KR:TS:=fun _ _ _=>False
theorem So:PS X st KR:=fun _ _ _ _ _ _ h=>h.elim
end
abbrev TG:=V->St->Hp->(St->Hp->Prop)->Prop
abbrev kj:=List V->St->Hp->(St->Hp->Prop)->Prop
def PG(X:Cx)(target:aJ)(t:TG):Prop:=
 ∀(pins:List (aa×Obj))(s:aj)(σ:St)(H:Hp)(v:V)(u:ae)(Q:St->Hp->Prop),Inv X pins σ H s->RelV v u->t v σ H Q->
  az (aB X.prog X.w) X.A (assign target X.env u) (fun _ s'=>∃σ' H',Inv X pins σ' H' s'/\Q σ' H') X.xe s
def sR(X:Cx)(ts:List aJ)(t:kj):Prop:=
 ∀(pins:List (aa×Obj))(s:aj)(σ:St)(H:Hp)(vs:List V)(us:List ae)(Q:St->Hp->Prop),Inv X pins σ H s->aS vs us->t vs σ H Q->
  az (aB X.prog X.w) X.A (assignInOrder ((qV ts X.env).map (·.2)) us) (fun _ s'=>∃σ' H',Inv X pins σ' H' s'/\Q σ' H') X.xe s
abbrev vU:=V->V->Hp->VK->Prop
def ze(X:Cx)(op:Operator)(t:vU):Prop:=
 ∀(pins:List (aa×Obj))(s:aj)(σ:St)(H:Hp)(x y:V)(v u:ae)(Q:VK),Inv X pins σ H s->RelV x v->RelV y u->t x y H Q->
  az (aB X.prog X.w) X.A (inplaceOp op v u) (EP X pins σ Q) X.xe s
section
variable{X:Cx}{pos:Pos}
def lr(i:Nat):TG:=fun v σ H Q=>Q (σ.set i (some v)) H
theorem Sh{i:Nat}{x:Str}(hN:X.N.Nodup)(hi:X.N[i]?=some x)(hx:Loc X.env.scope x)(hf:X.fn x=true\/X.env.scope.names.lookup x=some .local:=by first|exact .inl rfl|exact .inr rfl|assumption):PG X (.Name x pos) (lr i):=by
 intro pins s σ H v u Q I r h;exact Lp (Cj I hN hi hx r (fun s' I'=>⟨_,H,I',h⟩) hf)
def FH:kj:=fun vs σ H Q=>vs=[]/\Q σ H
def FG(t:TG)(u:kj):kj:=fun vs σ H Q=>∃v r,vs=v::r/\t v σ H fun σ' H'=>u r σ' H' Q
theorem nN:sR X [] FH:=by
 intro pins s σ H vs us Q I r h;obtain⟨e,h⟩:=h;subst e;cases r;exact assignInOrder_nil ⟨σ,H,I,h⟩
theorem hW{e:aJ}{es:List aJ}{t:TG}{u:kj}(h1:PG X e t)(h2:sR X es u)
  (hs:(qV (e::es) X.env).map (·.2)=assign e X.env::(qV es X.env).map (·.2):=by rfl):sR X (e::es) (FG t u):=by
 intro pins s σ H vs us Q I r h;obtain⟨v,vr,e1,h⟩:=h;subst e1;cases r with
 |cons r rr=>
  rw[hs];refine assignInOrder_cons (aQ (h1 pins s σ H _ _ _ I r h) fun _ s1⟨σ1,H1,I1,q1⟩=>?_);exact h2 pins s1 σ1 H1 _ _ Q I1 rr q1
def wK(K:aw)(n:Nat)(t:kj):TG:=fun v σ H Q=>∃a xs,v=.ref a/\bQ K H a xs/\xs.length=n/\t xs σ H Q
theorem nM{es:List aJ}{k:Nat}{t:kj}{n:Nat}(hc:X.calm=true)(h:sR X es t)
  (hn:(qV es X.env).length=n:=by rfl)(hst:(qV es X.env).findIdx? (·.1)=none:=by rfl):PG X (.Tuple es k pos) (wK X.K n t):=by
 intro pins s σ H v u Q I r hw;obtain⟨a,xs,e1,hq,hl,hw⟩:=hw;subst e1;cases r;obtain⟨its,rv,ht,hz⟩:=I.tuple hq;refine assign_Tuple_tuple (I.ok.hd hc) ht (by simp[hn,<-hl,rv.length]) hst fun h' hx=>?_;have I1:Inv X pins σ H {s with heap:=h'}:=I.kept (t':=s.toks) fun b o e=>hx b o (cJ (bO e)) e;exact h pins _ σ H xs _ Q I1 (by simpa using rv) hw
def uK(te:TE)(g:TG):TS:=fun D σ H=>te σ H fun x H1=>g x σ H1 D.nx
theorem Sq{i:Nat}{x:Str}{e:aJ}{te:TE}{pos':Pos}(hN:X.N.Nodup)(hi:X.N[i]?=some x)(hx:Loc X.env.scope x)(he:PE X e te)(hs:nU e (some (.Name x pos')) pos.line X.env=pure false:=by rfl)(hf:X.fn x=true\/X.env.scope.names.lookup x=some .local:=by first|exact .inl rfl|exact .inr rfl|assumption):
  PS X (.Assign [.Name x pos'] e pos) (uK te (lr i)):=by
 intro pins s σ H D I h;refine wpAny_Assign_Name (aQ (he pins s σ H _ I h) fun v s1⟨y,H1,I1,r1,q1⟩=>?_) hs;exact Cj I1 hN hi hx r1 (fun s2 I2=>⟨_,H1,I2,q1⟩) hf
def rW(i:Nat)(te:TE)(ti:vU):TS:=fun D σ H=>∃x,σ[i]?=some (some x)/\te σ H fun y H1=>ti x y H1 fun z H2=>D.nx (σ.set i (some z)) H2
theorem uo{i:Nat}{x:Str}{e:aJ}{te:TE}{op:Operator}{ti:vU}{pos':Pos}(hN:X.N.Nodup)(hi:X.N[i]?=some x)(hx:Loc X.env.scope x)(he:PE X e te)(ho:ze X op ti)(hf:X.fn x=true\/X.env.scope.names.lookup x=some .local:=by first|exact .inl rfl|exact .inr rfl|assumption):
  PS X (.AugAssign (.Name x pos') op e pos) (rW i te ti):=by
 intro pins s σ H D I h;obtain⟨v,e1,h⟩:=h;obtain⟨m,hn,hl⟩:=I.loc;have vis:qP X.env.scope x:=by rcases hx with k|k; exact .inl k; exact .inr (.inl k)
 obtain⟨u,r,l⟩:=hl i x v hi e1 vis;refine wpAny_AugAssign_Name ?_
 have go:az (aB X.prog X.w) X.A (bw e X.env) (fun w s₂=>az (aB X.prog X.w) X.A (inplaceOp op u w) (fun r s₃=>az (aB X.prog X.w) X.A (storeName X.env x r) (fun _=>SP X pins D .next) X.xe s₃) X.xe s₂) X.xe s:=by
  refine aQ (he pins s σ H _ I h) fun w s1⟨y,H1,I1,r1,q1⟩=>?_;refine aQ (ho pins s1 σ H1 v y u w _ I1 r r1 q1) fun z s2⟨zv,H2,I2,r2,q2⟩=>?_;exact Cj I2 hN hi hx r2 (fun s3 I3=>⟨_,H2,I3,q2⟩) hf
 rcases l with⟨hk,hm⟩|⟨hk,c,hc,hcell⟩
 ·exact Lr I.ok.kind hk hn hm go
 ·rcases hk with hk|hk
  ·exact WQ I.ok.kind hk hc hcell go
  ·rcases hx with k|k
   ·have:X.env.scope.names.lookup x=some .free:=hk;rw[k]at this; cases this
   ·have:X.env.scope.names.lookup x=some .free:=hk;rw[k]at this; cases this
def nG(f:Int->Int->Int):vU:=fun x y H Q=>∃i j,x=.int i/\y=.int j/\Q (.int (f i j)) H
theorem wR:ze X .Add (nG fun i j=>i+j):=by
 intro pins s σ H x y v u Q I r1 r2 h;obtain⟨i,j,e1,e2,q⟩:=h;subst e1; subst e2;obtain⟨t,rfl⟩:=r1;obtain⟨t',rfl⟩:=r2;exact iadd_int ⟨.int _,H,I.tok _,⟨_,rfl⟩,q⟩
theorem Oy:ze X .Sub (nG fun i j=>i-j):=by
 intro pins s σ H x y v u Q I r1 r2 h;obtain⟨i,j,e1,e2,q⟩:=h;subst e1; subst e2;obtain⟨t,rfl⟩:=r1;obtain⟨t',rfl⟩:=r2;exact isub_int ⟨.int _,H,I.tok _,⟨_,rfl⟩,q⟩
def Cz(c:TT)(tb:TS):TS:=fun D σ H=>∃W:Nat->St->Hp->Prop,(∃m,W m σ H)/\∀m σ H,W m σ H->
 c σ H fun b H1=>if b=true then∃N:St->Hp->Prop,(∀σ' H',N σ' H'->∃m',m'<m/\W m' σ' H')/\tb {D with nx:=N,ct:=N,bk:=D.nx} σ H1 else D.nx σ H1
theorem pT{c:aJ}{body:List aH}{tc:TT}{tb:TS}(hp:PassesOwn (aB X.prog X.w) X.A X.env X.xe)(hc:PT X c tc)(hb:fo X body tb):PS X (.While c body [] pos) (Cz tc tb):=by
 intro pins s σ H D I h;obtain⟨W,⟨m0,w0⟩,turn⟩:=h;refine wpAny_While (codeAny_whileLoop (fun n s'=>∃σ' H',Inv X pins σ' H' s'/\W n σ' H') ?_ m0 ⟨σ,H,I,w0⟩);rintro n s1 ⟨σ1,H1,I1,w1⟩;refine si hp (aQ (hc pins s1 σ1 H1 _ I1 (turn n σ1 H1 w1)) fun b s2⟨H2,I2,q2⟩=>?_);cases b with
 |true=>
  obtain⟨N,hN,q2⟩:=q2;rw[if_pos rfl];refine si hp (aQ (hb pins s2 σ1 H2 _ I2 q2) fun f s3 q3=>?_);cases f with
  |next=>
   obtain⟨σ3,H3,I3,n3⟩:=q3;obtain⟨m',hm,w3⟩:=hN σ3 H3 n3;exact⟨m',hm,σ3,H3,I3,w3⟩
  |cont=>
   obtain⟨σ3,H3,I3,n3⟩:=q3;obtain⟨m',hm,w3⟩:=hN σ3 H3 n3;exact⟨m',hm,σ3,H3,I3,w3⟩
  |brk=>exact q3
  |ret v=>exact q3
 |false=>
  rw[if_neg fz];exact yi ⟨σ1,H2,I2,q2⟩
end
structure It where
 go:Nat->Hp->Prop
 yld:Nat->Hp->V->Hp->Prop
 stop:Nat->Hp->Prop
def ia(X:Cx)(pins:List (aa×Obj))(H:Hp)(b:aa):Prop:=
 H b=none/\b≠X.env.locals/\b∉X.fs/\(b∈X.ex\/X.s_0.heap.objs.size<=b)/\(∀x c,X.env.cells.lookup x=some c->c≠b)/\∀p∈X.pn++pins,p.1≠b
theorem Inv.fpOk{X:Cx}{pins:List (aa×Obj)}{σ:St}{H H':Hp}{s:aj}{b:aa}(I:Inv X pins σ H s)(hb:s.heap.objs.size<=b)(hn:H' b=none):ia X pins H' b:=by
 refine⟨hn,qC (cW I.lt hb),I.nofs hb,.inr (dW I.sz hb),fun x c e z=>?_,fun p hp z=>?_⟩
 ·obtain⟨v,q⟩:=I.cell x c e;exact absurd (cW q.lt (by rw[z]; exact hb)) (ic _)
 ·exact absurd (cW (bO (I.pin p hp).1) (by rw[z]; exact hb)) (ic _)
structure vV(P:aO)(w:aN)(K:aw)(tg:aJ)(J:It)(fp:List aa)(it:aa)(tn:Nat->aC->Prop):Prop where
 mem:it∈fp
 obj:∀i h,tn i h->∀b∈fp,∃o,h.get? b=some o/\∀v,o.data≠.cell v
 keep:∀i h h',tn i h->(∀b∈fp,∀o,h.get? b=some o->h'.get? b=some o)->tn i h'
 item:∀(X:Cx),X.prog=P->X.w=w->X.K=K->X.calm=true->∀(i:Nat)(pins:List (aa×Obj))(s:aj)(σ:St)(H:Hp)(E:ae->aj->Prop),Inv X pins σ H s->(∀b∈fp,ia X pins H b)->tn i s.heap->J.go i H->
  az (aB P w) X.A (jO (.ref it)) (fun r s1=>∃u,r=some u/\
   az (aB P w) X.A (As tg (.ref it) u) (fun _ s2=>∃x H',Inv X pins σ H' s2/\RelV x u/\J.yld i H x H'/\tn (i+1) s2.heap/\∀b∈fp,H' b=none) E s1) E s
 done:∀(X:Cx),X.prog=P->X.w=w->X.K=K->X.calm=true->∀(i:Nat)(pins:List (aa×Obj))(s:aj)(σ:St)(H:Hp)(E:ae->aj->Prop),Inv X pins σ H s->(∀b∈fp,ia X pins H b)->tn i s.heap->J.stop i H->
  az (aB P w) X.A (jO (.ref it)) (fun r s1=>r=none/\Inv X pins σ H s1) E s
 self:∀(A:bJ)(i:Nat)(s:aj)(Q:ae->aj->Prop)(E:ae->aj->Prop),tn i s.heap->Q (.ref it) s->az (aB P w) A (pyIter (.ref it)) Q E s
abbrev TI:=St->Hp->(It->Hp->Prop)->Prop
def DJ(X:Cx)(pins:List (aa×Obj))(σ:St)(tg:aJ)(R:It->Hp->Prop)(itv:ae)(s2:aj):Prop:=
 ∃(it:aa)(fp:List aa)(tn:Nat->aC->Prop)(J:It)(H':Hp),itv=.ref it/\Inv X pins σ H' s2/\vV X.prog X.w X.K tg J fp it tn/\tn 0 s2.heap/\(∀b∈fp,ia X pins H' b)/\R J H'
def PI(X:Cx)(tg iter:aJ)(wi:TI):Prop:=
 ∀(pins:List (aa×Obj))(s:aj)(σ:St)(H:Hp)(R:It->Hp->Prop),Inv X pins σ H s->wi σ H R->
  az (aB X.prog X.w) X.A (bw iter X.env) (fun v s1=>az (aB X.prog X.w) X.A (pyIter v) (DJ X pins σ tg R) X.xe s1) X.xe s
theorem FL{M:Model}{A:bJ}{E:ae->aj->Prop}{s:aj}{tg:aJ}{it:aa}{u:ae}{o:Obj}{n:String}{vs:Array ae}{Q:Unit->aj->Prop}(ho:s.heap.get? it=some o)(hc:o.cls=.type n)(hd:o.data=.fields vs)
  (hn: ["enumerate","zip","dict_itemiterator","dict_reverseitemiterator","odict_iterator","itertools.zip_longest","itertools.pairwise"].contains n=false)(hQ:Q () s):az M A (As tg (.ref it) u) Q E s:=by
 unfold As
 cases tg<;>first
  |exact aU hQ
  |(cases u<;>first
    |exact aU hQ
    |(refine ay (wpAny_load ho ?_)
      rw[hc,hd];show az M A (if(["enumerate","zip","dict_itemiterator","dict_reverseitemiterator","odict_iterator","itertools.zip_longest","itertools.pairwise"].contains n&&vs[0]?==some (cb _))=true then _ else _) Q E s;rw[if_neg (by intro h; rw[hn,uX]at h; cases h)];exact aU hQ))
def lR(K:aw)(a:aa):It:=
 ⟨fun i H=>∃xs x,ak K H a xs/\xs[i]?=some x,fun i H x H'=>H'=H/\∀xs,ak K H a xs->xs[i]?=some x,fun i H=>∃xs,ak K H a xs/\xs.length<=i⟩
def kN(lo:Int)(n:Nat):It:=⟨fun i _=>i<n,fun i H x H'=>H'=H/\x=.int (lo+i),fun i _=>n<=i⟩
theorem Wz{P:aO}{w:aN}{K:aw}{tg:aJ}(a it:aa):vV P w K tg (lR K a) [it] it (fun i h=>h.IsListIter it a i) where
 mem:=by simp
 obj:=fun i h st b hb=>by
  have e:b=it:=by simpa using hb
  subst e;obtain⟨o,e,c,d⟩:=st;exact⟨o,e,fun v z=>by rw[d]at z; cases z⟩
 keep:=fun i h h' st k=>st.at fun o e=>k it (by simp) o e
 item:=by
  intro X hP hw hK hc i pins s σ H E I hf st hg;subst hP hw hK;obtain⟨xs,x,hq,hx⟩:=hg;obtain⟨its,rv,p,hz⟩:=I.list hq;obtain⟨u,hu,ru⟩:=rv.get hx;obtain⟨f0,f1,f2,f3,f4,f5⟩:=hf it (by simp);refine wpAny_pyNext_list_item st p.isList (x:=u) (by simpa using hu) fun h' st' sb=>?_;have I1:Inv X pins σ H {s with heap:=h'}:=I.turned (t':=s.toks) (fun b o hb e=>(sb.2 b hb).trans e) f0 f1 f3 f4 f5;obtain⟨o,e,c,d⟩:=id st';exact⟨u,rfl,FL (s:={s with heap:=h'}) e c d (by decide) ⟨x,H,I1,ru,⟨rfl,fun ys hy=>by rw[I.list_inj hy hq]; exact hx⟩,st',fun b hb=>(hf b hb).1⟩⟩
 done:=by
  intro X hP hw hK hc i pins s σ H E I hf st hg;subst hP hw hK;obtain⟨xs,hq,hx⟩:=hg;obtain⟨its,rv,p,hz⟩:=I.list hq;obtain⟨f0,f1,f2,f3,f4,f5⟩:=hf it (by simp);have hl:=rv.length;exact wpAny_pyNext_list_end (I.ok.hd hc) st p.isList (by simp; omega) fun h' eb=>⟨rfl,I.turned (t':=s.toks) (fun b o hb e=>eb b o hb e) f0 f1 f3 f4 f5⟩
 self:=fun _ _ _ _ _ st h=>wpAny_pyIter_listiter st h
theorem WA{P:aO}{w:aN}{K:aw}{tg:aJ}(it:aa)(lo:Int)(n:Nat):vV P w K tg (kN lo n) [it] it (fun i h=>IsRangeIter h it (lo+(i:Nat)*1) ((n:Int)-(i:Nat)) 1) where
 mem:=by simp
 obj:=fun i h st b hb=>by
  have e:b=it:=by simpa using hb
  subst e
  exact⟨_,st,fun v z=>by
   have z':Data.fields _=Data.cell v:=z;cases z'⟩
 keep:=fun i h h' st k=>k it (by simp) _ st
 item:=by
  intro X hP hw hK hc i pins s σ H E I hf st hg;subst hP hw hK;obtain⟨f0,f1,f2,f3,f4,f5⟩:=hf it (by simp);have W:=Walks.range (prog:=X.prog) (w:=X.w) (I.ok.hd hc) it lo 1 n;refine W.item i s _ _ hg st fun v h' tk hv st' kk=>?_;obtain⟨t,rfl⟩:=hv;have I1:Inv X pins σ H {s with heap:=h',toks:=tk}:=I.turned (fun b o hb e=>kk b o (by simpa using hb) e) f0 f1 f3 f4 f5;refine⟨_,rfl,FL (s:={s with heap:=h',toks:=tk}) (n:="range_iterator") st' rfl rfl (by decide) ⟨.int (lo+i),H,I1,⟨t,?_⟩,⟨rfl,rfl⟩,st',fun b hb=>(hf b hb).1⟩⟩;rw[Int.mul_one]
 done:=by
  intro X hP hw hK hc i pins s σ H E I hf st hg;subst hP hw hK;obtain⟨f0,f1,f2,f3,f4,f5⟩:=hf it (by simp);exact wpAny_pyNext_range_end (I.ok.hd hc) st (by have:n<=i:=hg; omega) fun h' eb=>⟨rfl,I.turned (t':=s.toks) (fun b o hb e=>eb b o hb e) f0 f1 f3 f4 f5⟩
 self:=fun _ _ _ _ _ st h=>wpAny_pyIter_rangeiter st h
section
variable{X:Cx}{tg:aJ}
def FR(K:aw)(tl:TE):TI:=fun σ H R=>tl σ H fun x H1=>∃a,x=.ref a/\(∃xs,ak K H1 a xs)/\R (lR K a) H1
theorem dt{l:aJ}{tl:TE}(hl:PE X l tl):PI X tg l (FR X.K tl):=by
 intro pins s σ H R I h;refine aQ (hl pins s σ H _ I h) fun v s1⟨x,H1,I1,r1,q1⟩=>?_;obtain⟨a,e,⟨xs,hq⟩,q⟩:=q1;subst e;cases r1;obtain⟨its,rv,p,hz⟩:=I1.list hq;refine Lu p.isList ?_;refine⟨s1.heap.objs.size,[s1.heap.objs.size],_,_,H1,rfl,I1.kept (t':=s1.toks) fun b o e=>bS _ e,Wz a _,⟨_,dz _ rfl,rfl,rfl⟩,fun b hb=>?_,q⟩;have e:b=s1.heap.objs.size:=by simpa using hb
 subst e;exact I1.fpOk (aF _) (I1.hok.fresh (aF _))
theorem Ui{pins:List (aa×Obj)}{σ:St}{H:Hp}{s:aj}{R:It->Hp->Prop}{E:ae->aj->Prop}{lo hi:Int}{t u v:Tok}{tk:Nat}(I:Inv X pins σ H s)(h1: -(2^62)<=lo)(h2:lo<2^62)(h3: -(2^62)<=hi)(h4:hi<2^62)
  (q:R (kN lo (hi-lo).toNat) H):az (aB X.prog X.w) X.A (pyIter (.ref s.heap.objs.size)) (DJ X pins σ tg R) E {s with heap:=s.heap.push {cls:=.type "range",data:=.fields #[.int lo t,.int hi u,.int 1 v]},toks:=tk}:=by
 refine wpAny_pyIter_range (IsRange.new ..) (small_one h1 h2 h3 h4) ?_;have I1:Inv X pins σ H {s with heap:=s.heap.push {cls:=.type "range",data:=.fields #[.int lo t,.int hi u,.int 1 v]},toks:=tk}:=I.kept fun b o e=>bS _ e
 refine⟨(s.heap.push {cls:=.type "range",data:=.fields #[.int lo t,.int hi u,.int 1 v]}).objs.size,[(s.heap.push {cls:=.type "range",data:=.fields #[.int lo t,.int hi u,.int 1 v]}).objs.size],_,_,H,rfl,
  I1.kept (t':=tk) fun b o e=>bS _ e,WA _ lo (hi-lo).toNat,?_,fun b hb=>?_,q⟩
 ·have e1:lo+((0:Nat):Int)*1=lo:=by simp
  have e2:(((hi-lo).toNat:Nat):Int)-((0:Nat):Int)=LA lo hi 1:=by rw[rangeSize_one]; split<;>omega
  show IsRangeIter _ _ (lo+((0:Nat):Int)*1) ((((hi-lo).toNat:Nat):Int)-((0:Nat):Int)) 1;rw[e1,e2];exact dz _ rfl
 ·have e:b=(s.heap.push {cls:=.type "range",data:=.fields #[.int lo t,.int hi u,.int 1 v]}).objs.size:=by simpa using hb
  subst e;exact I1.fpOk (aF _) (I1.hok.fresh (aF _))
def FS(ta:TA):TI:=fun σ H R=>ta σ H fun vs H1=>∃j:Int,vs=[.int j]/\ -(2^62)<=j/\j<2^62/\R (kN 0 j.toNat) H1
theorem Sj{a:aJ}{ta:TA}{p pos:Pos}(hg:Gl X "range")(hm:X.mg "range"=none)(ha:PA X [a] ta)(hs:bN [a] X.env=[(false,bw a X.env)]:=by rfl):PI X tg (.Call (.Name "range" p) [a] [] pos) (FS ta):=by
 intro pins s σ H R I h;refine Call_ (rq I hg hm boot_range (zg (aQ (ha pos pins s σ H _ I h) fun us s1⟨vs,H1,I1,r1,q1⟩=>?_) hs rfl));obtain⟨j,e,q1,q2,q⟩:=q1;subst e;cases r1 with
 |cons r rr=>
  cases rr;obtain⟨t,rfl⟩:=r;exact call_range_1 (Ui I1 (by omega) (by omega) q1 q2 (by simpa using q))
def KN(wi:TI)(g:TG)(tb:TS):TS:=fun D σ H=>wi σ H fun J H1=>∃W:Nat->Nat->St->Hp->Prop,(∃m,W 0 m σ H1)/\∀i m σ H,W i m σ H->
 (J.stop i H/\D.nx σ H)\/(J.go i H/\∃N:St->Hp->Prop,(∀σ' H',N σ' H'->∃m',m'<m/\W (i+1) m' σ' H')/\∀x H',J.yld i H x H'->g x σ H' fun σ2 H2=>tb {D with nx:=N,ct:=N,bk:=D.nx} σ2 H2)
def nP(fp:List aa)(h:aC):List (aa×Obj):=fp.filterMap fun b=>(h.get? b).map fun o=>(b,o)
theorem ub{fp:List aa}{h:aC}{b:aa}{o:Obj}(hb:b∈fp)(e:h.get? b=some o):(b,o)∈nP fp h:=kP.mpr ⟨b,hb,by rw[e]; rfl⟩
theorem Qt{fp:List aa}{h:aC}{p:aa×Obj}(hp:p∈nP fp h):p.1∈fp/\h.get? p.1=some p.2:=by
 obtain⟨b,hb,e⟩:=kP.mp hp;cases q:h.get? b with
 |none=>rw[q]at e; cases e
 |some o=>
  rw[q]at e;have e':(b,o)=p:=eE e;subst e';exact⟨hb,q⟩
theorem Inv.pinned{pins:List (aa×Obj)}{σ:St}{H:Hp}{s:aj}{fp:List aa}(I:Inv X pins σ H s)(hf:∀b∈fp,ia X pins H b)(ho:∀b∈fp,∃o,s.heap.get? b=some o/\∀v,o.data≠.cell v):Inv X (pins++nP fp s.heap) σ H s:=
 I.pins_of fun p hp=>(cj.mp hp).elim (fun z=>I.pin p (dC _ z)) fun z=>by
  obtain⟨hb,e⟩:=Qt z;obtain⟨f0,f1,f2,_⟩:=hf p.1 hb;obtain⟨o,e',d⟩:=ho p.1 hb;rw[e]at e'; cases e';exact⟨e,f0,f1,f2,d⟩
theorem Inv.unpinned{pins pl:List (aa×Obj)}{σ:St}{H:Hp}{s:aj}(I:Inv X (pins++pl) σ H s):Inv X pins σ H s:=I.pins_of fun p hp=>I.pin p (dC _ (dn _ hp))
theorem fX{iter:aJ}{body:List aH}{wi:TI}{g:TG}{tb:TS}{pos:Pos}(hp:PassesOwn (aB X.prog X.w) X.A X.env X.xe)(hc:X.calm=true)(hi:PI X tg iter wi)(hg:PG X tg g)(hb:fo X body tb)
  (hs:∀x,tO iter X.env x=pure x:=by intro _; rfl):PS X (.For tg iter body [] pos) (KN wi g tb):=by
 intro pins s σ H D I h;refine wpAny_For (aQ (hi pins s σ H _ I h) fun v s1 h1=>aQ h1 fun itv s2 h2=>?_) hs;obtain⟨it,fp,tn,J,H2,e,I2,T,st2,f2,W,⟨m0,w0⟩,turn⟩:=h2;subst e;have stat:∀{H':Hp},(∀b∈fp,H' b=none)->∀b∈fp,ia X pins H' b:=fun hn b hb=>⟨hn b hb,(f2 b hb).2⟩;refine codeAny_forLoop_any (fun n s'=>∃i σ' H',Inv X pins σ' H' s'/\tn i s'.heap/\(∀b∈fp,H' b=none)/\W i n σ' H') ?_ m0 ⟨0,σ,H2,I2,st2,fun b hb=>(f2 b hb).1,w0⟩;rintro n s3 ⟨i,σ3,H3,I3,st3,fr3,w3⟩;rcases turn i n σ3 H3 w3 with⟨stop,qn⟩|⟨go,N,hN,step⟩
 ·refine si hp (aQ (T.done X rfl rfl rfl hc i pins s3 σ3 H3 X.xe I3 (stat fr3) st3 stop) fun r s4⟨hr,I4⟩=>?_);subst hr;exact yi ⟨σ3,H3,I4,qn⟩
 ·refine si hp (aQ (T.item X rfl rfl rfl hc i pins s3 σ3 H3 X.xe I3 (stat fr3) st3 go) fun r s4⟨u,hr,h4⟩=>?_);subst hr;refine si hp (aQ h4 fun _ s5⟨x,H5,I5,r5,y5,st5,fr5⟩=>?_);have I5':=I5.pinned (stat fr5) (T.obj _ _ st5);refine si hp (aQ (hg _ s5 σ3 H5 x u _ I5' r5 (step x H5 y5)) fun _ s6⟨σ6,H6,I6,q6⟩=>?_);refine si hp (aQ (hb _ s6 σ6 H6 _ I6 q6) fun f s7 q7=>?_)
  have again:∀{σ7:St}{H7:Hp},Inv X (pins++nP fp s5.heap) σ7 H7 s7->N σ7 H7->∃m,m<n/\∃i σ' H',Inv X pins σ' H' s7/\tn i s7.heap/\(∀b∈fp,H' b=none)/\W i m σ' H':=fun{σ7 H7} I7 n7=>by
   obtain⟨m',hm,w7⟩:=hN σ7 H7 n7;refine⟨m',hm,i+1,σ7,H7,I7.unpinned,T.keep _ _ _ st5 fun b hb o e=>(I7.pin (b,o) (dC _ (dC _ (ub hb e)))).1,fun b hb=>?_,w7⟩;obtain⟨o,e,d⟩:=T.obj _ _ st5 b hb;exact(I7.pin (b,o) (dC _ (dC _ (ub hb e)))).2.1
  cases f with
  |next=>obtain⟨σ7,H7,I7,n7⟩:=q7; exact again I7 n7
  |cont=>obtain⟨σ7,H7,I7,n7⟩:=q7; exact again I7 n7
  |brk=>obtain⟨σ7,H7,I7,q7⟩:=q7; exact⟨σ7,H7,I7.unpinned,q7⟩
  |ret v=>obtain⟨x7,σ7,H7,I7,r7,q7⟩:=q7; exact⟨x7,σ7,H7,I7.unpinned,r7,q7⟩
end
theorem Oj{K:aw}{a:aa}{xs:List V}{g:TG}{tb:TS}{D:iy}{σ:St}{H:Hp}(Pv:Nat->St->Hp->Prop)(h0:Pv 0 σ H)(hl:∀i σ H,i<=xs.length->Pv i σ H->ak K H a xs)
  (hs:∀i x σ H,xs[i]?=some x->Pv i σ H->g x σ H fun σ2 H2=>tb {D with nx:=Pv (i+1),ct:=Pv (i+1),bk:=D.nx} σ2 H2)(hd:∀σ H,Pv xs.length σ H->D.nx σ H):
  ∃W:Nat->Nat->St->Hp->Prop,(∃m,W 0 m σ H)/\∀i m σ H,W i m σ H->
   ((lR K a).stop i H/\D.nx σ H)\/((lR K a).go i H/\∃N:St->Hp->Prop,(∀σ' H',N σ' H'->∃m',m'<m/\W (i+1) m' σ' H')/\∀x H',(lR K a).yld i H x H'->g x σ H' fun σ2 H2=>tb {D with nx:=N,ct:=N,bk:=D.nx} σ2 H2):=by
 refine⟨fun i m σ H=>m=xs.length-i/\i<=xs.length/\Pv i σ H,⟨xs.length,by simp,bC _,h0⟩,?_⟩;rintro i m σ H ⟨rfl,hi,p⟩;have q:=hl i σ H hi p;by_cases hlt:i<xs.length
 ·refine .inr ⟨⟨xs,xs[i],q,by simp[hlt]⟩,Pv (i+1),fun σ' H' p'=>⟨xs.length-(i+1),by omega,rfl,hlt,p'⟩,fun x H' y=>?_⟩;obtain⟨e,y⟩:=y;subst e;exact hs i x σ _ (y xs q) p
 ·have e:i=xs.length:=by omega
  subst e;exact .inl ⟨⟨xs,q,aF _⟩,hd σ H p⟩
theorem Ol{lo:Int}{n:Nat}{g:TG}{tb:TS}{D:iy}{σ:St}{H:Hp}(Pv:Nat->St->Hp->Prop)(h0:Pv 0 σ H)
  (hs:∀i σ H,i<n->Pv i σ H->g (.int (lo+i)) σ H fun σ2 H2=>tb {D with nx:=Pv (i+1),ct:=Pv (i+1),bk:=D.nx} σ2 H2)(hd:∀σ H,Pv n σ H->D.nx σ H):
  ∃W:Nat->Nat->St->Hp->Prop,(∃m,W 0 m σ H)/\∀i m σ H,W i m σ H->
   ((kN lo n).stop i H/\D.nx σ H)\/((kN lo n).go i H/\∃N:St->Hp->Prop,(∀σ' H',N σ' H'->∃m',m'<m/\W (i+1) m' σ' H')/\∀x H',(kN lo n).yld i H x H'->g x σ H' fun σ2 H2=>tb {D with nx:=N,ct:=N,bk:=D.nx} σ2 H2):=by
 refine⟨fun i m σ H=>m=n-i/\i<=n/\Pv i σ H,⟨n,by simp,bC _,h0⟩,?_⟩;rintro i m σ H ⟨rfl,hi,p⟩;by_cases hlt:i<n
 ·refine .inr ⟨hlt,Pv (i+1),fun σ' H' p'=>⟨n-(i+1),by omega,rfl,hlt,p'⟩,fun x H' y=>?_⟩;obtain⟨e,y⟩:=y;subst e y;exact hs i σ _ hlt p
 ·have e:i=n:=by omega
  subst e;exact .inl ⟨aF _,hd σ H p⟩
abbrev R2:=V->V->Hp->VK->Prop
def dr(X:Cx)(f:ae->ae->Sem ae)(r:R2):Prop:=
 ∀(pins:List (aa×Obj))(s:aj)(σ:St)(H:Hp)(x y:V)(v u:ae)(Q:VK),Inv X pins σ H s->RelV x v->RelV y u->r x y H Q->
  az (aB X.prog X.w) X.A (f v u) (EP X pins σ Q) X.xe s
def zx(X:Cx)(f:ae->Sem ae)(r:V->Hp->VK->Prop):Prop:=
 ∀(pins:List (aa×Obj))(s:aj)(σ:St)(H:Hp)(x:V)(v:ae)(Q:VK),Inv X pins σ H s->RelV x v->r x H Q->
  az (aB X.prog X.w) X.A (f v) (EP X pins σ Q) X.xe s
def jq(X:Cx)(f:ae)(r:List V->Hp->VK->Prop):Prop:=
 ∀(pins:List (aa×Obj))(s:aj)(σ:St)(H:Hp)(xs:List V)(us:List ae)(Q:VK),Inv X pins σ H s->aS xs us->r xs H Q->
  az (aB X.prog X.w) X.A (call f us) (EP X pins σ Q) X.xe s
def uO(r:R2)(ta tb:TE):TE:=fun σ H Q=>ta σ H fun x H1=>tb σ H1 fun y H2=>r x y H2 Q
def Le(r:V->Hp->VK->Prop)(ta:TE):TE:=fun σ H Q=>ta σ H fun x H1=>r x H1 Q
def rI(C:Int->Int->Prop)(g:Int->Int->V):R2:=fun x y H Q=>∃i j,x=.int i/\y=.int j/\C i j/\Q (g i j) H
def jP(g:Int->Int->V):R2:=fun x y H Q=>∃i j,x=.int i/\y=.int j/\Q (g i j) H
def rU(g:Int->V):V->Hp->VK->Prop:=fun x H Q=>∃i,x=.int i/\Q (g i) H
section
variable{X:Cx}{a b c:aJ}{ta tb tc:TE}{pos:Pos}
theorem zG(ha:PE X a ta)(hb:PE X b tb){pins:List (aa×Obj)}{s:aj}{σ:St}{H:Hp}{R:V->V->Hp->Prop}(I:Inv X pins σ H s)
  (h:ta σ H fun x H1=>tb σ H1 fun y H2=>R x y H2){Q:ae->aj->Prop}{f:ae->ae->Sem ae}
  (hf:∀v u s2 x y H2,Inv X pins σ H2 s2->RelV x v->RelV y u->R x y H2->az (aB X.prog X.w) X.A (f v u) Q X.xe s2):
  az (aB X.prog X.w) X.A (bw a X.env) (fun v s₁=>az (aB X.prog X.w) X.A (bw b X.env) (fun u s₂=>az (aB X.prog X.w) X.A (f v u) Q X.xe s₂) X.xe s₁) X.xe s:=by
 refine aQ (ha pins s σ H _ I h) fun v s1⟨x,H1,I1,r1,q1⟩=>?_;refine aQ (hb pins s1 σ H1 _ I1 q1) fun u s2⟨y,H2,I2,r2,q2⟩=>?_;exact hf v u s2 x y H2 I2 r1 r2 q2
theorem bb{op:Operator}{r:R2}(ho:dr X (nz op) r)(ha:PE X a ta)(hb:PE X b tb):PE X (.BinOp a op b pos) (uO r ta tb):=by
 intro pins s σ H Q I h;exact wpAny_BinOp (zG ha hb I h fun v u s2 x y H2 I2 rx ry q=>ho pins s2 σ H2 x y v u Q I2 rx ry q)
theorem gP{op:UnaryOp}{r:V->Hp->VK->Prop}(ho:zx X (unaryOp op) r)(ha:PE X a ta):PE X (.UnaryOp op a pos) (Le r ta):=by
 intro pins s σ H Q I h;exact UnaryOp_ (aQ (ha pins s σ H _ I h) fun v s1⟨x,H1,I1,r1,q1⟩=>ho pins s1 σ H1 x v Q I1 r1 q1)
theorem Hr{f:ae->ae->Sem ae}{C:Int->Int->Prop}{g:Int->Int->Int}
  (rule:∀(i j:Int)(t u:Tok)(s:aj)(Q:ae->aj->Prop)(E:ae->aj->Prop),C i j->Q (.int (g i j) s.toks) {s with toks:=s.toks+1}->az (aB X.prog X.w) X.A (f (.int i t) (.int j u)) Q E s):
  dr X f (rI C fun i j=>.int (g i j)):=by
 intro pins s σ H x y v u Q I rx ry h;obtain⟨i,j,rfl,rfl,hc,q⟩:=h;obtain⟨t,rfl⟩:=rx;obtain⟨t',rfl⟩:=ry;exact rule i j t t' s _ _ hc ⟨.int (g i j),H,I.tok _,⟨_,rfl⟩,q⟩
theorem uh{f:ae->ae->Sem ae}{g:Int->Int->Int}
  (rule:∀(i j:Int)(t u:Tok)(s:aj)(Q:ae->aj->Prop)(E:ae->aj->Prop),Q (.int (g i j) s.toks) {s with toks:=s.toks+1}->az (aB X.prog X.w) X.A (f (.int i t) (.int j u)) Q E s):
  dr X f (jP fun i j=>.int (g i j)):=by
 intro pins s σ H x y v u Q I rx ry h;obtain⟨i,j,rfl,rfl,q⟩:=h;obtain⟨t,rfl⟩:=rx;obtain⟨t',rfl⟩:=ry;exact rule i j t t' s _ _ ⟨.int (g i j),H,I.tok _,⟨_,rfl⟩,q⟩
theorem xn{f:ae->ae->Sem ae}{g:Int->Int->Bool}
  (rule:∀(i j:Int)(t u:Tok)(s:aj)(Q:ae->aj->Prop)(E:ae->aj->Prop),Q (.bool (g i j)) s->az (aB X.prog X.w) X.A (f (.int i t) (.int j u)) Q E s):
  dr X f (jP fun i j=>.bl (g i j)):=by
 intro pins s σ H x y v u Q I rx ry h;obtain⟨i,j,rfl,rfl,q⟩:=h;obtain⟨t,rfl⟩:=rx;obtain⟨t',rfl⟩:=ry;exact rule i j t t' s _ _ ⟨.bl (g i j),H,I,rfl,q⟩
theorem WB(k:Nat):(0:Int)<=2^k:=by
 rw[two_pow_cast];exact Int.natCast_nonneg _
theorem dP:dr X (nz .Add) (jP fun i j=>.int (i+j)):=uh fun _ _ _ _ _ _ _ q=>add_int q
theorem rJ:dr X (nz .Sub) (jP fun i j=>.int (i-j)):=uh fun _ _ _ _ _ _ _ q=>sub_int q
theorem uk:dr X (nz .RShift) (rI (fun _ j=>0<=j) fun i j=>.int (i / 2^j.toNat)):=Hr fun i j _ _ _ _ _ hc q=>
 rshift_int hc (by rw[Int.fdiv_eq_ediv_of_nonneg i (WB _)]; exact q)
theorem jI:dr X (nz .BitAnd) (jP fun i j=>.int (vb i j)):=uh fun _ _ _ _ _ _ _ q=>and_int q
theorem xp:dr X (nz .BitOr) (jP fun i j=>.int (Builtin.bitOr i j)):=uh fun _ _ _ _ _ _ _ q=>or_int q
theorem Bj:dr X (nz .BitXor) (jP fun i j=>.int (CY i j)):=uh fun _ _ _ _ _ _ _ q=>xor_int q
theorem WC{f:ae->Sem ae}{g:Int->Int}
  (rule:∀(i:Int)(t:Tok)(s:aj)(Q:ae->aj->Prop)(E:ae->aj->Prop),Q (.int (g i) s.toks) {s with toks:=s.toks+1}->az (aB X.prog X.w) X.A (f (.int i t)) Q E s):
  zx X f (rU fun i=>.int (g i)):=by
 intro pins s σ H x v Q I rx h;obtain⟨i,rfl,q⟩:=h;obtain⟨t,rfl⟩:=rx;exact rule i t s _ _ ⟨.int (g i),H,I.tok _,⟨_,rfl⟩,q⟩
theorem gQ:zx X (unaryOp .USub) (rU fun i=>.int (-i)):=WC fun _ _ _ _ _ q=>neg_int q
end
def JJ:V->V->Bool
 |.non,.non=>true|.non,.int _=>true|.int _,.non=>true|.non,.bl _=>true|.bl _,.non=>true|.non,.str _=>true|.str _,.non=>true
 |.int _,.int _=>true|.bl _,.bl _=>true|.str _,.str _=>true|.byt _,.byt _=>true
 |.int _,.str _=>true|.str _,.int _=>true|.bl _,.str _=>true|.str _,.bl _=>true
 |_,_=>false
def nR:R2:=fun x y H Q=>JJ x y=true/\Q (.bl (decide (x=y))) H
def BK:R2:=fun x y H Q=>JJ x y=true/\Q (.bl (!decide (x=y))) H
theorem Fc{i j:Int}:decide (V.int i=V.int j)=(i==j):=by
 rw[mS];simp
theorem EZ{i j:Bool}:decide (V.bl i=V.bl j)=(i==j):=by
 rw[mS];simp
theorem Fd{i j:Str}:decide (V.str i=V.str j)=(i==j):=by
 rw[mS];simp
theorem Fb{i j:Array UInt8}:decide (V.byt i=V.byt j)=(i.toList==j.toList):=by
 rw[mS];cases i;cases j;simp
section
variable{X:Cx}{a b c:aJ}{ta tb tc:TE}{pos:Pos}
theorem cY{pins:List (aa×Obj)}{σ:St}{H:Hp}{s:aj}{Q:VK}{k k':Bool}(I:Inv X pins σ H s)(q:Q (.bl k) H)(e:k=k'):EP X pins σ Q (.bool k') s:=by
 subst e;exact⟨.bl k,H,I,rfl,q⟩
theorem eB:dr X (fG .Eq) nR:=by
 intro pins s σ H x y v u Q I rx ry h;obtain⟨hs,q⟩:=h;cases x with
 |non=>
  cases rx;cases y with
  |non=>cases ry; exact PySem.EqNone.eq_none_none (cY I q (by simp))
  |bl j=>cases ry; exact PySem.EqNone.eq_none_bool (cY I q (by simp))
  |int j=>obtain⟨t',rfl⟩:=ry; exact PySem.EqNone.eq_none_int (cY I q (by simp))
  |str j=>obtain⟨t',rfl⟩:=ry; exact PySem.EqNone.eq_none_str (cY I q (by simp))
  |_=>exact absurd (show false=true from hs) fz
 |bl i=>
  cases rx;cases y with
  |non=>cases ry; exact PySem.EqNone.eq_bool_none (cY I q (by simp))
  |bl j=>cases ry; exact eq_bool (cY I q EZ)
  |str j=>obtain⟨t',rfl⟩:=ry; exact PySem.EqMixed.eq_bool_str (cY I q (by simp))
  |_=>exact absurd (show false=true from hs) fz
 |int i=>
  obtain⟨t,rfl⟩:=rx;cases y with
  |non=>cases ry; exact PySem.EqNone.eq_int_none (cY I q (by simp))
  |int j=>obtain⟨t',rfl⟩:=ry; exact eq_int (cY I q Fc)
  |str j=>obtain⟨t',rfl⟩:=ry; exact PySem.EqMixed.eq_int_str (cY I q (by simp))
  |_=>exact absurd (show false=true from hs) fz
 |str i=>
  obtain⟨t,rfl⟩:=rx;cases y with
  |non=>cases ry; exact PySem.EqNone.eq_str_none (cY I q (by simp))
  |bl j=>cases ry; exact PySem.EqMixed.eq_str_bool (cY I q (by simp))
  |int j=>obtain⟨t',rfl⟩:=ry; exact PySem.EqMixed.eq_str_int (cY I q (by simp))
  |str j=>obtain⟨t',rfl⟩:=ry; exact eq_str (cY I q Fd)
  |_=>exact absurd (show false=true from hs) fz
 |byt i=>
  obtain⟨t,rfl⟩:=rx;cases y with
  |byt j=>obtain⟨t',rfl⟩:=ry; exact PySem.W.eq_bytes (cY I q Fb)
  |_=>exact absurd (show false=true from hs) fz
 |_=>cases y<;>exact absurd (show false=true from hs) fz
theorem uj:dr X (fG .NotEq) BK:=by
 intro pins s σ H x y v u Q I rx ry h;obtain⟨hs,q⟩:=h;cases x with
 |non=>
  cases rx;cases y with
  |non=>cases ry; exact PySem.EqNone.ne_none_none (cY I q (by simp))
  |bl j=>cases ry; exact PySem.EqNone.ne_none_bool (cY I q (by simp))
  |int j=>obtain⟨t',rfl⟩:=ry; exact PySem.EqNone.ne_none_int (cY I q (by simp))
  |str j=>obtain⟨t',rfl⟩:=ry; exact PySem.EqNone.ne_none_str (cY I q (by simp))
  |_=>exact absurd (show false=true from hs) fz
 |bl i=>
  cases rx;cases y with
  |non=>cases ry; exact PySem.EqNone.ne_bool_none (cY I q (by simp))
  |bl j=>cases ry; exact ne_bool (cY I q (congrArg not EZ))
  |str j=>obtain⟨t',rfl⟩:=ry; exact PySem.EqMixed.ne_bool_str (cY I q (by simp))
  |_=>exact absurd (show false=true from hs) fz
 |int i=>
  obtain⟨t,rfl⟩:=rx;cases y with
  |non=>cases ry; exact PySem.EqNone.ne_int_none (cY I q (by simp))
  |int j=>obtain⟨t',rfl⟩:=ry; exact ne_int (cY I q (congrArg not Fc))
  |str j=>obtain⟨t',rfl⟩:=ry; exact PySem.EqMixed.ne_int_str (cY I q (by simp))
  |_=>exact absurd (show false=true from hs) fz
 |str i=>
  obtain⟨t,rfl⟩:=rx;cases y with
  |non=>cases ry; exact PySem.EqNone.ne_str_none (cY I q (by simp))
  |bl j=>cases ry; exact PySem.EqMixed.ne_str_bool (cY I q (by simp))
  |int j=>obtain⟨t',rfl⟩:=ry; exact PySem.EqMixed.ne_str_int (cY I q (by simp))
  |str j=>obtain⟨t',rfl⟩:=ry; exact ne_str (cY I q (congrArg not Fd))
  |_=>exact absurd (show false=true from hs) fz
 |byt i=>
  obtain⟨t,rfl⟩:=rx;cases y with
  |byt j=>obtain⟨t',rfl⟩:=ry; exact PySem.W.ne_bytes (cY I q (congrArg not Fb))
  |_=>exact absurd (show false=true from hs) fz
 |_=>cases y<;>exact absurd (show false=true from hs) fz
theorem pN:dr X (fG .Lt) (jP fun i j=>.bl (decide (i<j))):=xn fun _ _ _ _ _ _ _ q=>lt_int q
theorem Bg:dr X (fG .LtE) (jP fun i j=>.bl (decide (i<=j))):=xn fun _ _ _ _ _ _ _ q=>le_int q
theorem mG:dr X (fG .Gt) (jP fun i j=>.bl (decide (j<i))):=xn fun _ _ _ _ _ _ _ q=>gt_int q
theorem ui:dr X (fG .GtE) (jP fun i j=>.bl (decide (j<=i))):=xn fun _ _ _ _ _ _ _ q=>ge_int q
theorem Bf:dr X (fG .Is) (fun x y H Q=>y=.non/\Q (.bl (decide (x=.non))) H):=by
 intro pins s σ H x y v u Q I rx ry h;obtain⟨rfl,q⟩:=h;cases ry;refine is_none_gen (cY I q ?_)
 cases x<;>first
  |(cases rx; rfl)
  |(obtain⟨t,rfl⟩:=rx; rfl)
theorem Bi:dr X (fG .IsNot) (fun x y H Q=>y=.non/\Q (.bl (!decide (x=.non))) H):=by
 intro pins s σ H x y v u Q I rx ry h;obtain⟨rfl,q⟩:=h;cases ry;refine isnot_none_gen (cY I q ?_)
 cases x<;>first
  |(cases rx; rfl)
  |(obtain⟨t,rfl⟩:=rx; rfl)
theorem bp(b:aJ){op:CmpOp}(h:op≠.In:=by decide)(h2:op≠.NotIn:=by decide):wj op b=false:=by
 have e1:(op==CmpOp.In)=false:=by cases op<;>first|rfl|exact absurd rfl h
 have e2:(op==CmpOp.NotIn)=false:=by cases op<;>first|rfl|exact absurd rfl h2
 cases b<;>simp[wj,e1,e2]
theorem fJ{op:CmpOp}{r:R2}(ho:dr X (fG op) r)(ha:PE X a ta)(hb:PE X b tb)(hm:wj op b=false):PE X (.Compare a [op] [b] pos) (uO r ta tb):=by
 intro pins s σ H Q I h;exact wpAny_Compare1 (zG ha hb I h fun v u s2 x y H2 I2 rx ry q=>ho pins s2 σ H2 x y v u Q I2 rx ry q) hm
def Cy(t:TE):TT:=fun σ H Q=>t σ H fun x H'=>∃k,x=.bl k/\Q k H'
theorem bI{op:CmpOp}{r:R2}(ho:dr X (fG op) r)(ha:PE X a ta)(hb:PE X b tb)(hm:wj op b=false):PT X (.Compare a [op] [b] pos) (Cy (uO r ta tb)):=by
 intro pins s σ H Q I h
 refine WO (aQ (ha pins s σ H _ I h) fun v s1⟨x,H1,I1,r1,q1⟩=>aQ (hb pins s1 σ H1 _ I1 q1) fun u s2⟨y,H2,I2,r2,q2⟩=>
  aQ (ho pins s2 σ H2 x y v u _ I2 r1 r2 q2) fun c s3⟨z,H3,I3,r3,k,e,q3⟩=>?_) hm
 subst e;cases r3;exact uU ⟨H3,I3,q3⟩
theorem wW:(aY:Nat)<2^63:=by rw[rS]; decide
theorem vals1{x:V}{us:List ae}(r:aS [x] us):∃u,us=[u]/\RelV x u:=by
 cases r with
 |cons r1 r2=>cases r2; exact⟨_,rfl,r1⟩
end
structure oI(h:aC)(x dx C:aa)(mA:Str->Option ae):Prop where
 obj:h.get? x=some (oO C dx)
 ns:h.Ns1 dx mA
 ne:dx≠x
theorem Pl{h:aC}{dx:aa}{mA:Str->Option ae}(n:h.Ns1 dx mA):∃od,h.get? dx=some od/\∀name,zo name od=some (mA name):=by
 obtain⟨o,es,ep,ho,hd,hk,_,hm⟩:=n;refine⟨o,ho,fun name=>?_⟩;have e:=hm name;unfold nsFind findBy at e;rw[<-Array.find?_toList]at e;unfold zo;rw[hd];dsimp only;split
 ·rename_i y q
  rw[q]at e;exact congrArg some e
 ·rename_i q
  rw[q]at e
  have a:es.toList.any (·.refKey)=false:=by
   rw[vi];intro y hy;obtain⟨z,t,hkey⟩:=hk y (Array.mem_toList_iff.mp hy);simp[DictEntry.refKey,hkey]
  have a': ¬es.toList.any (·.refKey)=true:=by rw[a]; exact fz
  rw[if_neg a'];exact congrArg some e
theorem oI.look{h:aC}{x dx C:aa}{mA:Str->Option ae}(I:oI h x dx C mA):∃od,PySem.W.InstAt h x (oO C dx) C (some od)/\∀name,zo name od=some (mA name):=
 let⟨od,ho,hl⟩:=Pl I.ns
 ⟨od,⟨I.obj,rfl,rfl,ho⟩,hl⟩
section
variable{prog:aO}{w:aN}{A:bJ}{E:ae->aj->Prop}{s:aj}{K:aw}{x dx C f:aa}{mA:Str->Option ae}{name:Str}{v:ae}
theorem FJ{expr:Bool}{Q:ae->aj->Prop}(X:K.In s.heap)(I:oI s.heap x dx C mA)(hg:vP K C name=true)(hh:zm K C=true)
  (ha:jA K (.ref C) name=some none)(hv:mA name=some v)(hv':PySem.W.handedIn v=true)(h:Q v {s with toks:=s.toks+1}):
  az (aB prog w) A (getAttr (.ref x) name expr) Q E s:=by
 obtain⟨od,J,hl⟩:=I.look;exact PySem.W.get_value X J (DR hg).1 (PySem.W.findObj_own hh ha rfl (by rw[hl,hv])) hv' h
theorem Oo{pl:Sem Bool}{Q:ae×List ae->aj->Prop}(X:K.In s.heap)(I:oI s.heap x dx C mA)(hg:vP K C name=true)
  (hf:jA K (.ref C) name=some (some (.ref f)))(ht:vO K (.ref f)=true)(hv:mA name=none)(h:Q (.ref f,[.ref x]) s):
  az (aB prog w) A (rm (.ref x) name pl) Q E s:=by
 obtain⟨od,J,hl⟩:=I.look;exact PySem.W.method_fn X J (DR hg).1 (DR hg).2 hf (beq_iff_eq.mp ht) (by show(zo name od).map (·.isSome)=some false; rw[hl,hv]; rfl) h
theorem Uy{ns:List Str}{Q:Unit->aj->Prop}(X:K.In s.heap)(I:oI s.heap x dx C mA)
  (hs:jA K (.ref C) "__setattr__"=some (some (.builtin "object.__setattr__")))(hp:PySem.W.plainOver K C=true)(ht:DS K C name=some none)(hh:zm K C=true)
  (hw:zq mA ns)(hsz:ns.length<=aY)
  (h:∀h',oI h' x dx C (fun y=>if y=name then some v else mA y)->lP dx s.heap h'->Q () {s with heap:=h',toks:=s.toks+2}):
  az (aB prog w) A (setAttr (.ref x) name v) Q E s:=by
 obtain⟨od,J,hl⟩:=I.look;refine PySem.W.set_plain X J hs (PySem.W.osa_open (s:={s with toks:=s.toks+1}) (r:=none) X J hp ht fun b=>?_);obtain⟨cd,hc,hd'⟩:=PySem.W.any_some hh;have hx:s.heap.get? x=some ⟨.ref C,some dx,.plain,#[]⟩:=I.obj;refine ay (aU (ay (ay (wpAny_loadPart hx (ay (PySem.W.Looks.here (s:={s with toks:=s.toks+1}) (PySem.W.looks_clsIn X hc) ?_))))));rw[hd'];refine aU (a:=some dx) (ay (aU (ay ?_)));refine wpAny_nsSet1 (s:={s with toks:=s.toks+1}) I.ns fun h' hn2 hs2=>?_;obtain⟨oD,esD,epD,hoD,hdD,hcD⟩:=hn2.count (zq.cons name v hw);refine ay (wpAny_lookBehind hoD (by rw[hdD]; exact pastItsLine_dict (dW hcD (by rw[bG]; omega))) ?_);exact aU (h _ ⟨(hs2.2 _ (bq I.ne)).trans I.obj,hn2,I.ne⟩ hs2)
theorem Pu{R:Result->aj->Prop}{vs:List ae}{kw:List (Str×ae)}(X:K.In s.heap)(hm:DO K C=true)
  (hi:jA K (.ref C) "__init__"=some (some (.ref f)))(hf:PySem.W.typeIn K (.ref f)=some (.type "function"))
  (h:gW (aB prog w) (A.under (.builtin "type.__call__" ⟨.ref C::vs,kw⟩)) (.call (.ref f) ⟨.ref (s.heap.objs.size+1)::vs,kw⟩) (PySem.W.InitBack (s.heap.objs.size+1) R)
   {s with heap:=(s.heap.push nk).push (oO C s.heap.objs.size)}):
  gW (aB prog w) A (.call (.ref C) ⟨vs,kw⟩) R s:=by
 obtain⟨hh,g,d,t,os⟩:=s;exact PySem.W.make_core (PySem.W.makes_of X hm) (PySem.W.looks_findIn X hi) (fun self=>PySem.W.bind_fn X self hf) (.inl rfl) h
end
def bT(f:Str)(v:V):List (Str×V)->List (Str×V)
 | []=> [(f,v)]
 |(g,x)::r=>if g=f then(g,v)::r else(g,x)::bT f v r
theorem GA(f g:Str)(v:V):∀fs:List (Str×V),(bT f v fs).lookup g=if g=f then some v else fs.lookup g
 | []=>by
  show oC g [(f,v)]=_;by_cases h:g=f
  ·have hb:(g==f)=true:=beq_iff_eq.mpr h;simp only[oC,hb,if_pos h]
  ·have hb:(g==f)=false:=beq_eq_false_iff_ne.mpr h;simp only[oC,hb,if_neg h]
 |(k,x)::r=>by
  have ih:=GA f g v r;rw[show bT f v ((k,x)::r)=(if k=f then(k,v)::r else(k,x)::bT f v r)from rfl];by_cases hk:k=f
  ·rw[if_pos hk];by_cases h:g=k
   ·have hb:(g==k)=true:=beq_iff_eq.mpr h;simp only[oC,hb,if_pos (h.trans hk)]
   ·have hb:(g==k)=false:=beq_eq_false_iff_ne.mpr h;simp only[oC,hb,if_neg (fun e:g=f=>h (e.trans hk.symm))]
  ·rw[if_neg hk];by_cases h:g=k
   ·have hb:(g==k)=true:=beq_iff_eq.mpr h;simp only[oC,hb,if_neg (fun e:g=f=>hk (h.symm.trans e))]
   ·have hb:(g==k)=false:=beq_eq_false_iff_ne.mpr h;simp only[oC,hb];exact ih
theorem An(f:Str)(v:V):∀fs:List (Str×V),f∈(bT f v fs).map (·.1)/\∀g,g∈fs.map (·.1)->g∈(bT f v fs).map (·.1)
 | []=>⟨by simp[bT],fun g h=>by simp at h⟩
 |(k,x)::r=>by
  obtain⟨i1,i2⟩:=An f v r;rw[show bT f v ((k,x)::r)=(if k=f then(k,v)::r else(k,x)::bT f v r)from rfl];by_cases hk:k=f
  ·rw[if_pos hk];subst hk;exact⟨by simp,fun g h=>by simpa using h⟩
  ·rw[if_neg hk];refine⟨?_,fun g h=>?_⟩
   ·rw[cV];exact bU _ i1
   ·rw[cV]at h⊢;rcases bg.mp h with e|e
    ·exact bg.mpr (.inl e)
    ·exact bU _ (i2 g e)
theorem Aq(f:Str)(v:V):∀fs:List (Str×V),(bT f v fs).length<=fs.length+1
 | []=>by simp[bT]
 |(k,x)::r=>by
  have ih:=Aq f v r;rw[show bT f v ((k,x)::r)=(if k=f then(k,v)::r else(k,x)::bT f v r)from rfl];by_cases hk:k=f
  ·rw[if_pos hk,bG,bG]; omega
  ·rw[if_neg hk,bG,bG]; omega
theorem fQ.some_of{v:V}{o:Option ae}(r:fQ (some v) o):∃u,o=some u/\RelV v u:=by
 cases o with
 |none=>exact(show False from r).elim
 |some u=>exact⟨u,rfl,r⟩
theorem fQ.none_of{o:Option ae}(r:fQ none o):o=none:=by
 cases o with
 |none=>rfl
 |some u=>exact(show False from r).elim
theorem Ot{v:V}{u:ae}(r:RelV v u):PySem.W.handedIn u=true:=by
 cases v with
 |non=>cases(show u=iG from r); rfl
 |bl b=>cases(show u=oV b from r); rfl
 |int i=>obtain⟨t,e⟩:=(show∃t,u=km i t from r); cases e; rfl
 |str x=>obtain⟨t,e⟩:=(show∃t,u=ae.str x t from r); cases e; rfl
 |byt b=>obtain⟨t,e⟩:=(show∃t,u=ae.bytes b t from r); cases e; rfl
 |flt b=>obtain⟨t,e⟩:=(show∃t,u=ae.float b t from r); cases e; rfl
 |ref a=>cases(show u=cK a from r); rfl
 |ty n=>cases(show u=nr n from r); rfl
section
variable{P:aO}{w:aN}{H H':Hp}{h h':aC}{a C dx:aa}{fs fs':List (Str×V)}
theorem wQ(hok:cx P w H h)(e:H a=some (.ins C dx fs)):∃mA,oI h a dx C mA/\(∀f,fQ (fs.lookup f) (mA f))/\zq mA (fs.map (·.1))/\fs.length<=1000/\H dx=some (.own a):=by
 obtain⟨d,z,ne,ob,mA,n,r,q⟩:=(show dM P w H h a (.ins C dx fs)from hok a _ e);exact⟨mA,⟨ob,n,ne⟩,r,q,z,d⟩
end
structure dy(K:aw)(C:aa):Prop where
 pg:vP K C Str.empty=true
 hd:zm K C=true
 po:PySem.W.plainOver K C=true
 sa:jA K (.ref C) "__setattr__"=some (some (.builtin "object.__setattr__"))
theorem dy.get{K:aw}{C:aa}(c:dy K C)(f:Str):vP K C f=true:=c.pg
def cN(K:aw)(C:aa)(f:Str):Prop:=jA K (.ref C) f=some none
theorem cN.taker{K:aw}{C:aa}{f:Str}(n:cN K C f):DS K C f=some none:=by
 unfold DS;rw[show jA K (.ref C) f=some none from n];rfl
structure qz(K:aw)(C:aa)(m:Str)(f:aa):Prop where
 at_:jA K (.ref C) m=some (some (.ref f))
 fn:vO K (.ref f)=true
 kp:kg K (.ref f)=true
section
variable{X:Cx}{pins:List (aa×Obj)}{σ:St}{H:Hp}{s:aj}{a C dx:aa}{fs:List (Str×V)}{f:Str}{v:V}{A:bJ}{E:ae->aj->Prop}
theorem FK{b:Bool}{Q:ae->aj->Prop}(I:Inv X pins σ H s)(e:H a=some (.ins C dx fs))(c:dy X.K C)(n:cN X.K C f)(l:fs.lookup f=some v)
  (h:∀u s',Inv X pins σ H s'->RelV v u->Q u s'):az (aB X.prog X.w) A (getAttr (.ref a) f b) Q E s:=by
 obtain⟨mA,O,r,_,_,_⟩:=wQ I.hok e;obtain⟨u,hu,ru⟩:=fQ.some_of (v:=v) (o:=mA f) (by rw[<-l]; exact r f);exact FJ I.kIn O (c.get f) c.hd n hu (Ot ru) (h u _ (I.tok _) ru)
theorem Aj{m:Str}{g:aa}{pl:Sem Bool}{Q:ae×List ae->aj->Prop}(I:Inv X pins σ H s)(e:H a=some (.ins C dx fs))(c:dy X.K C)(k:qz X.K C m g)(l:fs.lookup m=none)
  (h:Q (.ref g,[.ref a]) s):az (aB X.prog X.w) A (rm (.ref a) m pl) Q E s:=by
 obtain⟨mA,O,r,_,_,_⟩:=wQ I.hok e;have hn:mA m=none:=fQ.none_of (by rw[<-l]; exact r m);exact Oo I.kIn O (c.get m) k.at_ k.fn hn h
theorem JT{y:V}{u:ae}{Q:Unit->aj->Prop}(I:Inv X pins σ H s)(e:H a=some (.ins C dx fs))(c:dy X.K C)(n:cN X.K C f)(hl:fs.length<1000)(ry:RelV y u)
  (h:∀s',Inv X pins σ (ah H a (.ins C dx (bT f y fs))) s'->Q () s'):az (aB X.prog X.w) A (setAttr (.ref a) f u) Q E s:=by
 obtain⟨mA,O,r,wi,_,ho⟩:=wQ I.hok e;have hz:(fs.map (·.1)).length<=aY:=by rw[aE,rS]; omega
 refine Uy I.kIn O c.sa c.po n.taker c.hd wi hz fun h' O' sb=>h _ ?_;have hd:∃o,h'.get? dx=some o:=let⟨o,_,_,e',_⟩:=O'.ns; ⟨o,e'⟩;refine I.write (x:=a) (e:=dx) (by rw[e]; exact kY) (.inr ho) (fun b q hb z=>(sb.2 b hb).trans z) hd ?_;refine⟨by rw[aM O.ne]; exact ho,?_,O.ne,O'.obj,_,O'.ns,fun g=>?_,fun g hg=>?_⟩
 ·have:=Aq f y fs; omega
 ·show fQ ((bT f y fs).lookup g) (if g=f then some u else mA g);rw[GA];by_cases q:g=f
  ·rw[if_pos q,if_pos q]; exact ry
  ·rw[if_neg q,if_neg q]; exact r g
 ·by_cases q:g=f
  ·rw[q]; exact(An f y fs).1
  ·refine(An f y fs).2 g (wi g fun z=>hg ?_);show(if g=f then some u else mA g)=none;rw[if_neg q]; exact z
theorem Inv.made(I:Inv X pins σ H s):Inv X pins σ (ah (ah H s.heap.objs.size (.own (s.heap.objs.size+1))) (s.heap.objs.size+1) (.ins C s.heap.objs.size []))
  {s with heap:=(s.heap.push nk).push (oO C s.heap.objs.size)}:=by
 have e1:(s.heap.push nk).get? s.heap.objs.size=some nk:=dz s.heap rfl
 have e2:((s.heap.push nk).push (oO C s.heap.objs.size)).get? (s.heap.objs.size+1)=some (oO C s.heap.objs.size):=by
  have:=dz (s.heap.push nk) (o:=oO C s.heap.objs.size) rfl
  rwa [fL]at this
 have e3:(s.heap.push nk).Ns s.heap.objs.size (fun _=>none):=⟨nk,#[],_,e1,rfl,(fun e he=>absurd he (by simp)),fun _=>rfl⟩;have I1:=I.laid (a:=s.heap.objs.size) (o:=.own (s.heap.objs.size+1)) (h':=s.heap.push nk) (t':=s.toks) (fun b u q=>bS _ q) (aF _) ⟨_,e1⟩;refine I1.laid (a:=s.heap.objs.size+1) (o:=.ins C s.heap.objs.size []) (t':=s.toks) (fun b u q=>bS _ q) (sM (fL _ _)) ?_;have ne:s.heap.objs.size≠s.heap.objs.size+1:=cJ (vz _);refine⟨by rw[aM ne,ax],bC _,ne,e2,fun _=>none,(aC.Ns1.of_empty e3).at fun o q=>bS _ q,fun _=>kY,fun y hy=>absurd rfl hy⟩
theorem Et{prog:aO}{w:aN}{env:Env}{e:aJ}{f:Str}{pos:Pos}{s:aj}{Q:ae->aj->Prop}(hb:tj e f env (bw e env)=bw e env)
  (h:az (aB prog w) A (bw e env) (fun o s₁=>az (aB prog w) A (getAttr o f true) Q E s₁) E s):az (aB prog w) A (bw (.Attribute e f pos) env) Q E s:=
 Attribute_any_ h (by rw[arm_eval_Attribute,hb])
end
def xV(K:aw)(ta:TE)(f:Str):TE:=fun σ H Q=>ta σ H fun x H1=>∃a C dx fs v,x=.ref a/\H1 a=some (.ins C dx fs)/\dy K C/\cN K C f/\fs.lookup f=some v/\Q v H1
def Ih(K:aw)(ta tv:TE)(f:Str):TS:=fun D σ H=>tv σ H fun y H1=>ta σ H1 fun x H2=>∃a C dx fs,x=.ref a/\H2 a=some (.ins C dx fs)/\dy K C/\cN K C f/\fs.length<1000/\
 D.nx σ (ah H2 a (.ins C dx (bT f y fs)))
def Dh(X:Cx)(op:Operator)(rd:V->V->Hp->VK->Prop):Prop:=
 ∀(pins:List (aa×Obj))(s:aj)(σ:St)(H:Hp)(x y:V)(u v:ae)(Q:VK),Inv X pins σ H s->RelV x u->RelV y v->rd x y H Q->az (aB X.prog X.w) X.A (inplaceOp op u v) (EP X pins σ Q) X.xe s
def BU(K:aw)(ta tv:TE)(rd:V->V->Hp->VK->Prop)(f:Str):TS:=fun D σ H=>ta σ H fun x H1=>∃a C dx fs v,x=.ref a/\H1 a=some (.ins C dx fs)/\dy K C/\cN K C f/\fs.lookup f=some v/\
 tv σ H1 fun y H2=>rd v y H2 fun z H3=>∃dx' fs',H3 a=some (.ins C dx' fs')/\fs'.length<1000/\D.nx σ (ah H3 a (.ins C dx' (bT f z fs')))
section
variable{X:Cx}{o e value:aJ}{f:Str}{pos pos' tpos:Pos}{ta tv:TE}
theorem bK(he:PE X e ta)(hb:tj e f X.env (bw e X.env)=bw e X.env):PE X (.Attribute e f pos) (xV X.K ta f):=by
 intro pins s σ H Q I h;refine Et hb (aQ (he pins s σ H _ I h) fun u s1⟨x,H1,I1,rx,a,C,dx,fs,v,ex,ea,c,n,l,q⟩=>?_);subst ex;obtain rfl:u=cK a:=rx;exact FK I1 ea c n l fun u' s2 I2 ru=>⟨v,H1,I2,ru,q⟩
theorem fe(ha:PE X o ta)(hv:PE X value tv)(hs:nU value (some (.Attribute o f pos')) pos.line X.env=pure false):PS X (.Assign [.Attribute o f pos'] value pos) (Ih X.K ta tv f):=by
 intro pins s σ H D I h;refine plainObj_wpAny_Assign_Attribute (aQ (hv pins s σ H _ I h) fun u s1⟨y,H1,I1,ry,q⟩=>aQ (ha pins s1 σ H1 _ I1 q) fun ov s2⟨x,H2,I2,rx,a,C,dx,fs,ex,ea,c,n,l,q2⟩=>?_) hs;subst ex;obtain rfl:ov=cK a:=rx;exact JT I2 ea c n l ry fun s3 I3=>⟨σ,_,I3,q2⟩
theorem HL{op:Operator}{rd:V->V->Hp->VK->Prop}(ha:PE X o ta)(hv:PE X value tv)(hop:Dh X op rd):PS X (.AugAssign (.Attribute o f tpos) op value pos) (BU X.K ta tv rd f):=by
 intro pins s σ H D I h;refine wpAny_AugAssign_AttributeAny (aQ (ha pins s σ H _ I h) fun ov s1⟨x,H1,I1,rx,a,C,dx,fs,v,ex,ea,c,n,l,q⟩=>?_);subst ex;obtain rfl:ov=cK a:=rx;refine FK I1 ea c n l fun u s2 I2 ru=>aQ (hv pins s2 σ H1 _ I2 q) fun w3 s3⟨y,H2,I3,ry,q3⟩=>aQ (hop pins s3 σ H2 v y u w3 _ I3 ru ry q3) fun w4 s4⟨z,H3,I4,rz,dx',fs',ea',l',q4⟩=>?_;exact JT I4 ea' c n l' rz fun s5 I5=>⟨σ,_,I5,q4⟩
def Sv:V->V->Hp->VK->Prop:=fun x y H Q=>∃i j,x=.int i/\y=.int j/\Q (.int (i+j)) H
theorem FW:Dh X .Add Sv:=by
 rintro pins s σ H x y u v Q I rx ry ⟨i,j,rfl,rfl,q⟩;obtain⟨t,rfl⟩:=(show∃t,u=km i t from rx);obtain⟨t',rfl⟩:=(show∃t',v=km j t' from ry);exact PyProof.Rows.iadd_int ⟨.int (i+j),H,I.tok _,⟨_,rfl⟩,q⟩
theorem Xc{pl:Sem Bool}{m:Str}{apos:Pos}{args:List aJ}{pins:List (aa×Obj)}{s:aj}{σ:St}{H:Hp}{Q:ae->aj->Prop}{te:TE}(he:PE X e te)(I:Inv X pins σ H s)
  (h:te σ H fun x H1=>∃a C dx fs g,x=.ref a/\H1 a=some (.ins C dx fs)/\dy X.K C/\qz X.K C m g/\fs.lookup m=none/\
   ∀s1,Inv X pins σ H1 s1->az (aB X.prog X.w) X.A (callWith pos (.ref g) [.ref a] (dX pos (bN args X.env)) (oZ pos (pE [] X.env))) Q X.xe s1)
  (ht:bw (.Call (.Attribute e m apos) args [] pos) X.env=(do
   let ov<-bw e X.env
   standAt apos.atName
   let(f,first)<-holding [ov] (rm ov m pl)
   callWith pos f first (dX pos (bN args X.env)) (oZ pos (pE [] X.env)))):
  az (aB X.prog X.w) X.A (bw (.Call (.Attribute e m apos) args [] pos) X.env) Q X.xe s:=by
 refine DP (pl:=pl) (aQ (he pins s σ H _ I h) fun u s1⟨x,H1,I1,rx,a,C,dx,fs,g,ex,ea,c,k,l,q⟩=>?_) ht;subst ex;obtain rfl:u=cK a:=rx;exact Aj I1 ea c k l (q s1 I1)
end
structure cy(k:Nat)(A:bJ):Prop where
 hd:A.handled=none
 dp:A.depth+3*k+5<BP
 un:A.units+16*k+200<gn
theorem cy.mono{j k:Nat}{A:bJ}(r:cy k A)(h:j<=k):cy j A:=⟨r.hd,by have:=r.dp; omega,by have:=r.un; omega⟩
theorem cy.deeper{k:Nat}{A:bJ}(r:cy (k+1) A)(env:Env):cy k (A.deeper env):=
 ⟨r.hd,by have:=r.dp; show A.depth+1+3*k+5<_; omega,by have:=r.un; show A.units+3+16*k+200<_; omega⟩
theorem Pt{A:bJ}{C:aa}{us:List ae}{kw:List (Str×ae)}:(A.under (.builtin "type.__call__" ⟨.ref C::us,kw⟩)).depth=A.depth+1:=by
 first|rfl|simp[bJ.under,Code.weight,Code.isCreation,Code.isGuard,Code.isCaller,Code.frames,Code.isFrame,guardIds]
theorem Pw{A:bJ}{C:aa}{us:List ae}{kw:List (Str×ae)}:(A.under (.builtin "type.__call__" ⟨.ref C::us,kw⟩)).units=A.units+1:=by
 first|rfl|simp[bJ.under,Code.cUnits,Code.frames,Code.isFrame]
theorem cy.make{k:Nat}{A:bJ}(r:cy (k+1) A)(C:aa)(us:List ae)(kw:List (Str×ae)):cy k (A.under (.builtin "type.__call__" ⟨.ref C::us,kw⟩)):=
 ⟨r.hd,by have:=r.dp; rw[Pt]; omega,by have:=r.un; rw[Pw]; omega⟩
theorem cy.depth{k:Nat}{A:bJ}(r:cy k A):A.depth<BP:=by have:=r.dp; omega
theorem cy.units{k:Nat}{A:bJ}(r:cy k A):A.units+64<gn:=by have:=r.un; omega
def kD:TA:=fun _ H Q=>Q [] H
def uL(ta:TE)(tr:TA):TA:=fun σ H Q=>ta σ H fun x H1=>tr σ H1 fun xs H2=>Q (x::xs) H2
section
variable{X:Cx}{e:aJ}{es:List aJ}{te:TE}{t:TA}{pos:Pos}
theorem ao:PA X [] kD:=fun _ _ _ _ H Q I h=>yu ⟨[],H,I,.nil,h⟩
theorem af(ha:PE X e te)(hr:PA X es t)(hs:bN (e::es) X.env=(false,bw e X.env)::bN es X.env:=by rfl):PA X (e::es) (uL te t):=by
 intro pos pins s σ H Q I h;rw[hs];show az _ _ (spliced ((false,bw e X.env)::dX pos (bN es X.env))) _ _ s;refine yt (aQ (ha pins s σ H _ I h) fun u s1⟨x,H1,I1,r1,q1⟩=>?_);exact aQ (hr pos pins s1 σ H1 _ I1 q1) fun us s2⟨xs,H2,I2,r2,q2⟩=>⟨x::xs,H2,I2,.cons r1 r2,q2⟩
def Ld(t:TA):TE:=fun σ H Q=>t σ H fun xs H1=>xs.length<=aY/\∀p,H1 p=none->Q (.ref p) (ah H1 p (.tup xs))
def KQ(t:TA):TE:=fun σ H Q=>t σ H fun xs H1=>xs.length<=aY/\∀p,H1 p=none->Q (.ref p) (ah H1 p (.lst xs))
theorem dQ{x1}(h:PA X es t):PE X (.Tuple es x1 pos) (Ld t):=by
 intro pins s σ H Q I hq;refine wpAny_Tuple_spliced (aQ (h pos pins s σ H _ I hq) fun us s1⟨xs,H1,I1,r,z,q⟩=>⟨by rw[<-r.length]; exact z,?_⟩);have hf:H1 s1.heap.objs.size=none:=I1.hok.fresh (aF _);refine⟨.ref s1.heap.objs.size,ah H1 s1.heap.objs.size (.tup xs),I1.laid (t':=s1.toks) (fun b u e=>bS _ e) (aF _) ?_,rfl,q _ hf⟩;exact⟨z,us,r,⟨_,dz _ rfl,rfl,_,rfl⟩⟩
theorem br(h:PA X es t):PE X (.List es pos) (KQ t):=by
 intro pins s σ H Q I hq;refine wpAny_List_spliced (aQ (h pos pins s σ H _ I hq) fun us s1⟨xs,H1,I1,r,z,q⟩=>⟨by rw[<-r.length]; exact z,?_⟩);have hf:H1 s1.heap.objs.size=none:=I1.hok.fresh (aF _);refine⟨.ref s1.heap.objs.size,ah H1 s1.heap.objs.size (.lst xs),I1.laid (t':=s1.toks) (fun b u e=>bS _ e) (aF _) ?_,rfl,q _ hf⟩;exact⟨z,us,0,r,dz _ rfl⟩
end
abbrev Sp:=List V->Hp->VK->XK->Prop
abbrev jo:=List Env->Hp->aj->XK->ae->aj->Prop
structure oq(P:aO)(w:aN)(K:aw)(mg:Str->Option ae)(base:aC)(A:bJ)(outer:List Env)(s:aj)(H:Hp):Prop where
 frames:A.frames=some outer
 mod:Mod K mg base
 bs:∀b o,base.get? b=some o->s.heap.get? b=some o/\H b=none
 bsz:base.objs.size<=s.heap.objs.size
 funs:s.heap.FunFrames base outer
 frf:∀b∈ck outer,H b=none
 hok:cx P w H s.heap
 bare:mQ s.gens
def CE(outer:List Env)(P:aO)(w:aN)(H:Hp)(s:aj)(Q:VK)(u:ae)(s':aj):Prop:=
 ∃v H',s'.os=s.os/\mQ s'.gens/\Un (ck outer) [] H H' s.heap s'.heap/\cx P w H' s'.heap/\RelV v u/\Q v H'
def CR(CX:jo)(outer:List Env)(P:aO)(w:aN)(H:Hp)(s:aj)(Q:VK)(E:XK)(r:Result)(s':aj):Prop:=
 match r with
 |.ok (.ret u)=>CE outer P w H s Q u s'
 |.ok _=>False
 |.error e=>CX outer H s E e s'
structure gd(P:aO)(w:aN)(K:aw)(mg:Str->Option ae)(base:aC)(CX:jo)(k:Nat)(f:aa)(fd:kL)(ps:List Str)(sp:Sp):Prop where
 len:∀vs H Q E,sp vs H Q E->vs.length=ps.length
 run:∀(A:bJ)(outer:List Env)(s:aj)(H:Hp)(args:Args)(us:List ae)(vs:List V)(Q:VK)(E:XK),cy k A->oq P w K mg base A outer s H->BindsTo s fd args (ps.zip us)->aS vs us->sp vs H Q E->
  gW (aB P w) A (.call (.ref f) args) (CR CX outer P w H s Q E) s
theorem gd.imp{P:aO}{w:aN}{K:aw}{mg:Str->Option ae}{base:aC}{CX:jo}{k:Nat}{f:aa}{fd:kL}{ps:List Str}{sp sp':Sp}(F:gd P w K mg base CX k f fd ps sp)
  (h:∀vs H Q E,sp' vs H Q E->sp vs H Q E):gd P w K mg base CX k f fd ps sp':=
 ⟨fun vs H Q E q=>F.len vs H Q E (h _ _ _ _ q),fun A outer s H args us vs Q E hr he hb hv hs=>F.run A outer s H args us vs Q E hr he hb hv (h _ _ _ _ hs)⟩
theorem oq.make{P:aO}{w:aN}{K:aw}{mg:Str->Option ae}{base:aC}{A:bJ}{outer:List Env}{s:aj}{H:Hp}(e:oq P w K mg base A outer s H)(C:aa)(us:List ae)(kw:List (Str×ae)):
  oq P w K mg base (A.under (.builtin "type.__call__" ⟨.ref C::us,kw⟩)) outer s H:=⟨by first|exact e.frames|(simpa [bJ.under,Code.envs,Code.isFrame,pushEnvs]using e.frames),e.mod,e.bs,e.bsz,e.funs,e.frf,e.hok,e.bare⟩
section
variable{X:Cx}{pins:List (aa×Obj)}{σ:St}{H:Hp}{s s':aj}
theorem Inv.env0(I:Inv X pins σ H s):oq X.prog X.w X.K X.mg X.base X.A X.stack s H:=
 ⟨I.ok.frames,I.ok.mod,I.bs,dW I.ok.bsz I.sz,I.stack,I.stkFree,I.hok,I.bare⟩
theorem Inv.after{Q:VK}{u:ae}(I:Inv X pins σ H s)(h:CE X.stack X.prog X.w H s Q u s'):EP X pins σ Q u s':=by
 obtain⟨v,H',os,bare,un,hok,r,q⟩:=h;obtain⟨hh,g,d,t,os'⟩:=s';obtain rfl:os'=s.os:=os;exact⟨v,H',I.call (h':=hh) (g':=g) (d':=d) (t':=t) (ch:=[]) un hok bare (fun b z=>absurd z (by simp)),r,q⟩
end
def rX(sp:Sp)(dvs:List V)(E:XK)(t:TA):TE:=fun σ H Q=>t σ H fun vs H1=>sp (vs++dvs) H1 Q E
def uN(C:aa)(m:Str)(sp:Sp)(dvs:List V)(E:XK)(ta:TE)(t:TA):TE:=fun σ H Q=>ta σ H fun x H1=>∃a dx fs,x=.ref a/\H1 a=some (.ins C dx fs)/\fs.lookup m=none/\
 t σ H1 fun vs H2=>sp (x::(vs++dvs)) H2 Q E
def uM(C:aa)(sp:Sp)(dvs:List V)(E:XK)(t:TA):TE:=fun σ H Q=>t σ H fun vs H1=>∀x dx,H1 x=none->H1 dx=none->dx≠x->
 sp (.ref x::(vs++dvs)) (ah (ah H1 dx (.own x)) x (.ins C dx [])) (fun v H2=>v=.non/\Q (.ref x) H2) E
def Binds(K:aw)(fd:kL)(ps:List Str)(ds:List ae):Prop:=
 ∀(s:aj)(us:List ae),K.In s.heap->(us++ds).length=ps.length->BindsTo s fd ⟨us,[]⟩ (ps.zip (us++ds))
theorem Binds.all{K:aw}{fd:kL}{ps:List Str}(h:∀us:List ae,us.length=ps.length->bindArgs fd ⟨us,[]⟩=pure (ps.zip us)):Binds K fd ps []:=fun s us _ hl=>by
 rw[cC]at hl⊢;exact .of_eq (h us hl)
def gC(CX:jo)(X:Cx)(E:XK):Prop:=∀(pins:List (aa×Obj))(σ:St)(H:Hp)(s:aj)(e:ae)(s':aj),Inv X pins σ H s->CX X.stack H s E e s'->X.xe e s'
section
variable{X:Cx}{CX:jo}{k:Nat}{f C:aa}{fd:kL}{ps:List Str}{sp:Sp}{dvs:List V}{ds:List ae}{E:XK}{x m:Str}{p pos apos:Pos}{e o:aJ}{es:List aJ}{ta:TE}{t:TA}
theorem xF{pins:List (aa×Obj)}{σ:St}{H:Hp}{s:aj}{Q:VK}{us:List ae}{vs:List V}(F:gd X.prog X.w X.K X.mg X.base CX k f fd ps sp)(hr:cy k X.A)(hb:Binds X.K fd ps ds)(hd:aS dvs ds)(hx:gC CX X E)
  (I:Inv X pins σ H s)(r:aS vs us)(h:sp (vs++dvs) H Q E):az (aB X.prog X.w) X.A (call (.ref f) us) (EP X pins σ Q) X.xe s:=by
 have r2:aS (vs++dvs) (us++ds):=r.append hd;have hl:(us++ds).length=ps.length:=by rw[<-r2.length]; exact F.len _ _ _ _ h
 refine yh (qZ (F.run X.A X.stack s H ⟨us,[]⟩ (us++ds) (vs++dvs) Q E hr I.env0 (hb s us I.kIn hl) r2 h) fun r s' hq=>?_);cases r with
 |error e=>exact hx pins σ H s e s' I hq
 |ok fl=>
  cases fl with
  |ret u=>exact I.after hq
  |next=>exact fK hq
  |brk=>exact fK hq
  |cont=>exact fK hq
theorem RP(F:gd X.prog X.w X.K X.mg X.base CX k f fd ps sp)(hr:cy k X.A)(hg:Gl X x)(hm:X.mg x=some (.ref f))(hk:kg X.K (.ref f)=true)(hb:Binds X.K fd ps ds)(hd:aS dvs ds)(hx:gC CX X E)
  (ha:PA X (e::es) t)(hdb:(x==("__debug__":Str))=false:=by decide)(he:bN (e::es) X.env=(false,bw e X.env)::bN es X.env:=by rfl)(hpl:(dX pos (bN es X.env)).any (·.1)=false:=by rfl):
  PE X (.Call (.Name x p) (e::es) [] pos) (rX sp dvs E t):=by
 intro pins s σ H Q I h;refine nY (nH I hg hm ?_ hdb);refine zl (h₀:=X.base) I.ok.mod.kin hk (aQ (ha pos pins s σ H _ I h) fun us s1⟨vs,H1,I1,r,q⟩=>⟨I1.kIn,?_⟩) he hpl;exact xF F hr hb hd hx I1 r q
theorem RQ(F:gd X.prog X.w X.K X.mg X.base CX k f fd ps sp)(hr:cy k X.A)(hg:Gl X x)(hm:X.mg x=some (.ref f))(hk:kg X.K (.ref f)=true)(hb:Binds X.K fd ps ds)(hd:aS dvs ds)(hx:gC CX X E)
  (hdb:(x==("__debug__":Str))=false:=by decide):PE X (.Call (.Name x p) [] [] pos) (rX sp dvs E kD):=by
 intro pins s σ H Q I h;refine nY (nH I hg hm ?_ hdb);exact DM I.kIn hk (xF (us:=[]) F hr hb hd hx I .nil h)
theorem Sd{pl:Sem Bool}(he:PE X o ta)(c:dy X.K C)(hm:qz X.K C m f)(F:gd X.prog X.w X.K X.mg X.base CX k f fd ps sp)(hr:cy k X.A)(hb:Binds X.K fd ps ds)(hd:aS dvs ds)(hx:gC CX X E)(ha:PA X (e::es) t)
  (hst:bN (e::es) X.env=(false,bw e X.env)::bN es X.env:=by rfl)(hpl:(dX pos (bN es X.env)).any (·.1)=false:=by rfl)
  (ht:bw (.Call (.Attribute o m apos) (e::es) [] pos) X.env=(do
   let ov<-bw o X.env
   standAt apos.atName
   let(f,first)<-holding [ov] (rm ov m pl)
   callWith pos f first (dX pos (bN (e::es) X.env)) (oZ pos (pE [] X.env))):=by rfl):
  PE X (.Call (.Attribute o m apos) (e::es) [] pos) (uN C m sp dvs E ta t):=by
 intro pins s σ H Q I h;refine DP (pl:=pl) (aQ (he pins s σ H _ I h) fun u s1⟨x,H1,I1,rx,a,dx,fs,ex,ea,l,q⟩=>?_) ht;subst ex;obtain rfl:u=cK a:=rx;refine Aj I1 ea c hm l ?_;refine zl (first:=[.ref a]) (h₀:=X.base) I.ok.mod.kin hm.kp (aQ (ha pos pins s1 σ H1 _ I1 q) fun us s2⟨vs,H2,I2,r,q2⟩=>⟨I2.kIn,?_⟩) hst hpl;exact xF (us:=.ref a::us) (vs:=.ref a::vs) F hr hb hd hx I2 (.cons rfl r) q2
theorem Se{pl:Sem Bool}(he:PE X o ta)(c:dy X.K C)(hm:qz X.K C m f)(F:gd X.prog X.w X.K X.mg X.base CX k f fd ps sp)(hr:cy k X.A)(hb:Binds X.K fd ps ds)(hd:aS dvs ds)(hx:gC CX X E)
  (ht:bw (.Call (.Attribute o m apos) [] [] pos) X.env=(do
   let ov<-bw o X.env
   standAt apos.atName
   let(f,first)<-holding [ov] (rm ov m pl)
   callWith pos f first (dX pos (bN [] X.env)) (oZ pos (pE [] X.env))):=by rfl):
  PE X (.Call (.Attribute o m apos) [] [] pos) (uN C m sp dvs E ta kD):=by
 intro pins s σ H Q I h;refine DP (pl:=pl) (aQ (he pins s σ H _ I h) fun u s1⟨x,H1,I1,rx,a,dx,fs,ex,ea,l,q⟩=>?_) ht;subst ex;obtain rfl:u=cK a:=rx;refine Aj I1 ea c hm l ?_;exact DM (first:=[.ref a]) I1.kIn hm.kp (xF (us:=[.ref a]) (vs:=[.ref a]) F hr hb hd hx I1 (.cons rfl .nil) q)
structure Mk(K:aw)(C f:aa):Prop where
 makes:DO K C=true
 init:jA K (.ref C) "__init__"=some (some (.ref f))
 fn:vO K (.ref f)=true
 kp:kg K (.ref C)=true
theorem Ie{pins:List (aa×Obj)}{σ:St}{H:Hp}{s:aj}{Q:VK}{us:List ae}{vs:List V}(M:Mk X.K C f)(F:gd X.prog X.w X.K X.mg X.base CX k f fd ps sp)(hr:cy (k+1) X.A)(hb:Binds X.K fd ps ds)(hd:aS dvs ds)
  (hx:gC CX X E)(I:Inv X pins σ H s)(r:aS vs us)
  (h:∀x dx,H x=none->H dx=none->dx≠x->sp (.ref x::(vs++dvs)) (ah (ah H dx (.own x)) x (.ins C dx [])) (fun v H2=>v=.non/\Q (.ref x) H2) E):
  az (aB X.prog X.w) X.A (call (.ref C) us) (EP X pins σ Q) X.xe s:=by
 have hq:=h (s.heap.objs.size+1) s.heap.objs.size (I.hok.fresh (sN _)) (I.hok.fresh (aF _)) (cJ (vz _));have I2:=Inv.made (C:=C) I;have r2:aS (V.ref (s.heap.objs.size+1)::(vs++dvs)) (cK (s.heap.objs.size+1)::(us++ds)):=.cons rfl (r.append hd)
 have hl:(cK (s.heap.objs.size+1)::us++ds).length=ps.length:=by
  have e:=r2.length;rw[F.len _ _ _ _ hq]at e;exact e.symm
 refine yh (Pu (f:=f) I.kIn M.makes M.init (beq_iff_eq.mp M.fn) (qZ (F.run _ X.stack _ _ ⟨cK (s.heap.objs.size+1)::us,[]⟩ (cK (s.heap.objs.size+1)::(us++ds)) _ _ E (hr.make C us [])
  (I2.env0.make C us []) (hb _ (cK (s.heap.objs.size+1)::us) I2.kIn hl) r2 hq) fun r s' hq'=>?_))
 cases r with
 |error e=>exact hx pins σ _ _ e s' I2 hq'
 |ok fl=>
  cases fl with
  |ret u=>
   obtain⟨v,H',I3,rv,ev,q3⟩:=I2.after hq';subst ev;exact⟨rv,⟨V.ref (s.heap.objs.size+1),H',I3,rfl,q3⟩⟩
  |next=>exact fK hq'
  |brk=>exact fK hq'
  |cont=>exact fK hq'
theorem RY(M:Mk X.K C f)(F:gd X.prog X.w X.K X.mg X.base CX k f fd ps sp)(hr:cy (k+1) X.A)(hg:Gl X x)(hm:X.mg x=some (.ref C))(hb:Binds X.K fd ps ds)(hd:aS dvs ds)(hx:gC CX X E)
  (ha:PA X (e::es) t)(hdb:(x==("__debug__":Str))=false:=by decide)(he:bN (e::es) X.env=(false,bw e X.env)::bN es X.env:=by rfl)(hpl:(dX pos (bN es X.env)).any (·.1)=false:=by rfl):
  PE X (.Call (.Name x p) (e::es) [] pos) (uM C sp dvs E t):=by
 intro pins s σ H Q I h;refine nY (nH I hg hm ?_ hdb);refine zl (h₀:=X.base) I.ok.mod.kin M.kp (aQ (ha pos pins s σ H _ I h) fun us s1⟨vs,H1,I1,r,q⟩=>⟨I1.kIn,?_⟩) he hpl;exact Ie M F hr hb hd hx I1 r q
theorem RZ(M:Mk X.K C f)(F:gd X.prog X.w X.K X.mg X.base CX k f fd ps sp)(hr:cy (k+1) X.A)(hg:Gl X x)(hm:X.mg x=some (.ref C))(hb:Binds X.K fd ps ds)(hd:aS dvs ds)(hx:gC CX X E)
  (hdb:(x==("__debug__":Str))=false:=by decide):PE X (.Call (.Name x p) [] [] pos) (uM C sp dvs E kD):=by
 intro pins s σ H Q I h;refine nY (nH I hg hm ?_ hdb);exact DM I.kIn M.kp (Ie (us:=[]) M F hr hb hd hx I .nil h)
end
structure aW(N P:List Str)(sc:cR):Prop where
 kind:sc.kind=.function
 co:sc.isCoroutine=false
 gen:sc.isGenerator=false
 nd:N.Nodup
 pre:N.take P.length=P
 par:∀x∈P,sc.names.lookup x=some .local\/sc.names.lookup x=some .cell
 nofree:∀y∈sc.names,y.2≠.free
theorem EB{kindOf:Str->Option gg}{x:Str}:∀{binds:List (Str×ae)}{m:Str->Option ae},(∀v,(x,v)∉binds)->bindL kindOf binds m x=m x
 | [],_,_=>rfl
 |(n,v)::r,m,h=>by
  unfold bindL;rw[EB fun w hw=>h w (bU _ hw)];split
  ·have:x≠n:=by rintro rfl; exact h v dD
   simp[this]
  ·rfl
theorem Ez{kindOf:Str->Option gg}{x:Str}:∀{binds:List (Str×ae)}{m:Str->Option ae},(∀v,(x,v)∉binds)->bindC kindOf binds m x=m x
 | [],_,_=>rfl
 |(n,v)::r,m,h=>by
  unfold bindC;rw[Ez fun w hw=>h w (bU _ hw)];split
  ·rfl
  ·have:x≠n:=by rintro rfl; exact h v dD
   simp[this]
theorem EA{kindOf:Str->Option gg}{x:Str}{v:ae}:∀{P:List Str}{vs:List ae}{i:Nat}{m:Str->Option ae},P.Nodup->P[i]?=some x->vs[i]?=some v->kindOf x=some .local->
  bindL kindOf (P.zip vs) m x=some v
 | [],_,_,_,_,h,_,_=>by simp at h
 |_::_,[],_,_,_,_,h,_=>by simp at h
 |p::P,w::vs,0,m,nd,h1,h2,hk=>by
  simp at h1 h2; subst h1; subst h2;show bindL kindOf ((p,w)::P.zip vs) m p=_;unfold bindL;rw[EB fun v hv=>(jw.mp nd).1 (Dw hv).1,if_pos hk];simp
 |p::P,w::vs,i+1,m,nd,h1,h2,hk=>by
  show bindL kindOf ((p,w)::P.zip vs) m x=_;unfold bindL;exact EA (i:=i) (jw.mp nd).2 (by simpa using h1) (by simpa using h2) hk
theorem Ey{kindOf:Str->Option gg}{x:Str}{v:ae}:∀{P:List Str}{vs:List ae}{i:Nat}{m:Str->Option ae},P.Nodup->P[i]?=some x->vs[i]?=some v->kindOf x≠some .local->
  bindC kindOf (P.zip vs) m x=some v
 | [],_,_,_,_,h,_,_=>by simp at h
 |_::_,[],_,_,_,_,h,_=>by simp at h
 |p::P,w::vs,0,m,nd,h1,h2,hk=>by
  simp at h1 h2; subst h1; subst h2;show bindC kindOf ((p,w)::P.zip vs) m p=_;unfold bindC;rw[Ez fun v hv=>(jw.mp nd).1 (Dw hv).1,if_neg hk];simp
 |p::P,w::vs,i+1,m,nd,h1,h2,hk=>by
  show bindC kindOf ((p,w)::P.zip vs) m x=_;unfold bindC;exact Ey (i:=i) (jw.mp nd).2 (by simpa using h1) (by simpa using h2) hk
def start(N:List Str)(vs:List V):St:=vs.map some++List.replicate (N.length-vs.length) none
def iH(CX:jo)(P:aO)(w:aN)(K:aw)(mg:Str->Option ae)(base:aC)(N:List Str)(qual:Str)(scope:cR)(f:aa)(cd:ae)(A:bJ)(outer:List Env)(s:aj)(H:Hp)(E:XK):Cx where
 prog:=P
 w:=w
 K:=K
 mg:=mg
 base:=base
 A:=A.deeper (iJ qual scope s.heap.objs.size f cd)
 N:=N
 s_0:=s
 H_0:=H
 env:=iJ qual scope s.heap.objs.size f cd
 outer:=outer
 stack:=iJ qual scope s.heap.objs.size f cd::outer
 ex:=[]
 calm:=true
 fn:=fun _=>true
 pn:=[]
 xe:=fun e s'=>az (aB P w) (A.deeper (iJ qual scope s.heap.objs.size f cd)) (leaving (iJ qual scope s.heap.objs.size f cd) e) (fun _ s''=>CX outer H s E e s'') (fun e' s''=>CX outer H s E e' s'') s'
theorem EN{sc:cR}{n:Nat}{x:Str}(h:sc.names.lookup x=some .cell):∃c,(dY n sc.names []).lookup x=some c:=by
 have q:=Mt sc.names n [] (.inl h);exact DH.mp q
theorem Ox{CX:jo}{P:aO}{w:aN}{K:aw}{mg:Str->Option ae}{base:aC}{N ps:List Str}{qual:Str}{scope:cR}{f:aa}{cd:ae}{A:bJ}{outer:List Env}{s s1:aj}{H:Hp}{E:XK}{us:List ae}{vs:List V}
  (S:aW N ps scope)(hd:A.handled=none)(e0:oq P w K mg base A outer s H)(hl:vs.length=ps.length)(r:aS vs us)
  (x:InCallC s s.heap.objs.size (bindL (iJ qual scope s.heap.objs.size f cd).kindOf (ps.zip us) fun _=>none) (dY (s.heap.objs.size+1) scope.names []) (bindC (iJ qual scope s.heap.objs.size f cd).kindOf (ps.zip us) fun _=>none) s1):
  Inv (iH CX P w K mg base N qual scope f cd A outer s H E) [] (start N vs) H s1:=by
 have hpl:ps.length<=N.length:=by have:=congrArg dS S.pre; rw[cP]at this; omega
 obtain⟨h1,tk,rfl,hk⟩:=x.done;have noA:∀b:aa,b∉(iH CX P w K mg base N qual scope f cd A outer s H E).ex:=fun b z=>absurd (show b∈([]:List aa)from z) (by simp)
 refine⟨⟨e0.mod,S.kind,rfl,rfl,aF _,fun y z c h1 h2=>?_,fun y hy=>?_,fun y c _ h=>?_,fun _=>hd,bJ.frames_deeper e0.frames,.inr ⟨rfl,rfl⟩,fun b z=>absurd z (noA b),e0.bs,e0.bsz,fun b _ _=>noA b,fun b z=>absurd z (noA b),e0.funs,e0.frf⟩,
  rfl,e0.bare,Un.kept hk,⟨_,x.toInCall.ns,fun i y v h1 h2 h3=>?_⟩,fun y c h=>⟨_,x.cell y c h⟩,e0.hok.fresh (aF _),fun y c h=>?_,fun p hp=>absurd (show p∈([]:List (aa×Obj))from hp) (by simp),e0.hok.kept hk,?_⟩
 ·exact name_of_addr x.apart (iC h1) (iC h2)
 ·have hy:scope.names.lookup y=some .cell\/scope.names.lookup y=some .free:=hy;rcases hy with hy|hy
  ·exact EN hy
  ·exact absurd rfl (S.nofree _ (iC hy))
 ·exact jx (x.above y c (iC h))
 ·have hi:i<vs.length:=by
   unfold start at h2;by_cases hi:i<vs.length
   ·exact hi
   ·rw[oA (by simpa using hi)]at h2;rw[List.getElem?_replicate]at h2;split at h2<;>cases h2
  have ha:vs[i]?=some v:=by
   unfold start at h2;rw[jv (by simpa using hi),cH]at h2;cases e:vs[i]? with
   |none=>rw[e]at h2; cases h2
   |some a=>rw[e]at h2; cases h2; rfl
  obtain⟨u,hu,rv⟩:=r.get ha
  have hp:ps[i]?=some y:=by
   rw[<-S.pre,LQ (by omega)]; exact h1
  have ndP:ps.Nodup:=by rw[<-S.pre]; exact S.nd.sublist (List.take_sublist _ _)
  refine⟨u,rv,?_⟩;rcases S.par y (dq hp)with k|k
  ·exact .inl ⟨k,EA ndP hp hu k⟩
  ·obtain⟨c,e⟩:=EN (n:=s.heap.objs.size+1) k;refine .inr ⟨.inl k,c,e,?_⟩;have q:=x.cell y c e;rw[Ey ndP hp hu (by show scope.names.lookup y≠_; rw[k]; decide)]at q;exact q
 ·exact e0.hok.fresh (jx (x.above y c (iC h)))
 ·unfold start;show _=N.length;rw[bt,aE,LV];omega
theorem Af{CX:jo}{P:aO}{w:aN}{K:aw}{mg:Str->Option ae}{base:aC}{k:Nat}{f:aa}{name qual:Str}{params:qe}{body:List aH}{scope:cR}{dV kV doc pm cdv ct oc:ae}{an od:Option aa}
  {osl:Array (Option ae)}{N ps:List Str}{sp:Sp}(lk:K.lookup f=some ⟨oc,od,.func (kf name qual params body scope dV kV doc pm an cdv ct),osl⟩)(hcd:sU K cdv qual=true)(S:aW N ps scope)
  (len:∀vs H Q E,sp vs H Q E->vs.length=ps.length)
  (hbody:∀(A:bJ)(outer:List Env)(s:aj)(H:Hp)(vs:List V)(Q:VK)(E:XK),cy k (A.deeper (iJ qual scope s.heap.objs.size f cdv))->sp vs H Q E->
   ∃t,fo (iH CX P w K mg base N qual scope f cdv A outer s H E) body t/\t {nx:=fun _ H'=>Q .non H',rt:=Q} (start N vs) H):
  gd P w K mg base CX (k+1) f (kf name qual params body scope dV kV doc pm an cdv ct) ps sp:=by
 refine⟨len,fun A outer s H args us vs Q E hr e0 hb r hsp=>?_⟩;have hl:=len _ _ _ _ hsp;have KX:K.In s.heap:=e0.mod.kin.keeps fun b o e=>(e0.bs b o e).1;have lim:s.heap.NoLimit:=e0.mod.nolimit.keeps fun b o e=>(e0.bs b o e).1
 have hkind:∀y∈ps.zip us,scope.names.lookup y.1=some .local\/(scope.names.lookup y.1=some .cell/\((dY (s.heap.objs.size+1) scope.names []).lookup y.1).isSome=true):=fun⟨n,v⟩ hy=>by
  rcases S.par n (Dw hy).1 with q|q
  ·exact .inl q
  ·exact .inr ⟨q,Mt _ _ _ (.inl q)⟩
 refine codeAny_call_function hr.depth (KX _ _ lk) rfl S.co S.gen rfl (PySem.W.codeRec_of KX hcd) (hb _ _ _ _ ?_);refine wpAny_newFunctionEnv_cells S.kind hkind fun env he s1 x=>?_;subst he;refine⟨lim.keeps x.toInCall.keep,codeAny_func ?_⟩;obtain⟨t,ht,hq⟩:=hbody A outer s H vs Q E (hr.deeper _) hsp;have I:Inv (iH CX P w K mg base N qual scope f cdv A outer s H E) [] (start N vs) H s1:=Ox S hr.hd e0 hl r x;refine iq (ht [] s1 (start N vs) H _ I hq) (fun fl s' hs=>?_) fun e s' hs=>hs
 have fin:∀{σ':St}{H':Hp}{v:V}{u:ae},Inv (iH CX P w K mg base N qual scope f cdv A outer s H E) [] σ' H' s'->RelV v u->Q v H'->CE outer P w H s Q u s':=
  fun{σ' H' v u} J rv q=>⟨v,H',J.os,J.bare,J.base,J.hok,rv,q⟩
 cases fl with
 |ret u=>
  obtain⟨v,σ',H',J,rv,q⟩:=hs;exact fin J rv q
 |next=>
  obtain⟨σ',H',J,q⟩:=hs;exact fin (v:=V.non) (u:=iG) J rfl q
 |brk=>
  obtain⟨_,_,_,q⟩:=hs;exact fK q
 |cont=>
  obtain⟨_,_,_,q⟩:=hs;exact fK q
section
variable{X:Cx}{x:Str}{p pos:Pos}{e:aJ}{es:List aJ}{t:TA}{id T:String}{r:List V->Hp->VK->Prop}
def xU(r:List V->Hp->VK->Prop)(t:TA):TE:=fun σ H Q=>t σ H fun vs H1=>r vs H1 Q
theorem jL(hc:jq X (.builtin id) r)(hg:Gl X x)(hm:X.mg x=none)(hv:qX x=some (.builtin id))(ha:PA X (e::es) t)(hn:x≠"__name__":=by decide)(hdb:(x==("__debug__":Str))=false:=by decide)
  (he:bN (e::es) X.env=(false,bw e X.env)::bN es X.env:=by rfl)(hpl:(dX pos (bN es X.env)).any (·.1)=false:=by rfl):PE X (.Call (.Name x p) (e::es) [] pos) (xU r t):=by
 intro pins s σ H Q I h;refine nY (rq I hg hm hv ?_ hn hdb);exact Mn (aQ (ha pos pins s σ H _ I h) fun us s1⟨vs,H1,I1,r1,q1⟩=>hc pins s1 σ H1 vs us Q I1 r1 q1) he hpl
theorem RS(hc:jq X (.type T) r)(hg:Gl X x)(hm:X.mg x=none)(hv:qX x=some (.type T))(ha:PA X (e::es) t)(hn:x≠"__name__":=by decide)(hdb:(x==("__debug__":Str))=false:=by decide)
  (he:bN (e::es) X.env=(false,bw e X.env)::bN es X.env:=by rfl)(hpl:(dX pos (bN es X.env)).any (·.1)=false:=by rfl):PE X (.Call (.Name x p) (e::es) [] pos) (xU r t):=by
 intro pins s σ H Q I h;refine nY (rq I hg hm hv ?_ hn hdb);exact zg (aQ (ha pos pins s σ H _ I h) fun us s1⟨vs,H1,I1,r1,q1⟩=>hc pins s1 σ H1 vs us Q I1 r1 q1) he hpl
end
end L2
namespace HT
open PySem PyProof.Rows
section
open PySem.SeqAt
open PySem.AutoSeq1 (wpAny_loadPart')
open PySem.MeetsSeq PySem.MeetsSeq2 PySem.MeetsSeq3
end
section
variable{prog:aO}{w:aN}{A:bJ}{E:ae->aj->Prop}{s:aj}
def sIx(n d:Nat):Option Int->Nat
 |none=>d
 |some v=>if v<0 then(v+(n:Int)).toNat else min v.toNat n
theorem sIx_none(n d:Nat):sIx n d none=d:=rfl
theorem sIx_nat(n d k:Nat):sIx n d (some (k:Int))=min k n:=by
 show(if(k:Int)<0 then((k:Int)+(n:Int)).toNat else min (k:Int).toNat n)=min k n;rw[if_neg (by omega),fm]
end
end HT
namespace L2
open PySem PySem.Spec PyProof.Rows
abbrev TO:=St->Hp->(Option Int->Hp->Prop)->Prop
def PO(X:Cx)(e:Option aJ)(t:TO):Prop:=
 ∀(pins:List (aa×Obj))(s:aj)(σ:St)(H:Hp)(Q:Option Int->Hp->Prop),Inv X pins σ H s->t σ H Q->
  az (aB X.prog X.w) X.A (evalPart e X.env) (fun u s'=>∃o H',Inv X pins σ H' s'/\IsPart u o/\Q o H') X.xe s
def KS:TO:=fun _ H Q=>Q none H
def KZ(t:TE):TO:=fun σ H Q=>t σ H fun x H1=>∃i,x=.int i/\Q (some i) H1
section
variable{X:Cx}{e:aJ}{te:TE}{lo hi:Option aJ}{tl th:TO}{pos p2:Pos}
theorem mI:PO X none KS:=by
 intro pins s σ H Q I h;rw[evalPart_none];exact aU ⟨none,H,I,.none,h⟩
theorem fW(h:PE X e te):PO X (some e) (KZ te):=by
 intro pins s σ H Q I hw;rw[evalPart_some];refine aQ (h pins s σ H _ I hw) fun u s1⟨x,H1,I1,r1,q1⟩=>?_;obtain⟨i,rfl,q⟩:=q1;obtain⟨t,rfl⟩:=r1;exact⟨some i,H1,I1,.int i t,q⟩
def DY(X:Cx)(r:V->Option Int->Option Int->Hp->VK->Prop):Prop:=
 ∀(pins:List (aa×Obj))(s:aj)(σ:St)(H:Hp)(x:V)(v vl vu:ae)(lo hi:Option Int)(sl:aa)(Q:VK),Inv X pins σ H s->RelV x v->s.heap.IsSliceOf sl vl vu .none->IsPart vl lo->IsPart vu hi->r x lo hi H Q->
  ∃T id,typeLookup (.type T) "__getitem__"=pure (some (.builtin id))/\s.TypeIs v T/\az (aB X.prog X.w) X.A (getItem v (.ref sl)) (EP X pins σ Q) X.xe s
def Lb(r:V->Option Int->Option Int->Hp->VK->Prop)(te:TE)(tl th:TO):TE:=fun σ H Q=>te σ H fun x H1=>tl σ H1 fun l H2=>th σ H2 fun u H3=>r x l u H3 Q
theorem iM{r:V->Option Int->Option Int->Hp->VK->Prop}(hr:DY X r)(he:PE X e te)(hl:PO X lo tl)(hu:PO X hi th):PE X (.Subscript e (.Slice lo hi none p2) pos) (Lb r te tl th):=by
 intro pins s σ H Q I h;refine Subscript_ (aQ (he pins s σ H _ I h) fun v s1⟨x,H1,I1,r1,q1⟩=>?_);refine wpAny_Slice (aQ (hl pins s1 σ H1 _ I1 q1) fun vl s2⟨l,H2,I2,pl,q2⟩=>aQ (hu pins s2 σ H2 _ I2 q2) fun vu s3⟨u,H3,I3,pu,q3⟩=>?_);rw[evalPart_none];refine aU ?_;have I4:Inv X pins σ H3 {s3 with heap:=s3.heap.push {cls:=.type "slice",data:=.fields #[vl,vu,.none]}}:=I3.kept (t':=s3.toks) fun b ob q=>bS _ q;obtain⟨T,id,hT,ht,hg⟩:=hr pins {s3 with heap:=s3.heap.push {cls:=.type "slice",data:=.fields #[vl,vu,.none]}} σ H3 x v vl vu l u s3.heap.objs.size Q I4 r1 (aC.IsSliceOf.new ..) pl pu q3;show az (aB X.prog X.w) X.A (subscriptTail e (.Slice lo hi none p2) v (.ref s3.heap.objs.size)) (EP X pins σ Q) X.xe {s3 with heap:=s3.heap.push {cls:=.type "slice",data:=.fields #[vl,vu,.none]}};exact tail_any (ops:=[.ref s3.heap.objs.size,v]) ht hT hg (by with_unfolding_all rfl)
def dZ(xs:List V)(lo hi:Option Int):List V:=(xs.drop (HT.sIx xs.length 0 lo)).take (HT.sIx xs.length xs.length hi-HT.sIx xs.length 0 lo)
theorem Ny(xs:List V)(lo hi:Option Int):(dZ xs lo hi).length<=xs.length:=by
 unfold dZ;rw[cP,cI];omega
end
def pC(n:Nat)(i:Int):Option Nat:=if 0<=i then(if i<n then some i.toNat else none)else if-(n:Int)<=i then some (i+n).toNat else none
def nv{α:Type}(xs:List α)(i:Int):Option α:=(pC xs.length i).bind fun j=>xs[j]?
theorem OE{n:Nat}{i:Int}{j:Nat}(h:pC n i=some j):seqIndex? i n=some j/\j<n/\ -(n:Int)<=i/\i<n:=by
 unfold pC at h;by_cases h0:0<=i
 ·rw[if_pos h0]at h;by_cases h1:i<n
  ·rw[if_pos h1]at h;have e:i.toNat=j:=eE h;exact⟨by rw[seqIndex_of h0 h1,e],by omega,by omega,h1⟩
  ·rw[if_neg h1]at h; cases h
 ·rw[if_neg h0]at h;by_cases h1: -(n:Int)<=i
  ·rw[if_pos h1]at h;have e:(i+n).toNat=j:=eE h;exact⟨by rw[seqIndex_neg (by omega) h1,e],by omega,h1,by omega⟩
  ·rw[if_neg h1]at h; cases h
theorem El{α:Type}{xs:List α}{i:Int}{v:α}(h:nv xs i=some v):∃j,seqIndex? i xs.length=some j/\xs[j]?=some v/\j<xs.length/\ -(xs.length:Int)<=i/\i<xs.length:=by
 unfold nv at h;cases e:pC xs.length i with
 |none=>rw[e]at h; cases h
 |some j=>
  rw[e]at h;obtain⟨h1,h2,h3,h4⟩:=OE e;exact⟨j,h1,h,h2,h3,h4⟩
theorem Em{α:Type}{xs:List α}{j:Nat}{v:α}(h:xs[j]?=some v):nv xs (j:Int)=some v:=by
 have hj:j<xs.length:=(aK.mp h).1
 have e:pC xs.length (j:Int)=some j:=by
  unfold pC;rw[if_pos (by omega),if_pos (by omega)]; simp
 unfold nv; rw[e]; exact h
def Ml(b:aJ):Prop:=∀o i,Co b false o i=operate [o,i] (getItem o i)
def ve(X:Cx)(r:R2):Prop:=
 ∀(value slice:aJ)(pins:List (aa×Obj))(s:aj)(σ:St)(H:Hp)(x y:V)(v u:ae)(Q:VK),Inv X pins σ H s->RelV x v->RelV y u->r x y H Q->
  Co slice false v u=operate [v,u] (getItem v u)->az (aB X.prog X.w) X.A (subscriptTail value slice v u) (EP X pins σ Q) X.xe s
def yX(X:Cx)(id:String)(r:V->List V->Hp->VK->Prop):Prop:=
 ∀(pins:List (aa×Obj))(s:aj)(σ:St)(H:Hp)(x:V)(xs:List V)(v:ae)(us:List ae)(Q:VK),Inv X pins σ H s->RelV x v->aS xs us->r x xs H Q->
  az (aB X.prog X.w) X.A (call (.builtin id) (v::us)) (EP X pins σ Q) X.xe s
section
variable{X:Cx}{a b:aJ}{ta tb:TE}{pos:Pos}
theorem bM{r:R2}(hr:ve X r)(ha:PE X a ta)(hb:PE X b tb)(hs:Ml b):PE X (.Subscript a b pos) (uO r ta tb):=by
 intro pins s σ H Q I h;exact Subscript_ (zG ha hb I h fun v u s2 x y H2 I2 rx ry q=>hr a b pins s2 σ H2 x y v u Q I2 rx ry q (hs _ _))
def uw(K:aw):R2:=fun x y H Q=>∃p xs i v,x=.ref p/\y=.int i/\ak K H p xs/\nv xs i=some v/\Q v H
def BJ(K:aw):R2:=fun x y H Q=>∃p xs i v,x=.ref p/\y=.int i/\bQ K H p xs/\nv xs i=some v/\Q v H
theorem eT:ve X (uw X.K):=by
 intro value slice pins s σ H x y v u Q I rx ry h hs;obtain⟨p,xs,i,z,rfl,rfl,hq,he,q⟩:=h;cases rx;obtain⟨t,rfl⟩:=ry;obtain⟨its,r,pl,hz⟩:=I.list hq;obtain⟨j,h1,h2,h3,h4,h5⟩:=El he;obtain⟨w,ew,rw'⟩:=r.get h2;have hl:=r.length;have hn:=wW;have fin:EP X pins σ Q w s:=⟨z,H,I,rw',q⟩;by_cases h0:0<=i
 ·have hj:i.toNat=j:=by
   rw[seqIndex_of h0 h5]at h1;exact eE h1
  exact item_listR pl.isList h0 (by omega) (by rw[hj]; simpa using ew) fin hs
 ·have hj:(i+(its.toArray.size:Int)).toNat=j:=by
   rw[seqIndex_neg (by omega) h4]at h1;rw[eY,<-hl];exact eE h1
  exact Wk (x:=w) pl.isList.typeIs slot_list_getitem.lookup
   (wpAny_getItem_list_neg (Q:=fun r s'=>r=w/\EP X pins σ Q r s') pl.isList (by omega) (by rw[eY]<;>omega) (by omega) (by rw[hj]; simpa using ew) ⟨rfl,fin⟩) hs
theorem dg:ve X (BJ X.K):=by
 intro value slice pins s σ H x y v u Q I rx ry h hs;obtain⟨p,xs,i,z,rfl,rfl,hq,he,q⟩:=h;cases rx;obtain⟨t,rfl⟩:=ry;obtain⟨its,r,pl,hz⟩:=I.tuple hq;obtain⟨j,h1,h2,h3,h4,h5⟩:=El he;obtain⟨w,ew,rw'⟩:=r.get h2;have hl:=r.length;have hn:=wW;have fin:EP X pins σ Q w s:=⟨z,H,I,rw',q⟩
 exact Wk (x:=w) pl.typeIs slot_tuple_getitem.lookup
  (getItem_tuple (j:=j) (Q:=fun r s'=>r=w/\EP X pins σ Q r s') pl (by omega) (by omega) (by rw[eY,<-hl]; exact h1) (by simpa using ew) ⟨rfl,fin⟩) hs
theorem UF(lo hi:Option Int)(n:Nat):(rT lo hi none n).1=((HT.sIx n 0 lo:Nat):Int)/\(rT lo hi none n).2.1=((HT.sIx n n hi:Nat):Int)/\(rT lo hi none n).2.2=1:=by
 refine⟨?_,?_,rfl⟩
 ·cases lo with
  |none=>simp[rT,HT.sIx]
  |some i=>
   simp only[rT,HT.sIx,DG,show(1:Int)>0 by decide,if_true];by_cases h:i<0
   ·simp only[h,if_true]<;>omega
   ·simp only[h,if_false]<;>omega
 ·cases hi with
  |none=>simp[rT,HT.sIx]
  |some i=>
   simp only[rT,HT.sIx,DG,show(1:Int)>0 by decide,if_true];by_cases h:i<0
   ·simp only[h,if_true]<;>omega
   ·simp only[h,if_false]<;>omega
theorem UE(its:List ae)(lo hi:Option Int):slicePick its.toArray lo hi none=((its.drop (HT.sIx its.length 0 lo)).take (HT.sIx its.length its.length hi-HT.sIx its.length 0 lo)).toArray:=by
 obtain⟨h1,h2,h3⟩:=UF lo hi its.toArray.size;unfold slicePick;rw[h1,h2,h3];simp only[sliceRange_one,pick_run,eY]<;>rfl
def mK(K:aw):V->Option Int->Option Int->Hp->VK->Prop:=fun x lo hi H Q=>∃a xs,x=.ref a/\ak K H a xs/\∀p,H p=none->Q (.ref p) (ah H p (.lst (dZ xs lo hi)))
theorem iN:DY X (mK X.K):=by
 intro pins s σ H x v vl vu lo hi sl Q I rx hs pl pu h;obtain⟨a,xs,rfl,hx,q⟩:=h;cases rx;obtain⟨its,r,ht,hz⟩:=I.list hx;have hlen:=r.length;refine⟨"list",_,slot_list_getitem.lookup,ht.isList.typeIs,?_⟩;refine wpAny_getItem_list_slice ht.isList hs pl pu .none (by simp) ?_ (by rw[eY]<;>omega);rw[UE,<-hlen];refine⟨.ref s.heap.objs.size,_,I.laid (t':=s.toks) (o:=.lst (dZ xs lo hi)) (fun b ob q=>bS _ q) (aF _) ?_,rfl,q _ (I.hok.fresh (aF _))⟩;exact⟨dW (Ny xs lo hi) hz,_,0,(r.drop (HT.sIx xs.length 0 lo)).take (HT.sIx xs.length xs.length hi-HT.sIx xs.length 0 lo),dz _ rfl⟩
def iK:V->Bool
 |.non=>true
 |.bl _=>true
 |.int _=>true
 |.str _=>true
 |_=>false
def nE:V->V->Bool
 |.non,.non=>true
 |.bl a,.bl b=>a==b
 |.bl a,.int b=>(if a then 1 else 0)==b
 |.int a,.bl b=>a==(if b then 1 else 0)
 |.int a,.int b=>a==b
 |.str a,.str b=>a==b
 |_,_=>false
theorem Oa{A:bJ}{s:aj}{y x:V}{u v:ae}(ry:RelV y u)(rx:RelV x v)(fy:iK y=true)(fx:iK x=true):fR A s u v (nE y x):=by
 cases y with
 |non=>
  cases ry;cases x with
  |non=>cases rx; exact fR.same _
  |bl b=>cases rx; exact fR.none_bool b
  |int b=>obtain⟨t,rfl⟩:=rx; exact fR.none_int b t
  |str b=>obtain⟨t,rfl⟩:=rx; exact fR.none_str b t
  |_=>exact absurd (show false=true from fx) fz
 |bl a=>
  cases ry;cases x with
  |non=>cases rx; exact fR.bool_none a
  |bl b=>cases rx; exact fR.bool_bool a b
  |int b=>obtain⟨t,rfl⟩:=rx; exact fR.bool_int a b t
  |str b=>obtain⟨t,rfl⟩:=rx; exact fR.bool_str a b t
  |_=>exact absurd (show false=true from fx) fz
 |int a=>
  obtain⟨t',rfl⟩:=ry;cases x with
  |non=>cases rx; exact fR.int_none a t'
  |bl b=>cases rx; exact fR.int_bool a t' b
  |int b=>obtain⟨t,rfl⟩:=rx; exact fR.int_int a t' b t
  |str b=>obtain⟨t,rfl⟩:=rx; exact fR.int_str a t' b t
  |_=>exact absurd (show false=true from fx) fz
 |str a=>
  obtain⟨t',rfl⟩:=ry;cases x with
  |non=>cases rx; exact fR.str_none a t'
  |bl b=>cases rx; exact fR.str_bool a t' b
  |int b=>obtain⟨t,rfl⟩:=rx; exact fR.str_int a t' b t
  |str b=>obtain⟨t,rfl⟩:=rx; exact fR.str_str a t' b t
  |_=>exact absurd (show false=true from fx) fz
 |_=>exact absurd (show false=true from fy) fz
def ig(x:V)(u:ae):Bool:=match u with
 |.none=>nE .non x
 |.bool b=>nE (.bl b) x
 |.int i _=>nE (.int i) x
 |.str z _=>nE (.str z) x
 |_=>false
theorem Fw{x y:V}{u:ae}(r:RelV y u)(f:iK y=true):ig x u=nE y x:=by
 cases y with
 |non=>cases r; rfl
 |bl b=>cases r; rfl
 |int i=>obtain⟨t,rfl⟩:=r; rfl
 |str z=>obtain⟨t,rfl⟩:=r; rfl
 |_=>exact absurd (show false=true from f) fz
theorem tf{x:V}:∀{xs:List V}{us:List ae},aS xs us->xs.all iK=true->us.any (ig x)=xs.any fun y=>nE y x
 |_,_,.nil,_=>rfl
 |y::xs,u::us,.cons r t,f=>by
  rw[vh,cA]at f;rw[qr,qr,Fw r f.1,tf t f.2]
theorem ua{A:bJ}{s:aj}{x:V}{v:ae}(rx:RelV x v)(fx:iK x=true):∀{xs:List V}{us:List ae},aS xs us->xs.all iK=true->∀u∈us,fR A s u v (ig x u)
 |_,_,.nil,_=>fun u hu=>by cases hu
 |y::xs,u::us,.cons r t,f=>fun u' hu=>by
  rw[vh,cA]at f;rcases bg.mp hu with rfl|hu
  ·rw[Fw r f.1]; exact Oa r rx f.1 fx
  ·exact ua rx fx t f.2 u' hu
def gw(x:V)(xs:List V):Bool:=xs.any fun y=>nE y x
def pU(K:aw)(neg:Bool):R2:=fun x y H Q=>∃p xs,y=.ref p/\(ak K H p xs\/bQ K H p xs)/\iK x=true/\xs.all iK=true/\Q (.bl (if neg then !gw x xs else gw x xs)) H
theorem xo:dr X (fG .In) (pU X.K false):=by
 intro pins s σ H x y v u Q I rx ry h;obtain⟨p,xs,rfl,hq,fx,fs,q⟩:=h;cases ry;rcases hq with hq|hq
 ·obtain⟨its,r,pl,hz⟩:=I.list hq;refine SeqAt.in_listAt (ig x) pl.isList (fun w hw=>ua rx fx r fs w (by simpa using hw)) ⟨.bl _,H,I,rfl,?_⟩;rw[show its.toArray.any (ig x)=its.any (ig x) by simp,tf r fs];exact q
 ·obtain⟨its,r,pl,hz⟩:=I.tuple hq;refine SeqAt.in_tupleAt (ig x) pl (fun w hw=>ua rx fx r fs w (by simpa using hw)) ⟨.bl _,H,I,rfl,?_⟩;rw[show its.toArray.any (ig x)=its.any (ig x) by simp,tf r fs];exact q
theorem RA:dr X (fG .NotIn) (pU X.K true):=by
 intro pins s σ H x y v u Q I rx ry h;obtain⟨p,xs,rfl,hq,fx,fs,q⟩:=h;cases ry;rcases hq with hq|hq
 ·obtain⟨its,r,pl,hz⟩:=I.list hq;refine SeqAt.notIn_listAt (ig x) pl.isList (fun w hw=>ua rx fx r fs w (by simpa using hw)) ⟨.bl _,H,I,rfl,?_⟩;rw[show its.toArray.any (ig x)=its.any (ig x) by simp,tf r fs];exact q
 ·obtain⟨its,r,pl,hz⟩:=I.tuple hq;refine SeqAt.notIn_tupleAt (ig x) pl (fun w hw=>ua rx fx r fs w (by simpa using hw)) ⟨.bl _,H,I,rfl,?_⟩;rw[show its.toArray.any (ig x)=its.any (ig x) by simp,tf r fs];exact q
theorem Nd:jq X (.builtin "len") (fun xs H Q=>∃p ys,xs=[.ref p]/\(ak X.K H p ys\/bQ X.K H p ys)/\Q (.int ys.length) H):=by
 intro pins s σ H xs us Q I r h;obtain⟨p,ys,rfl,hq,q⟩:=h;obtain⟨u,rfl,rx⟩:=vals1 r;cases rx;have hn:=wW;rcases hq with hq|hq
 ·obtain⟨its,r',pl,hz⟩:=I.list hq;have hlen:=r'.length;exact LB pl.isList (by simp only[eY]<;>omega) ⟨.int ys.length,H,I.tok _,⟨s.toks+1,by rw[eY,hlen]⟩,q⟩
 ·obtain⟨its,r',pl,hz⟩:=I.tuple hq;have hlen:=r'.length;exact len_tuple pl (by simp only[eY]<;>omega) ⟨.int ys.length,H,I.tok _,⟨s.toks+1,by rw[eY,hlen]⟩,q⟩
def rY(K:aw)(T:String)(x:V)(H:Hp):Prop:=match x with
 |.str _=>T="str"
 |.int _=>T="int"
 |.ref p=>(T="list"/\∃xs,ak K H p xs)\/(T="tuple"/\∃o,K.lookup p=some o/\o.cls=.type "tuple"/\o.dict=none)\/
   (T="dict"/\((∃kvs,H p=some (.dK kvs))\/∃kvs,H p=some (.dT kvs)))\/(T="set"/\∃S n,H p=some (.set S n))
 |_=>False
theorem Lj{pins:List (aa×Obj)}{σ:St}{H:Hp}{s:aj}{T:String}{x:V}{v:ae}(I:Inv X pins σ H s)(r:RelV x v)(ty:rY X.K T x H):
  s.TypeIs v T/\∀a,v=.ref a->∃ob,s.heap.get? a=some ob/\ob.dict=none:=by
 cases x with
 |str z=>
  obtain⟨t,rfl⟩:=r;cases(show T="str" from ty);exact⟨typeIs_str s z t,fun _ e=>nomatch e⟩
 |int i=>
  obtain⟨t,rfl⟩:=r;cases(show T="int" from ty);exact⟨typeIs_int s i t,fun _ e=>nomatch e⟩
 |ref p=>
  cases r;rcases ty with⟨rfl,xs,hq⟩|⟨rfl,o,hk,hc,hd⟩|⟨rfl,hk⟩|⟨rfl,S,n,hk⟩
  ·obtain⟨its,_,pl,_⟩:=I.list hq;refine⟨pl.isList.typeIs,fun a e=>?_⟩;cases e;obtain⟨o,n,e,c,hd,_⟩:=pl;exact⟨o,e,hd⟩
  ·refine⟨⟨o,I.kIn p o hk,hc⟩,fun a e=>?_⟩;cases e;exact⟨o,I.kIn _ o hk,hd⟩
  ·have z:∃o,s.heap.get? p=some o/\o.ExactDict:=by
    rcases hk with⟨kvs,hk⟩|⟨kvs,hk⟩
    ·obtain⟨_,_,_,_,o,_,_,e,ex,_⟩:=I.hok p _ hk;exact⟨o,e,ex⟩
    ·obtain⟨_,_,_,_,o,_,_,e,ex,_⟩:=I.hok p _ hk;exact⟨o,e,ex⟩
   obtain⟨o,e,ex⟩:=z;refine⟨⟨o,e,ex.1⟩,fun a e2=>?_⟩;cases e2;exact⟨o,e,ex.2.1⟩
  ·obtain⟨o,_,_,_,e,ex,_⟩:=I.hok p _ hk;refine⟨⟨o,e,ex.1⟩,fun a e2=>?_⟩;cases e2;exact⟨o,e,ex.2.1⟩
 |_=>exact fK ty
def KH(K:aw)(T:String)(r:V->List V->Hp->VK->Prop)(to:TE):TE:=fun σ H Q=>to σ H fun x H1=>rY K T x H1/\r x [] H1 Q
def Cp(K:aw)(T:String)(r:V->List V->Hp->VK->Prop)(to:TE)(t:TA):TE:=fun σ H Q=>to σ H fun x H1=>rY K T x H1/\t σ H1 fun xs H2=>r x xs H2 Q
variable{o e:aJ}{es:List aJ}{to:TE}{t:TA}{name:Str}{apos cpos:Pos}{T id:String}{r:V->List V->Hp->VK->Prop}
theorem HG(pa:PlainAttrs T)(slot:Slot T name id)(hty:typeOf (.builtin id)=pure (.type "method_descriptor"))(hm:yX X id r)(ho:PE X o to)
  (hbase:tj o name X.env (bw o X.env)=bw o X.env:=by rfl)(hline:(apos.endLine==cpos.line)=true:=by rfl):PE X (.Call (.Attribute o name apos) [] [] cpos) (KH X.K T r to):=by
 intro pins s σ H Q I h;refine wpAny_Call_method0_late hbase hline (aQ (ho pins s σ H _ I h) fun v s1⟨x,H1,I1,r1,ty,q1⟩=>?_);obtain⟨h1,h2⟩:=Lj I1 r1 ty;exact⟨T,id,pa,slot,hty,h1,h2,Dc rfl (PySem.evalArgs_none (hm pins s1 σ H1 x [] v [] Q I1 r1 .nil q1))⟩
theorem eJ(pa:PlainAttrs T)(slot:Slot T name id)(hty:typeOf (.builtin id)=pure (.type "method_descriptor"))(hm:yX X id r)(ho:PE X o to)(ha:PA X (e::es) t)
  (hbase:tj o name X.env (bw o X.env)=bw o X.env:=by rfl)
  (hfew:((dX cpos (bN (e::es) X.env)).all (fun x=>!x.1)&&(oZ cpos (pE [] X.env)).all (fun x=>x.1.isSome)
   &&decide ((e::es).length+([]:List Keyword).length+(if([]:List Keyword).isEmpty then 0 else 1)<30))=true:=by rfl)
  (hline:(apos.endLine==cpos.line)=true:=by rfl)(hs:bN (e::es) X.env=(false,bw e X.env)::bN es X.env:=by rfl)(hplain:(dX cpos (bN es X.env)).any (·.1)=false:=by rfl):
  PE X (.Call (.Attribute o name apos) (e::es) [] cpos) (Cp X.K T r to t):=by
 intro pins s σ H Q I h;refine wpAny_Call_method_late hbase hfew hline rfl (aQ (ho pins s σ H _ I h) fun v s1⟨x,H1,I1,r1,ty,q1⟩=>?_);obtain⟨h1,h2⟩:=Lj I1 r1 ty;refine⟨T,id,pa,slot,hty,h1,h2,?_⟩;have hA:=ha cpos pins s1 σ H1 _ I1 q1;rw[hs]at hA⊢;refine Dc (by show(false||(dX cpos (bN es X.env)).any (·.1))=false; rw[hplain]<;>rfl) (Dd ?_);exact aQ hA fun us s2⟨vs,H2,I2,r2,q2⟩=>hm pins s2 σ H2 x vs v us Q I2 r1 r2 q2
end
def yW(X:Cx)(id:String)(r:V->List V->Hp->VK->Prop):Prop:=
 ∀(pins:List (aa×Obj))(s:aj)(σ:St)(H:Hp)(x:V)(xs:List V)(v:ae)(us:List ae)(Q:VK),Inv X pins σ H s->RelV x v->aS xs us->r x xs H Q->
  az (aB X.prog X.w) X.A (call (.builtin id) (v::us)) (EP X pins σ Q) X.xe s
theorem aS.one:∀{x:V}{us:List ae},aS [x] us->∃u,us=[u]/\RelV x u
 |_,_,.cons r .nil=>⟨_,rfl,r⟩
theorem aS.eraseIdx:∀{xs:List V}{us:List ae}(i:Nat),aS xs us->aS (xs.eraseIdx i) (us.eraseIdx i)
 |_,_,_,.nil=>.nil
 |_,_,0,.cons _ t=>t
 |_,_,i+1,.cons r t=>.cons r (aS.eraseIdx i t)
theorem Gr{α:Type}:∀(l:List α)(i:Nat),(l.eraseIdx i).length<=l.length
 | [],_=>aF _
 |_::_,0=>sN _
 |_::r,i+1=>Nat.succ_le_succ (Gr r i)
section
variable{X:Cx}{pins:List (aa×Obj)}{σ:St}{H:Hp}{s:aj}{l b:aa}{xs ys zs:List V}
theorem Inv.lset{its its':List ae}{n:Nat}{f:Array ae->Array ae}{t':Nat}(I:Inv X pins σ H s)(hH:H l=some (.lst xs))
  (e:s.heap.get? l=some {cls:=.type "list",data:=.seq its.toArray n})(hf:f its.toArray=its'.toArray)(hv:aS ys its')(hz:ys.length<=aY):
  Inv X pins σ (ah H l (.lst ys)) {s with heap:=s.heap.update l (sP f),toks:=t'}:=by
 have q:=PySem.IsL.update e f;rw[hf]at q;refine I.write (x:=l) (e:=l) (by rw[hH]; exact trivial) (.inl rfl) (fun b' u hb hu=>(kM s.heap (sP f) (bq hb)).trans hu) ⟨_,q⟩ ?_;exact⟨hz,its',_,hv,q⟩
theorem Inv.lnew{its:List ae}{t':Nat}(I:Inv X pins σ H s)(hv:aS ys its)(hz:ys.length<=aY):
  Inv X pins σ (ah H s.heap.objs.size (.lst ys)) {s with heap:=s.heap.push {cls:=.type "list",data:=.seq its.toArray},toks:=t'}:=
 I.laid (fun _ _ q=>bS _ q) (aF _) ⟨hz,its,0,hv,dz _ rfl⟩
theorem Inv.fresh(I:Inv X pins σ H s):H s.heap.objs.size=none:=I.hok.fresh (aF _)
theorem Inv.lstM(I:Inv X pins σ H s)(hH:H l=some (.lst xs)):xs.length<=aY/\∃(its:List ae)(n:Nat),aS xs its/\xs.length=its.length/\s.heap.get? l=some {cls:=.type "list",data:=.seq its.toArray n}:=by
 obtain⟨z,its,n,r,e⟩:=I.hok l _ hH;exact⟨z,its,n,r,r.length,e⟩
theorem Qm{n:Nat}(h:n<=aY):CV n=false:=by
 unfold CV;exact dF (by omega)
end
section
variable{X:Cx}
def BI:V->List V->Hp->VK->Prop:=fun x vs H Q=>∃l xs y,x=.ref l/\vs=[y]/\H l=some (.lst xs)/\xs.length<aY/\Q .non (ah H l (.lst (xs++[y])))
theorem fV:yW X "list.append" BI:=by
 intro pins s σ H x vs v us Q I rx rv h;obtain⟨l,xs,y,rfl,rfl,hH,hz,q⟩:=h;cases rx;obtain⟨u,rfl,ru⟩:=rv.one;obtain⟨z,its,n,r,hl,e⟩:=I.lstM hH;refine call_meets F.slot_list_append ⟨_,e,rfl⟩ F.entry_list_append (F.args_list_append_2 _ _) (PySem.list_append l its.toArray n u (by rw[eY]; omega)) ⟨e,?_⟩;refine⟨.non,_,I.lset (its':=its++[u]) hH e (by simp) (r.append (.cons ru .nil)) ?_,rfl,q⟩;rw[bt,dJ];omega
def HQ:V->List V->Hp->VK->Prop:=fun x vs H Q=>∃l b xs zs,x=.ref l/\vs=[.ref b]/\H l=some (.lst xs)/\H b=some (.lst zs)/\xs.length+zs.length<=aY/\Q .non (ah H l (.lst (xs++zs)))
theorem xg:yW X "list.extend" HQ:=by
 intro pins s σ H x vs v us Q I rx rv h;obtain⟨l,b,xs,zs,rfl,rfl,hH,hB,hz,q⟩:=h;cases rx;obtain⟨u,rfl,ru⟩:=rv.one;cases ru;obtain⟨z,its,n,r,hl,e⟩:=I.lstM hH;obtain⟨z2,its2,n2,r2,hl2,e2⟩:=I.lstM hB;have hsz:its.toArray.size+its2.toArray.size<=aY:=by rw[eY,eY]; omega
 have hlong: ¬(!its.toArray.isEmpty&&CV (its.toArray.size+its2.toArray.size))=true:=by
  rw[Qm hsz,Bool.and_false];exact fz
 refine call_meets F.slot_list_extend ⟨_,e,rfl⟩ F.entry_list_extend (F.args_list_extend_2 _ _)
  (AutoSeq1.list_extend_list_list_0 l its.toArray n b its2.toArray n2 hlong (by rw[eY]; omega) (by omega)) ⟨e,e2,?_⟩
 refine⟨.non,_,I.lset (its':=its++its2) hH e (by simp) (r.append r2) ?_,rfl,q⟩;rw[bt];omega
def SC:V->List V->Hp->VK->Prop:=fun x vs H Q=>∃l xs i k y,x=.ref l/\vs=[.int i]/\H l=some (.lst xs)/\ -(2^63)<=i/\i<2^63/\seqIndex? i xs.length=some k/\xs[k]?=some y/\Q y (ah H l (.lst (xs.eraseIdx k)))
theorem PU:yW X "list.pop" SC:=by
 intro pins s σ H x vs v us Q I rx rv h;obtain⟨l,xs,i,k,y,rfl,rfl,hH,h1,h2,hk,hy,q⟩:=h;cases rx;obtain⟨u,rfl,ru⟩:=rv.one;obtain⟨t,rfl⟩:=ru;obtain⟨z,its,n,r,hl,e⟩:=I.lstM hH;obtain⟨w,hw,rw'⟩:=r.get hy
 refine call_meets F.slot_list_pop ⟨_,e,rfl⟩ F.entry_list_pop (F.args_list_pop_2 _ _)
  (MeetsSeq.list_pop_at l its.toArray n i t k w (fitsIndex_both h1 h2) (by rw[eY,<-hl]; exact hk) (by rw[<-ir]; exact hw) (by rw[eY]; omega)) ⟨e,?_⟩
 refine⟨y,_,I.lset (its':=its.eraseIdx k) hH e ?_ (r.eraseIdx k) ?_,rw',q⟩
 ·show its.toArray.eraseIdxIfInBounds k=(its.eraseIdx k).toArray;rw[List.eraseIdxIfInBounds_toArray]
 ·have:=Gr xs k;omega
def uv:R2:=fun x y H Q=>∃l b xs zs,x=.ref l/\y=.ref b/\H l=some (.lst xs)/\H b=some (.lst zs)/\xs.length+zs.length<=aY/\∀p,H p=none->Q (.ref p) (ah H p (.lst (xs++zs)))
theorem rH:dr X (nz .Add) uv:=by
 intro pins s σ H x y v u Q I rx ry h;obtain⟨l,b,xs,zs,rfl,rfl,hH,hB,hz,q⟩:=h;cases rx;cases ry;obtain⟨z,its,n,r,hl,e⟩:=I.lstM hH;obtain⟨z2,its2,n2,r2,hl2,e2⟩:=I.lstM hB;refine PySem.P.add_list e e2 ?_ (by rw[eY,eY]; omega);have ea:its.toArray++its2.toArray=(its++its2).toArray:=by simp
 rw[ea];exact⟨.ref _,_,I.lnew (t':=s.toks) (r.append r2) (by rw[bt]; omega),rfl,q _ I.fresh⟩
end
theorem aS.ints:∀{ns:List Int}{us:List ae},aS (ns.map V.int) us->jt us ns
 | [],us,h=>by
  rw[sH]at h;cases h;exact jt.nil
 |n::ns,us,h=>by
  rw[cV]at h;cases h with
  |cons r t=>
   obtain⟨k,rfl⟩:=r;exact jt.cons n k (aS.ints t)
theorem Ln:∀{us:List ae}{ns:List Int},jt us ns->aS (ns.map V.int) us
 |_,_,.nil=>by rw[sH]; exact bH.nil
 |_,_,.cons n t h=>by rw[cV]; exact bH.cons (show RelV (V.int n) (km n t)from⟨t,rfl⟩) (Ln h)
theorem aS.bls:∀{bs:List Bool}{us:List ae},aS (bs.map V.bl) us->us=bs.map oV
 | [],us,h=>by
  rw[sH]at h;cases h;rfl
 |b::bs,us,h=>by
  rw[cV]at h;cases h with
  |cons r t=>
   cases r;rw[aS.bls t,cV]
theorem aS.ref1{a:aa}{us:List ae}(r:aS [V.ref a] us):us=[cK a]:=by
 cases r with
 |cons r t=>
  cases t;cases r;rfl
section
variable{prog:aO}{w:aN}{A:bJ}{E:ae->aj->Prop}{s:aj}{l:aa}{its:List ae}{ns:List Int}{Q:ae->aj->Prop}
theorem Wl(hh:A.handled=none)(hl:s.heap.IsList l its.toArray)(hi:jt its ns)
  (h:∀h' tk t',(∀b o,s.heap.get? b=some o->h'.get? b=some o)->Q (.int ns.sum t') {s with heap:=h',toks:=tk}):az (aB prog w) A (call (.builtin "sum") [.ref l]) Q E s:=by
 obtain⟨xs,e⟩:=hi.allInts.items;have hn:numsOf (intItems xs).toList=ns:=by rw[<-e]; exact hi.numsOf
 rw[nums_intItems]at hn;rw[e]at hl;refine PySem.sum_intListG hh hl fun h' tk t' hk=>?_;have:=h h' tk t' hk;rw[preSum_eq,ka (by simp),hn]; exact this
theorem PL(hh:A.handled=none)(hl:s.heap.IsList l its.toArray)(hi:jt its ns)(hne:0<ns.length)
  (h:∀h' tk M t',(∀b o,s.heap.get? b=some o->h'.get? b=some o)->M∈ns->(∀a,a∈ns->a<=M)->Q (.int M t') {s with heap:=h',toks:=tk}):az (aB prog w) A (call (.builtin "max") [.ref l]) Q E s:=by
 obtain⟨xs,e⟩:=hi.allInts.items;have hn:numsOf (intItems xs).toList=ns:=by rw[<-e]; exact hi.numsOf
 rw[nums_intItems]at hn;subst hn;rw[e]at hl;have hsz:0<xs.size:=by simpa using hne
 refine PySem.max_intList hh hl hsz fun v h' tk hv hk=>?_;obtain⟨t,rfl⟩:=intItems_at hv;obtain⟨h1,h2⟩:=argBest_gt (numAt xs) (xs.size-1);refine h h' tk _ t hk ?_ fun a ha=>?_
 ·rw[numAt_eq]; exact PySem.getD_mem (by rw[aE,gc]; omega)
 ·obtain⟨j,hj,rfl⟩:=mem_getD ha;rw[aE,gc]at hj;rw[<-numAt_eq]; exact h2 j (by omega)
theorem PN(hh:A.handled=none)(hl:s.heap.IsList l its.toArray)(hi:jt its ns)(hne:0<ns.length)
  (h:∀h' tk M t',(∀b o,s.heap.get? b=some o->h'.get? b=some o)->M∈ns->(∀a,a∈ns->M<=a)->Q (.int M t') {s with heap:=h',toks:=tk}):az (aB prog w) A (call (.builtin "min") [.ref l]) Q E s:=by
 obtain⟨xs,e⟩:=hi.allInts.items;have hn:numsOf (intItems xs).toList=ns:=by rw[<-e]; exact hi.numsOf
 rw[nums_intItems]at hn;subst hn;rw[e]at hl;have hsz:0<xs.size:=by simpa using hne
 refine PySem.min_intList hh hl hsz fun v h' tk hv hk=>?_;obtain⟨t,rfl⟩:=intItems_at hv;obtain⟨h1,h2⟩:=argBest_lt (numAt xs) (xs.size-1);refine h h' tk _ t hk ?_ fun a ha=>?_
 ·rw[numAt_eq]; exact PySem.getD_mem (by rw[aE,gc]; omega)
 ·obtain⟨j,hj,rfl⟩:=mem_getD ha;rw[aE,gc]at hj;rw[<-numAt_eq]; exact h2 j (by omega)
end
section
variable{X:Cx}
def SF(K:aw):List V->Hp->VK->Prop:=fun vs H Q=>∃(a:aa)(ns:List Int),vs=[V.ref a]/\ak K H a (ns.map V.int)/\Q (.int ns.sum) H
def Sz(K:aw):List V->Hp->VK->Prop:=fun vs H Q=>∃(a:aa)(ns:List Int),vs=[V.ref a]/\ak K H a (ns.map V.int)/\0<ns.length/\∀m,m∈ns->(∀y,y∈ns->y<=m)->Q (.int m) H
def SA(K:aw):List V->Hp->VK->Prop:=fun vs H Q=>∃(a:aa)(ns:List Int),vs=[V.ref a]/\ak K H a (ns.map V.int)/\0<ns.length/\∀m,m∈ns->(∀y,y∈ns->m<=y)->Q (.int m) H
theorem EW(hc:X.calm=true):jq X (.builtin "sum") (SF X.K):=by
 intro pins s σ H vs us Q I r h;obtain⟨a,ns,rfl,hs,q⟩:=h;obtain⟨its,rv,hl,_⟩:=I.list hs;rw[aS.ref1 r];exact Wl (I.ok.hd hc) hl.isList rv.ints fun h' tk t' hk=>⟨.int _,H,I.kept hk,⟨_,rfl⟩,q⟩
theorem Nu(hc:X.calm=true):jq X (.builtin "max") (Sz X.K):=by
 intro pins s σ H vs us Q I r h;obtain⟨a,ns,rfl,hs,hne,q⟩:=h;obtain⟨its,rv,hl,_⟩:=I.list hs;rw[aS.ref1 r];exact PL (I.ok.hd hc) hl.isList rv.ints hne fun h' tk m t' hk h1 h2=>⟨.int _,H,I.kept hk,⟨_,rfl⟩,q m h1 h2⟩
theorem EV(hc:X.calm=true):jq X (.builtin "min") (SA X.K):=by
 intro pins s σ H vs us Q I r h;obtain⟨a,ns,rfl,hs,hne,q⟩:=h;obtain⟨its,rv,hl,_⟩:=I.list hs;rw[aS.ref1 r];exact PN (I.ok.hd hc) hl.isList rv.ints hne fun h' tk m t' hk h1 h2=>⟨.int _,H,I.kept hk,⟨_,rfl⟩,q m h1 h2⟩
end
theorem Gc{prog:aO}{w:aN}{A:bJ}{E:ae->aj->Prop}{s:aj}{l:aa}{items:Array ae}{Q:ae->aj->Prop}(hl:s.heap.IsList l items)
  (h:∀s₂:aj,s₂={s with heap:=s.heap.push {cls:=.type "list_iterator",data:=.fields #[.ref l,.int 0 0]}}->
   (s₂.heap.IsListIter s.heap.objs.size l 0/\s₂.heap.IsList l items)->l≠s.heap.objs.size->Q (.ref s.heap.objs.size) s₂):az (aB prog w) A (pyIter (.ref l)) Q E s:=by
 have hlt:l<s.heap.objs.size:=by obtain⟨_,e,_⟩:=hl; exact bO e
 exact Lu hl (h _ rfl ⟨⟨_,dz _ rfl,rfl,rfl⟩,hl.push _⟩ (cJ hlt))
theorem Li{prog:aO}{w:aN}{A:bJ}{bs:List Bool}{its:List ae}(e:its=bs.map oV):
  TruthOf prog w A (fun i v=>its.toArray[i]?=some v) (fun i=>bs.getD i false):=fun i v s Q E hv hq=>by
 have hv':its[i]?=some v:=by simpa using hv
 rw[e,cH]at hv';obtain⟨b,hb,rfl⟩:=vH.mp hv';have hg:bs.getD i false=b:=by rw[yM,hb]<;>rfl
 have hq':Q (bs.getD i false) s:=hq;rw[hg]at hq';exact uU hq'
theorem any_range:∀bs:List Bool,(dU bs.length).any (fun i=>bs.getD i false)=bs.any id
 | []=>rfl
 |b::bs=>by
  rw[bG,Dx,qr,vj,qr,<-any_range bs]
  all_goals rfl
theorem all_range:∀bs:List Bool,(dU bs.length).all (fun i=>bs.getD i false)=bs.all id
 | []=>rfl
 |b::bs=>by
  rw[bG,Dx,vh,List.all_map,vh,<-all_range bs]
  all_goals rfl
section
variable{X:Cx}
def Sw(K:aw):List V->Hp->VK->Prop:=fun vs H Q=>∃(a:aa)(bs:List Bool),vs=[V.ref a]/\ak K H a (bs.map V.bl)/\Q (.bl (bs.any id)) H
def HN(K:aw):List V->Hp->VK->Prop:=fun vs H Q=>∃(a:aa)(bs:List Bool),vs=[V.ref a]/\ak K H a (bs.map V.bl)/\Q (.bl (bs.all id)) H
theorem Nt(hc:X.calm=true):jq X (.builtin "any") (Sw X.K):=by
 intro pins s σ H vs us Q I r h;obtain⟨a,bs,rfl,hs,q⟩:=h;obtain⟨its,rv,hl,_⟩:=I.list hs;rw[aS.ref1 r];have hb:=rv.bls;refine call_any_walk (Gc hl.isList fun s₂ e2 st hne=>?_);subst e2;refine⟨_,_,_,_,_,_,_,rfl,Walks.list (A:=X.A.in1) (I.ok.hd hc) _ a hne its.toArray,st,Li hb,fun h' tk hk=>?_⟩;refine⟨.bl _,H,I.kept fun b o eo=>hk b o (fun hmem=>?_) (bS _ eo),?_,q⟩
 ·rcases bg.mp hmem with e1|hmem
  ·exact absurd (e1▸bO eo) (ic _)
  ·cases hmem
 ·show oV _=oV _;rw[<-any_range,hb,eY,aE]
theorem Nr(hc:X.calm=true):jq X (.builtin "all") (HN X.K):=by
 intro pins s σ H vs us Q I r h;obtain⟨a,bs,rfl,hs,q⟩:=h;obtain⟨its,rv,hl,_⟩:=I.list hs;rw[aS.ref1 r];have hb:=rv.bls;refine call_all_walk (Gc hl.isList fun s₂ e2 st hne=>?_);subst e2;refine⟨_,_,_,_,_,_,_,rfl,Walks.list (A:=X.A.in1) (I.ok.hd hc) _ a hne its.toArray,st,Li hb,fun h' tk hk=>?_⟩;refine⟨.bl _,H,I.kept fun b o eo=>hk b o (fun hmem=>?_) (bS _ eo),?_,q⟩
 ·rcases bg.mp hmem with e1|hmem
  ·exact absurd (e1▸bO eo) (ic _)
  ·cases hmem
 ·show oV _=oV _;rw[<-all_range,hb,eY,aE]
end
mutual
inductive Dp(K:aw)(H:Hp):V->jz->Prop
 |non:Dp K H .non .none
 |bl (b:Bool):Dp K H (.bl b) (.bool b)
 |int (i:Int):Dp K H (.int i) (.int i)
 |str (x:Str):Dp K H (.str x) (.str x)
 |lst {a:aa} {xs:List V} {ds:List jz}:ak K H a xs->mU K H xs ds->Dp K H (.ref a) (.list ds)
 |tup {a:aa} {xs:List V} {ds:List jz}:bQ K H a xs->mU K H xs ds->Dp K H (.ref a) (.tuple ds)
inductive mU(K:aw)(H:Hp):List V->List jz->Prop
 |nil:mU K H [] []
 |cons {v:V} {vs:List V} {d:jz} {ds:List jz}:Dp K H v d->mU K H vs ds->mU K H (v::vs) (d::ds)
end
section
variable{X:Cx}{pins:List (aa×Obj)}{σ:St}{H:Hp}{s:aj}
mutual
theorem Dp.reads(I:Inv X pins σ H s):∀(d:jz)(v:V)(u:ae),Dp X.K H v d->RelV v u->∃as,Reads s.heap u d as
 |.none,_,_,h,r=>by
  cases h;cases r;exact⟨_,Reads.none⟩
 |.bool b,_,_,h,r=>by
  cases h;cases r;exact⟨_,Reads.bool b⟩
 |.int i,_,_,h,r=>by
  cases h;obtain⟨t,rfl⟩:=r;exact⟨_,Reads.int i t⟩
 |.str x,_,_,h,r=>by
  cases h;obtain⟨t,rfl⟩:=r;exact⟨_,Reads.str x t⟩
 |.list ds,_,_,h,r=>by
  cases h with
  |lst hs ha=>
   cases r;obtain⟨its,rv,⟨o,n,ho,hc,_,hd⟩,_⟩:=I.list hs;obtain⟨as,hr⟩:=Dp.readsAll I ds _ its ha rv;exact⟨_,Reads.list ho hc hd hr⟩
 |.tuple ds,_,_,h,r=>by
  cases h with
  |tup hs ha=>
   cases r;obtain⟨its,rv,⟨o,ho,hc,n,hd⟩,_⟩:=I.tuple hs;obtain⟨as,hr⟩:=Dp.readsAll I ds _ its ha rv;exact⟨_,Reads.tuple ho hc hd hr⟩
 |.dict _,_,_,h,_=>by cases h
theorem Dp.readsAll(I:Inv X pins σ H s):∀(ds:List jz)(vs:List V)(us:List ae),mU X.K H vs ds->aS vs us->∃as,ReadsAll s.heap us ds as
 | [],_,_,h,r=>by
  cases h;cases r;exact⟨_,ReadsAll.nil⟩
 |d::ds,_,_,h,r=>by
  cases h with
  |cons h1 h2=>
   cases r with
   |cons r1 r2=>
    obtain⟨as,q1⟩:=Dp.reads I d _ _ h1 r1;obtain⟨bs,q2⟩:=Dp.readsAll I ds _ _ h2 r2;exact⟨_,ReadsAll.cons q1 q2⟩
end
end
section
variable{X:Cx}
def Sy(K:aw):R2:=fun x y H Q=>∃d e,Dp K H x d/\Dp K H y e/\sW d=true/\sW e=true/\Q (.bl (oN d e)) H
def SB(K:aw):R2:=fun x y H Q=>∃d e,Dp K H x d/\Dp K H y e/\sW d=true/\sW e=true/\Q (.bl (!oN d e)) H
theorem Rx(hu:X.A.units+64<gn):dr X (fG .Eq) (Sy X.K):=by
 intro pins s σ H x y v u Q I rx ry h;obtain⟨d,e,hd,he,sd,se,q⟩:=h;obtain⟨as,r1⟩:=Dp.reads I d x v hd rx;obtain⟨bs,r2⟩:=Dp.reads I e y u he ry;exact SeqAt.compareEq_shaped r1 r2 sd se hu ⟨.bl _,H,I,rfl,q⟩
theorem Ry(hu:X.A.units+64<gn):dr X (fG .NotEq) (SB X.K):=by
 intro pins s σ H x y v u Q I rx ry h;obtain⟨d,e,hd,he,sd,se,q⟩:=h;obtain⟨as,r1⟩:=Dp.reads I d x v hd rx;obtain⟨bs,r2⟩:=Dp.reads I e y u he ry;exact SeqAt.compareNe_shaped r1 r2 sd se hu ⟨.bl _,H,I,rfl,q⟩
end
abbrev CellAt(h:aC)(c:aa)(v:Option ae):Prop:=h.IsCell c v
def Um(scope sc:cR):cR:=
 {scope with names:=scope.names.map fun(n,k)=>if(k== .free&&sc.kind== .function&&sc.names.lookup n==some .cell)then(n,.cell)else(n,k)}
def df(cells:List (Str×aa)):List (Str×gg)->List (Str×aa)->List (Str×aa)
 | [],acc=>acc
 |(n,k)::r,acc=>if k== .free then df cells r ((n,(cells.lookup n).getD 0)::acc)else df cells r acc
theorem ER(env:Env)(f:Str×gg->List (Str×aa)->Sem (ForInStep (List (Str×aa))))
  (hf:∀n k c,f (n,k) c=if k== .free then(do let a<-cellOf env n; pure (.yield ((n,a)::c)))else pure (.yield c)):
  ∀(names:List (Str×gg))(acc:List (Str×aa)),(∀y∈names,y.2=.free->∃c,env.cells.lookup y.1=some c)->forIn names acc f=pure (df env.cells names acc)
 | [],acc,_=>by rw[List.forIn_nil]; rfl
 |(n,k)::r,acc,h=>by
  rw[List.forIn_cons,hf];have ih:=fun acc=>ER env f hf r acc fun y hy=>h y (bU _ hy);unfold df;by_cases hk:(k==sL)=true
  ·rw[if_pos hk,if_pos hk];obtain⟨c,hc⟩:=h (n,k) dD (by simpa using hk);have e:cellOf env n=pure c:=by unfold cellOf; rw[hc]
   rw[e];have e2:(env.cells.lookup n).getD 0=c:=by rw[hc]; rfl
   rw[e2];exact ih _
  ·rw[if_neg hk,if_neg hk];exact ih _
theorem zU{scope:cR}{env:Env}(h:∀y∈scope.names,y.2=.free->∃c,env.cells.lookup y.1=some c):closureFor scope env=pure (df env.cells scope.names []):=by
 simp only[closureFor];rw[ER env _ (fun n k c=>rfl) scope.names [] h];rfl
theorem AL{α:Type}:∀{l:List (Str×α)}{n:Str}{c:α},(n,c)∈l->∃c',l.lookup n=some c'
 |(k,v)::r,n,c,h=>by
  rw[qw];cases hb:n==k with
  |true=>exact⟨_,rfl⟩
  |false=>
   rcases bg.mp h with e|h
   ·cases e; simp at hb
   ·exact AL h
theorem wC{cells:List (Str×aa)}:∀{names:List (Str×gg)}{acc:List (Str×aa)}{n:Str}{c:aa},(n,c)∈df cells names acc->(n,c)∈acc\/((n,.free)∈names/\c=(cells.lookup n).getD 0)
 | [],_,_,_,h=>.inl h
 |(m,k)::r,acc,n,c,h=>by
  unfold df at h;split at h
  ·rename_i hk
   have hk:k=.free:=by simpa using hk
   rcases wC h with h|⟨h1,h2⟩
   ·rcases bg.mp h with e|h
    ·cases e; exact .inr ⟨hk▸dD,rfl⟩
    ·exact .inl h
   ·exact .inr ⟨bU _ h1,h2⟩
  ·rcases wC h with h|⟨h1,h2⟩
   ·exact .inl h
   ·exact .inr ⟨bU _ h1,h2⟩
theorem zR{cells:List (Str×aa)}:∀{names:List (Str×gg)}{acc:List (Str×aa)}{p:Str×aa},p∈acc->p∈df cells names acc
 | [],_,_,h=>h
 |(m,k)::r,acc,p,h=>by
  unfold df;split
  ·exact zR (bU _ h)
  ·exact zR h
theorem zS{cells:List (Str×aa)}:∀{names:List (Str×gg)}{acc:List (Str×aa)}{n:Str},(n,.free)∈names->(n,(cells.lookup n).getD 0)∈df cells names acc
 |(m,k)::r,acc,n,h=>by
  unfold df;rcases bg.mp h with e|h
  ·cases e;exact zR dD
  ·split
   ·exact zS h
   ·exact zS h
theorem tF:∀{names:List (Str×gg)}{h:aC}{acc:List (Str×aa)}{x:Str}{c:aa},(x,c)∈dY h.objs.size names acc->
  (x,c)∈acc\/((x,.cell)∈names/\h.objs.size<=c/\CellAt (mJ h names) c none)
 | [],_,_,_,_,h=>.inl h
 |(n,k)::r,h,acc,x,c,hm=>by
  unfold dY at hm;unfold mJ;split at hm
  ·rename_i hk
   rw[if_pos hk];have hk:k=.cell:=by simpa using hk
   rw[<-fL h {cls:=.type "cell",data:=.cell none}]at hm;rcases tF hm with hm|⟨h1,h2,h3⟩
   ·rcases bg.mp hm with e|hm
    ·cases e;exact .inr ⟨hk▸dD,aF _,_,xy r _ _ _ (dz _ rfl),rfl⟩
    ·exact .inl hm
   ·rw[fL]at h2;exact .inr ⟨bU _ h1,yZ h2,h3⟩
  ·rename_i hk
   rw[if_neg hk];rcases tF hm with hm|⟨h1,h2,h3⟩
   ·exact .inl hm
   ·exact .inr ⟨bU _ h1,h2,h3⟩
theorem wB:∀{names:List (Str×gg)}{n:Nat}{acc:List (Str×aa)}{p:Str×aa},p∈acc->p∈dY n names acc
 | [],_,_,_,h=>h
 |(m,k)::r,n,acc,p,h=>by
  unfold dY;split
  ·exact wB (bU _ h)
  ·exact wB h
theorem zP:∀{names:List (Str×gg)}{n:Nat}{acc:List (Str×aa)}{x:Str},(x,.cell)∈names->∃c,(x,c)∈dY n names acc
 |(m,k)::r,n,acc,x,h=>by
  unfold dY;rcases bg.mp h with e|h
  ·cases e;exact⟨n,wB dD⟩
  ·split
   ·exact zP h
   ·exact zP h
theorem zQ:∀{names:List (Str×gg)}{h:aC}{acc:List (Str×aa)}{x y:Str}{c:aa},(∀p∈acc,p.2<h.objs.size)->(∀x y c,(x,c)∈acc->(y,c)∈acc->x=y)->
  (x,c)∈dY h.objs.size names acc->(y,c)∈dY h.objs.size names acc->x=y
 | [],_,_,_,_,_,_,hi,h1,h2=>hi _ _ _ h1 h2
 |(n,k)::r,h,acc,x,y,c,hl,hi,h1,h2=>by
  unfold dY at h1 h2;split at h1
  ·rename_i hk
   rw[if_pos hk]at h2;rw[<-fL h {cls:=.type "cell",data:=.cell none}]at h1 h2;refine zQ (h:=h.push _) (fun p hp=>?_) (fun x y c a b=>?_) h1 h2
   ·rw[fL];rcases bg.mp hp with rfl|hp
    ·exact vz _
    ·exact mY (hl p hp)
   ·rcases bg.mp a with e|a<;>rcases bg.mp b with e'|b
    ·cases e; cases e'; rfl
    ·cases e; exact absurd (hl _ b) (ic _)
    ·cases e'; exact absurd (hl _ a) (ic _)
    ·exact hi _ _ _ a b
  ·rename_i hk
   rw[if_neg hk]at h2;exact zQ hl hi h1 h2
theorem GT{M:Model}{A:bJ}{E:ae->aj->Prop}{s:aj}{scope:cR}{globals:aa}{closure:List (Str×aa)}{qual:Str}{func:Option aa}{code:ae}{around:Env}{builtins:aa}{Q:Env->aj->Prop}
  (h:Q (newEnv scope s.heap.objs.size globals (dY (s.heap.objs.size+1) scope.names closure) qual func code (some around) builtins)
   {s with heap:=mJ (s.heap.push {cls:=.type "dict",data:=.dict #[]}) scope.names}):
  az M A (newFunctionEnv scope globals closure [] qual func code (some around) builtins) Q E s:=by
 simp only[newFunctionEnv,mZ,if_true];refine ay (wpAny_alloc ?_);refine ay (wpAny_layCells _ (fun n k c=>rfl) scope.names closure _ _ ?_);rw[show({s with heap:=s.heap.push {cls:=.type "dict",data:=.dict #[]}}:aj).heap.objs.size=s.heap.objs.size+1 from fL ..];rw[List.forIn_nil];exact ay (aU (aU h))
theorem Az{sc:cR}:∀{names:List (Str×gg)}{x:Str}{k:gg},
  (names.map fun(n,k)=>if(k==sL&&sc.kind== .function&&sc.names.lookup n==some .cell)then(n,gg.cell)else(n,k)).lookup x=some k->
  ∃k',names.lookup x=some k'/\(k=k'\/(k'=.free/\k=.cell))
 | [],_,_,h=>by simp at h
 |(n,k₀)::r,x,k,h=>by
  have ih:= @Az sc r x k;have h':oC x ((if(k₀==sL&&sc.kind== .function&&sc.names.lookup n==some .cell)=true then(n,gg.cell)else(n,k₀))::(r.map _))=some k:=h;cases hx:x==n with
  |true=>
   simp only[qw,hx];by_cases hc:(k₀==sL&&sc.kind== .function&&sc.names.lookup n==some .cell)=true
   ·rw[if_pos hc]at h';simp only[qw,hx]at h';cases h';simp only[cA,beq_iff_eq]at hc;exact⟨k₀,rfl,.inr ⟨hc.1.1,rfl⟩⟩
   ·rw[if_neg hc]at h';simp only[qw,hx]at h';cases h';exact⟨_,rfl,.inl rfl⟩
  |false=>
   simp only[qw,hx];by_cases hc:(k₀==sL&&sc.kind== .function&&sc.names.lookup n==some .cell)=true
   ·rw[if_pos hc]at h';simp only[qw,hx]at h';exact ih h'
   ·rw[if_neg hc]at h';simp only[qw,hx]at h';exact ih h'
structure oa(N:List Str)(sc scope:cR)(own:List (Str×Nat)):Prop where
 kind:scope.kind=.function
 uniq:∀y∈scope.names,scope.names.lookup y.1=some y.2
 ix:∀p∈own,N[p.2]?=some p.1
 free:∀y∈scope.names,y.2=.free->sc.names.lookup y.1=some .cell\/sc.names.lookup y.1=some .free
 own:∀y∈scope.names,y.2=.local\/y.2=.cell->y.1∈own.map (·.1)\/y.1∉N
def cn(σ:St):List Nat->St
 | []=>σ
 |v::vs=>(cn σ vs).set v none
theorem ye(σ:St):∀vs:List Nat,(cn σ vs).length=σ.length
 | []=>rfl
 |v::vs=>by unfold cn; rw[List.length_set,ye σ vs]
theorem yf{σ:St}{i:Nat}{x:V}:∀{vs:List Nat},(cn σ vs)[i]?=some (some x)->σ[i]?=some (some x)/\i∉vs
 | [],h=>⟨h,by simp⟩
 |v::vs,h=>by
  unfold cn at h;by_cases hi:v=i
  ·subst hi;by_cases hv:v<(cn σ vs).length
   ·rw[sG hv]at h; cases h
   ·rw[gT (by simpa using hv)]at h; cases h
  ·rw[qv hi]at h;obtain⟨h1,h2⟩:=yf h;exact⟨h1,by simp only[bg,not_or]; exact⟨fun e=>hi e.symm,h2⟩⟩
abbrev Cx.blk(X:Cx)(s:aj)(H:Hp)(scope:cR)(cenv:Env)(fp:List aa):Cx:={X with s_0:=s,H_0:=H,env:=cenv,outer:=X.stack,ex:=fp,fn:=fun x=>scope.names.lookup x==some .cell,pn:=[],xe:=fun _ _=>False}
section
variable{X:Cx}{pins:List (aa×Obj)}{σ:St}{H:Hp}{s:aj}
theorem EG{scope:cR}{own:List (Str×Nat)}{fp:List aa}(I:Inv X pins σ H s)(ok:oa X.N X.env.scope scope own)(hN:X.N.Nodup)(hfp:∀b∈fp,ia X pins H b/\b<s.heap.objs.size):
  Inv (X.blk s H scope (fF scope (dY (s.heap.objs.size+1) scope.names (df X.env.cells scope.names [])) s.heap.objs.size X.env) fp) [] (cn σ (own.map (·.2))) H {s with heap:=mJ (s.heap.push {cls:=.type "dict",data:=.dict #[]}) scope.names}:=by
 have hfree:∀y∈scope.names,y.2=.free->∃c,X.env.cells.lookup y.1=some c:=fun y hy e=>by
  rcases ok.free y hy e with k|k
  ·exact I.ok.has _ (.inl k)
  ·exact I.ok.has _ (.inr k)
 generalize hcenv:fF scope (dY (s.heap.objs.size+1) scope.names (df X.env.cells scope.names [])) s.heap.objs.size X.env=cenv;have kp:∀b o,s.heap.get? b=some o->(mJ (s.heap.push {cls:=.type "dict",data:=.dict #[]}) scope.names).get? b=some o:=fun b o e=>xy _ _ _ _ (bS _ e);have hL:cenv.locals=s.heap.objs.size:=by rw[<-hcenv]; rfl
 have hcl:cenv.cells=dY (s.heap.objs.size+1) scope.names (df X.env.cells scope.names []):=by rw[<-hcenv]; rfl
 have hsc:cenv.scope=Um scope X.env.scope:=by rw[<-hcenv]; rfl
 rw[<-fL s.heap {cls:=.type "dict",data:=.dict #[]}]at hcl
 have cm:∀{y c},(y,c)∈df X.env.cells scope.names []->X.env.cells.lookup y=some c/\c<s.heap.objs.size:=fun{y c} hm=>by
  rcases wC hm with hm|⟨h1,rfl⟩
  ·cases hm
  ·obtain⟨c,hc⟩:=hfree _ h1 rfl;rw[hc];obtain⟨w,z⟩:=I.cell _ _ hc;exact⟨rfl,z.lt⟩
 have mem:∀{y c},cenv.cells.lookup y=some c->(X.env.cells.lookup y=some c/\c<s.heap.objs.size)\/(s.heap.objs.size+1<=c/\CellAt (mJ (s.heap.push {cls:=.type "dict",data:=.dict #[]}) scope.names) c none):=fun{y c} e=>by
  rw[hcl]at e;rcases tF (iC e)with hm|⟨_,h2,h3⟩
  ·exact .inl (cm hm)
  ·rw[fL]at h2; exact .inr ⟨h2,h3⟩
 have look:∀{y},scope.names.lookup y=some .free->∃c,cenv.cells.lookup y=some c/\X.env.cells.lookup y=some c:=fun{y} hl=>by
  have hy:(y,sL)∈scope.names:=iC hl;obtain⟨c',e'⟩:=AL (wB (names:=scope.names) (n:=(s.heap.push {cls:=.type "dict",data:=.dict #[]}).objs.size) (zS (cells:=X.env.cells) (acc:=[]) hy));rw[<-hcl]at e';refine⟨c',e',?_⟩;rw[hcl]at e';rcases tF (iC e')with hm|⟨h1,_,_⟩
  ·exact(cm hm).1
  ·have:=ok.uniq _ h1;rw[hl]at this; cases this
 have okB:(X.blk s H scope cenv fp).Ok:=by
  refine⟨I.ok.mod,by show cenv.scope.kind=_; rw[hsc]; exact ok.kind,by show cenv.globals=_; rw[<-hcenv]; exact I.ok.glob,by show cenv.builtins=_; rw[<-hcenv]; exact I.ok.blt,by show s.heap.objs.size<=cenv.locals; rw[hL]; exact aF _,
   fun y z c e1 e2=>?_,fun y hy=>?_,fun y c z e=>?_,I.ok.hd,I.ok.frames,.inl rfl,fun b hb=>⟨?_,fun y c e z=>?_⟩,I.bs,dW I.ok.bsz I.sz,fun b o e hb=>?_,fun b hb z=>?_,I.stack,I.stkFree⟩
  ·have e1:cenv.cells.lookup y=some c:=e1;have e2:cenv.cells.lookup z=some c:=e2;rw[hcl]at e1 e2;refine zQ (fun p hp=>?_) (fun y z c a b=>I.ok.inj y z c (cm a).1 (cm b).1) (iC e1) (iC e2);rw[fL];exact mY (cm (y:=p.1) (c:=p.2) hp).2
  ·show∃c,cenv.cells.lookup y=some c
   have key:∀k,cenv.kindOf y=some k->(k=.cell\/k=.free)->∃c,cenv.cells.lookup y=some c:=fun k hk hk'=>by
    unfold Env.kindOf at hk;rw[hsc]at hk;obtain⟨k',e,r⟩:=Az hk
    have:k'=.cell\/k'=.free:=by
     rcases r with rfl|⟨rfl,_⟩
     ·exact hk'
     ·exact .inr rfl
    rcases this with rfl|rfl
    ·obtain⟨c,hm⟩:=zP (n:=(s.heap.push {cls:=.type "dict",data:=.dict #[]}).objs.size) (acc:=df X.env.cells scope.names []) (iC e);obtain⟨c',e'⟩:=AL hm;exact⟨c',by rw[hcl]; exact e'⟩
    ·obtain⟨c,h1,_⟩:=look e;exact⟨c,h1⟩
   rcases hy with hy|hy
   ·exact key _ hy (.inl rfl)
   ·exact key _ hy (.inr rfl)
  ·have z:(scope.names.lookup y==some gg.cell)=true:=z;have z:scope.names.lookup y=some .cell:=by simpa using z
   have e:cenv.cells.lookup y=some c:=e;rw[hcl]at e;rcases tF (iC e)with hm|⟨_,h2,_⟩
   ·rcases wC hm with hm|⟨h1,_⟩
    ·cases hm
    ·have q:=ok.uniq _ h1;rw[z]at q; cases q
   ·rw[fL]at h2;exact yZ h2
  ·show b≠cenv.locals;rw[hL]; exact cJ (hfp b hb).2
  ·have e:cenv.cells.lookup y=some c:=e;rcases mem e with⟨h1,_⟩|⟨h1,_⟩
   ·exact(hfp b hb).1.2.2.2.2.1 y c h1 z
   ·have h2:s.heap.objs.size+1<=b:=by rw[<-z]; exact h1
    exact absurd (cW (hfp b hb).2 (yZ h2)) (ic _)
  ·rcases(hfp b hb).1.2.2.2.1 with z|z
   ·exact I.ok.noex b o e z
   ·exact absurd (cW (bO e) (dW I.ok.bsz z)) (ic _)
  ·rcases bg.mp (I.stkSub b z)with z|z
   ·exact(hfp b hb).1.2.1 z
   ·exact(hfp b hb).1.2.2.1 z
 refine⟨okB,rfl,I.bare,Un.kept kp,⟨fun _=>none,?_,fun i y av e1 e2 e3=>?_⟩,fun y c e=>?_,?_,fun y c e=>?_,fun p hp=>?_,I.hok.kept kp,by rw[ye]; exact I.len⟩
 ·show aC.Ns _ cenv.locals _;rw[hL];exact aC.Ns.keeps (aC.Ns.new ..) fun b o e=>xy _ _ _ _ e
 ·obtain⟨e2,hne⟩:=yf e2
  have hfr:scope.names.lookup y=some .free/\(cenv.kindOf y=some .cell\/cenv.kindOf y=some .free):=by
   have key:∀k,cenv.scope.names.lookup y=some k->k=.local\/k=.cell\/k=.free->scope.names.lookup y=some .free/\(cenv.kindOf y=some .cell\/cenv.kindOf y=some .free):=fun k hk hk'=>by
    have hk0:=hk;rw[hsc]at hk;obtain⟨k',e,r⟩:=Az hk
    have no: ¬(k'=.local\/k'=.cell):=fun hh=>by
     rcases ok.own _ (iC e) hh with e'|e'
     ·obtain⟨p,hp,hpy⟩:=bP.mp e';have e3:=ok.ix p hp;have:p.1=y:=hpy;rw[this]at e3;exact hne (bP.mpr ⟨p,hp,AQ hN e3 e1⟩)
     ·exact e' (dq e1)
    rcases r with rfl|⟨rfl,rfl⟩
    ·rcases hk' with rfl|rfl|rfl
     ·exact absurd (.inl rfl) no
     ·exact absurd (.inr rfl) no
     ·exact⟨e,.inr hk0⟩
    ·exact⟨e,.inl hk0⟩
   have e3:qP cenv.scope y:=e3;rcases e3 with e3|e3|e3
   ·exact key _ e3 (.inl rfl)
   ·exact key _ e3 (.inr (.inl rfl))
   ·exact key _ e3 (.inr (.inr rfl))
  obtain⟨m,hn,hl⟩:=I.loc;have hvis:qP X.env.scope y:=(ok.free _ (iC hfr.1) rfl).elim (fun k=>.inr (.inl k)) (fun k=>.inr (.inr k));obtain⟨w,r,q⟩:=hl i y av e1 e2 hvis;refine⟨w,r,.inr ⟨hfr.2,?_⟩⟩;obtain⟨c,h1,h2⟩:=look hfr.1;rcases q with⟨k,_⟩|⟨_,c',e',z⟩
  ·have k:X.env.scope.names.lookup y=some .local:=k;rcases ok.free _ (iC hfr.1) rfl with k'|k'<;>rw[show X.env.scope.names.lookup y=_ from k']at k<;>cases k
  ·rw[h2]at e'; cases e';exact⟨c,h1,z.keeps kp⟩
 ·have e:cenv.cells.lookup y=some c:=e;rcases mem e with⟨h1,_⟩|⟨_,z⟩
  ·obtain⟨w,z⟩:=I.cell y c h1;exact⟨w,z.keeps kp⟩
  ·exact⟨_,z⟩
 ·show H cenv.locals=none;rw[hL]; exact I.hok.fresh (aF _)
 ·have e:cenv.cells.lookup y=some c:=e;rcases mem e with⟨h1,_⟩|⟨h1,_⟩
  ·exact I.freeC y c h1
  ·exact I.hok.fresh (yZ h1)
 ·exact absurd (show p∈([]:List (aa×Obj))++[]from hp) (by simp)
theorem Ek{E:ae->aj->Prop}{D:aa}{xs:List V}{y:V}{v:ae}{Q:ae->aj->Prop}(I:Inv X pins σ H s)(hD:H D=some (.lst xs))(hz:xs.length<aY)(r:RelV y v)
  (h:∀s',Inv X pins σ (ah H D (.lst (xs++[y]))) s'->Q .none s'):az (aB X.prog X.w) X.A (call (.builtin "list.append") [.ref D,v]) Q E s:=by
 obtain⟨hz',its,n,ri,e⟩:=I.hok D _ hD;have hl:=ri.length;refine append_at (hsz:=by rw[eY]; omega) e fun h' sb ho'=>?_;refine h {s with heap:=h'} (I.write (t':=s.toks) (by rw[hD]; trivial) (.inl rfl) (fun b u hb q=>(sb.2 b hb).trans q) ⟨_,ho'⟩ ⟨by rw[bt]; exact hz,its++[v],n+1,ri.append (.cons r .nil),?_⟩);rw[ho'];simp
def oK(X:Cx)(ifs:List aJ)(t:TT):Prop:=
 ∀(pins:List (aa×Obj))(s:aj)(σ:St)(H:Hp)(Q:Bool->Hp->Prop),Inv X pins σ H s->t σ H Q->
  az (aB X.prog X.w) X.A (forIn ifs true fun c r=>if r=true then do let ok<-isTrue c X.env (bw c X.env); pure (yA ok)else pure (yA r)) (TP X pins σ Q) X.xe s
def CA:TT:=fun _ H Q=>Q true H
theorem jN:oK X [] CA:=fun _ _ _ H _ I h=>wpAny_tests_nil ⟨H,I,h⟩
theorem nQ{c:aJ}{t:TT}(h:PT X c t):oK X [c] t:=fun pins s σ H Q I hw=>wpAny_tests_one (h pins s σ H Q I hw)
end
theorem kF{α:Type}{t:Sem α}{Q Q':α->aj->Prop}{M:Model}{A:bJ}{E:ae->aj->Prop}{s:aj}(h:az M A t Q (fun _ _=>False) s)(hQ:∀a s,Q a s->Q' a s):az M A t Q' E s:=iq h hQ fun _ _ z=>fK z
theorem ET{prog:aO}{w:aN}{A:bJ}{R:Result->aj->Prop}{s:aj}{elt target iter:aJ}{ifs:List aJ}{scope:cR}{pos:Pos}{it acc:ae}{env:Env}(I:Nat->aj->Prop)
  (turn:∀n s,I n s->az (aB prog w) A (jO it) (fun r s₁=>match r with
   |none=>R (.ok .next) s₁
   |some v=>az (aB prog w) A (As target it v) (fun _ s₁'=>az (aB prog w) A (assign target env v) (fun _ s₂=>
     az (aB prog w) A (forIn ifs true fun c r=>if r=true then do let ok<-isTrue c env (bw c env); pure (yA ok)else pure (yA r)) (fun ok s₃=>
      if ok=true then az (aB prog w) A (bw elt env) (fun x s₄=>
       az (aB prog w) A (call (.builtin "list.append") [acc,x]) (fun _ s₅=>∃m,m<n/\I m s₅) (pJ (aB prog w) A env fun e s'=>R (.error e) s') s₄) (pJ (aB prog w) A env fun e s'=>R (.error e) s') s₃
      else∃m,m<n/\I m s₃) (pJ (aB prog w) A env fun e s'=>R (.error e) s') s₂) (pJ (aB prog w) A env fun e s'=>R (.error e) s') s₁') (pJ (aB prog w) A env fun e s'=>R (.error e) s') s₁) (pJ (aB prog w) A env fun e s'=>R (.error e) s') s)
  (n:Nat)(h:I n s):
  gW (aB prog w) A (.compLoop (.ListComp elt [⟨target,iter,ifs,0⟩] scope pos) 0 it acc env) R s:=by
 refine codeAny_loop rfl I (fun n s hI=>?_) n h;show az _ A ((compTurn (.ListComp elt [⟨target,iter,ifs,0⟩] scope pos) 0 it acc env).onRaise (fun x=>do ud x env; theTreesLotGoes x)) _ _ s;refine wpAny_noted ?_;rw[compTurn_list];refine ay (wpAny_standAt (ay (iq (turn n s hI) (fun r s₁ h₁=>?_) fun _ _ h'=>h')));cases r with
 |none=>exact aU h₁
 |some v=>
  refine ay (iq h₁ (fun _ s₁' h₁'=>?_) fun _ _ h'=>h');refine ay (iq h₁' (fun _ s₂ h₂=>ay (iq h₂ (fun ok s₃ h₃=>?_) fun _ _ h'=>h')) fun _ _ h'=>h');cases ok with
  |false=>exact aU ⟨rfl,h₃⟩
  |true=>
   exact ay (ay (iq h₃ (fun x s₄ h₄=>ay (iq h₄ (fun _ s₅ h₅=>aU (aU ⟨rfl,h₅⟩)) fun _ _ h'=>h')) fun _ _ h'=>h'))
section
variable{X:Cx}
def nV(wi:TI)(g:TG)(tt:TT)(te:TE)(vs:List Nat):TE:=fun σ H Q=>wi σ H fun J H1=>∀D,H1 D=none->∃W:Nat->Nat->Hp->Prop,(∃m,W 0 m (ah H1 D (.lst [])))/\∀i m H,W i m H->
 (J.stop i H/\Q (.ref D) H)\/(J.go i H/\∃Nx:Hp->Prop,(∀H',Nx H'->∃m',m'<m/\W (i+1) m' H')/\∀x H',J.yld i H x H'->g x (cn σ vs) H' fun σ2 H2=>cn σ2 vs=cn σ vs/\tt σ2 H2 fun b H3=>
  if b=true then te σ2 H3 fun y H4=>∃acc,H4 D=some (.lst acc)/\acc.length<aY/\Nx (ah H4 D (.lst (acc++[y])))else Nx H3)
theorem Gn{pins:List (aa×Obj)}{s:aj}{σ:St}{H:Hp}{Q:VK}{elt tg iter:aJ}{ifs:List aJ}{scope:cR}{own:List (Str×Nat)}{pos pos':Pos}{wi:TI}{g:TG}{tt:TT}{te:TE}{use:Option (ae->Sem Unit)}{Qf:ae->aj->Prop}
  (hc:X.calm=true)(hN:X.N.Nodup)(I:Inv X pins σ H s)(hi:PI X tg iter wi)(ok:oa X.N X.env.scope scope own)
  (hg:∀(s:aj)(H:Hp)(C:aa)(cl:List (Str×aa))(fp:List aa),PG (X.blk s H scope (fF scope cl C X.env) fp) tg g)(ht:∀(s:aj)(H:Hp)(C:aa)(cl:List (Str×aa))(fp:List aa),oK (X.blk s H scope (fF scope cl C X.env) fp) ifs tt)
  (he:∀(s:aj)(H:Hp)(C:aa)(cl:List (Str×aa))(fp:List aa),PE (X.blk s H scope (fF scope cl C X.env) fp) elt te)(hs:∀x,tO iter X.env x=pure x)
  (h:nV wi g tt te (own.map (·.2)) σ H Q)
  (hRR:∀D C s' m H',Inv X pins σ H' s'->Q (.ref D) H'->s'.heap.Ns C m->ia X pins H' C->rf (aB X.prog X.w) X.A X.xe use Qf (.ref D) C (.ok .next) s'):
  az (aB X.prog X.w) X.A (zV (.ListComp elt [⟨tg,iter,ifs,0⟩] scope pos) scope X.env pos' (newList []) false (bw iter X.env) use) Qf X.xe s:=by
 have hfree:∀y∈scope.names,y.2=.free->∃c,X.env.cells.lookup y.1=some c:=fun y hy e=>by
  rcases ok.free y hy e with k|k
  ·exact I.ok.has _ (.inl k)
  ·exact I.ok.has _ (.inr k)
 refine WN (use:=use) rfl hs (zU hfree) ok.kind (fun y hy e=>by rw[ok.uniq y hy,e])
  (aQ (hi pins s σ H _ I h) fun xv s1 hx=>aQ hx fun itv s2 h2=>?_)
 obtain⟨it,fp,tn,J,H2,e,I2,T,st2,f2,q⟩:=h2;subst e;refine mM (GT ?_) (by show 0<=aY; decide);generalize hD:s2.heap.objs.size=D;have hDn:H2 D=none:=I2.hok.fresh (sM hD);obtain⟨W,⟨m0,w0⟩,turn⟩:=q D hDn;generalize hs3:({s2 with heap:=s2.heap.push {cls:=.type "list",data:=.seq ([]:List ae).toArray}}:aj)=s3
 have I3:Inv X pins σ (ah H2 D (.lst [])) s3:=by
  rw[<-hs3];refine I2.laid (t':=s2.toks) (fun b o e=>bS _ e) (sM hD) ⟨bC _,[],0,.nil,?_⟩;rw[<-hD];exact dz _ rfl
 have h3:s3.heap=s2.heap.push {cls:=.type "list",data:=.seq ([]:List ae).toArray}:=by rw[<-hs3]
 have sz:∀b∈fp,b<s2.heap.objs.size:=fun b hb=>by
  obtain⟨o,e,_⟩:=T.obj _ _ st2 b hb;exact bO e
 have f3:∀b∈fp,ia X pins (ah H2 D (.lst [])) b/\b<s3.heap.objs.size:=fun b hb=>by
  have hlt:=sz b hb;refine⟨⟨?_,(f2 b hb).2⟩,by rw[h3,fL]; exact mY hlt⟩;rw[aM (by rw[<-hD]; exact cJ hlt)];exact(f2 b hb).1
 have st3:tn 0 s3.heap:=T.keep _ _ _ st2 fun b _ o e=>by rw[h3]; exact bS _ e
 have I4:=EG I3 ok hN f3;have pg:=hg s3 (ah H2 D (.lst [])) s3.heap.objs.size (dY (s3.heap.objs.size+1) scope.names (df X.env.cells scope.names [])) fp;have pt:=ht s3 (ah H2 D (.lst [])) s3.heap.objs.size (dY (s3.heap.objs.size+1) scope.names (df X.env.cells scope.names [])) fp;have pe:=he s3 (ah H2 D (.lst [])) s3.heap.objs.size (dY (s3.heap.objs.size+1) scope.names (df X.env.cells scope.names [])) fp;show gW _ _ (.compStart (.ListComp elt [⟨tg,iter,ifs,0⟩] scope pos) 0 (.ref it) (.ref D) (fF scope (dY (s3.heap.objs.size+1) scope.names (df X.env.cells scope.names [])) s3.heap.objs.size X.env)) (rf (aB X.prog X.w) X.A X.xe use Qf (.ref D) s3.heap.objs.size) {s3 with heap:=mJ (s3.heap.push {cls:=.type "dict",data:=.dict #[]}) scope.names};have nfp:∀b∈fp,(ah H2 D (.lst [])) b=none:=fun b hb=>(f3 b hb).1.1;generalize hce:fF scope (dY (s3.heap.objs.size+1) scope.names (df X.env.cells scope.names [])) s3.heap.objs.size X.env=ce at I4 pg pt pe⊢;have cL:ce.locals=s3.heap.objs.size:=by subst hce; rfl
 generalize hH3:ah H2 D (.lst [])=H3 at I3 I4 pg pt pe w0 nfp f3;generalize hs4:({s3 with heap:=mJ (s3.heap.push {cls:=.type "dict",data:=.dict #[]}) scope.names}:aj)=s4 at I4⊢;have st4:tn 0 s4.heap:=T.keep _ _ _ st3 fun b _ o e=>by rw[<-hs4]; exact xy _ _ _ _ (bS _ e)
 have stat:∀{σ':St}{H':Hp}{s':aj},Inv (X.blk s3 H3 scope ce fp) [] σ' H' s'->(∀b∈fp,H' b=none)->∀b∈fp,ia (X.blk s3 H3 scope ce fp) [] H' b:=fun{σ' H' s'} I' hn b hb=>
  ⟨hn b hb,(I'.ok.exf b hb).1,I'.ok.exfs b hb,.inl hb,fun x c e=>(I'.ok.exf b hb).2 x c e,fun p hp=>absurd (show p∈([]:List (aa×Obj))++[]from hp) (by simp)⟩
 have loop:gW (aB X.prog X.w) X.A (.compLoop (.ListComp elt [⟨tg,iter,ifs,0⟩] scope pos) 0 (.ref it) (.ref D) ce) (rf (aB X.prog X.w) X.A X.xe use Qf (.ref D) s3.heap.objs.size) s4:=by
  refine ET (fun n s'=>∃i H',Inv (X.blk s3 H3 scope ce fp) [] (cn σ (own.map (·.2))) H' s'/\tn i s'.heap/\(∀b∈fp,H' b=none)/\W i n H') ?_ m0 ⟨0,H3,I4,st4,nfp,w0⟩;rintro n s5 ⟨i,H5,I5,st5,n5,w5⟩;rcases turn i n H5 w5 with⟨stop,qq⟩|⟨go,Nx,hNx,step⟩
  ·have td:=T.done (X.blk s3 H3 scope ce fp) rfl rfl rfl hc i [] s5 _ H5 (fun _ _=>False) I5 (stat I5 n5) st5 stop;refine kF td fun r s6⟨hr,I6⟩=>?_;subst hr;have I7:Inv X pins σ H5 s6:=I3.call' (ch:=fp) I6.os I6.base I6.hok I6.bare fun b hb=>⟨(f3 b hb).1.2.2.2.1,(f3 b hb).1.2.1,(f3 b hb).1.2.2.2.2.1,(f3 b hb).1.2.2.2.2.2⟩
   have nC:H5 s3.heap.objs.size=none:=by
    have z:H5 ce.locals=none:=I6.free;rw[cL]at z;exact z
   obtain⟨m,hn,_⟩:=I6.loc;have hn:s6.heap.Ns ce.locals m:=hn;rw[cL]at hn;exact hRR D s3.heap.objs.size s6 m H5 I7 qq hn (I3.fpOk (aF _) nC)
  ·have ti:=T.item (X.blk s3 H3 scope ce fp) rfl rfl rfl hc i [] s5 _ H5 (fun _ _=>False) I5 (stat I5 n5) st5 go;refine kF ti fun r s6⟨u,hr,h6⟩=>?_;subst hr;refine kF h6 fun _ s7⟨x,H7,I7,r7,y7,st7,n7⟩=>?_;have I7':=I7.pinned (stat I7 n7) (T.obj _ _ st7);refine kF (pg _ s7 _ H7 x u _ I7' r7 (step x H7 y7)) fun _ s8⟨σ8,H8,I8,hw8,q8⟩=>?_;refine kF (pt _ s8 σ8 H8 _ I8 q8) fun b s9⟨H9,I9,q9⟩=>?_
   have fin:∀{s':aj}{H':Hp},Inv (X.blk s3 H3 scope ce fp) ([]++nP fp s7.heap) σ8 H' s'->Nx H'->∃m,m<n/\∃i H',Inv (X.blk s3 H3 scope ce fp) [] (cn σ (own.map (·.2))) H' s'/\tn i s'.heap/\(∀b∈fp,H' b=none)/\W i m H':=fun{s' H'} I' nx=>by
    obtain⟨m',hm,w'⟩:=hNx H' nx
    have pin':∀b∈fp,∀o,s7.heap.get? b=some o->s'.heap.get? b=some o/\H' b=none:=fun b hb o e=>
     let z:=I'.pin (b,o) (dC _ (dC _ (ub hb e)))
     ⟨z.1,z.2.1⟩
    have hl:(cn σ (own.map (·.2))).length=σ8.length:=by rw[<-hw8,ye]
    refine⟨m',hm,i+1,H',(I'.unpinned (pins:=[])).weak hl (fun j v e=>?_),T.keep _ _ _ st7 fun b hb o e=>(pin' b hb o e).1,fun b hb=>?_,w'⟩
    ·rw[<-hw8]at e;exact(yf e).1
    ·obtain⟨o,e,_⟩:=T.obj _ _ st7 b hb;exact(pin' b hb o e).2
   cases b with
   |false=>
    simp only[aV,if_false]at q9⊢;exact fin I9 q9
   |true=>
    simp only[if_true]at q9⊢;refine kF (pe _ s9 σ8 H9 _ I9 q9) fun z s10⟨yv,H10,I10,r10,acc,hD10,hz10,nx⟩=>?_;exact Ek (X:=X.blk s3 H3 scope ce fp) I10 hD10 hz10 r10 fun s11 I11=>fin I11 nx
 exact Nm loop (T.self X.A 0 _ _ _ st4 loop)
theorem hO{elt tg iter:aJ}{ifs:List aJ}{scope:cR}{own:List (Str×Nat)}{pos:Pos}{wi:TI}{g:TG}{tt:TT}{te:TE}(hc:X.calm=true)(hN:X.N.Nodup)(hi:PI X tg iter wi)(ok:oa X.N X.env.scope scope own)
  (hg:∀(s:aj)(H:Hp)(C:aa)(cl:List (Str×aa))(fp:List aa),PG (X.blk s H scope (fF scope cl C X.env) fp) tg g)(ht:∀(s:aj)(H:Hp)(C:aa)(cl:List (Str×aa))(fp:List aa),oK (X.blk s H scope (fF scope cl C X.env) fp) ifs tt)
  (he:∀(s:aj)(H:Hp)(C:aa)(cl:List (Str×aa))(fp:List aa),PE (X.blk s H scope (fF scope cl C X.env) fp) elt te)(hs:∀x,tO iter X.env x=pure x:=by intro _; rfl):
  PE X (.ListComp elt [⟨tg,iter,ifs,0⟩] scope pos) (nV wi g tt te (own.map (·.2))):=by
 intro pins s σ H Q I h;rw[eval_ListComp];refine Gn hc hN I hi ok hg ht he hs h fun D C s' m H' I' q hn f=>⟨m,hn,fun h'' sb=>?_⟩;obtain⟨f0,f1,f2,f3,f4,f5⟩:=f;exact⟨.ref D,H',I'.turned (t':=s'.toks) (fun b o hb e=>(sb.2 b hb).trans e) f0 f1 f3 f4 f5,rfl,q⟩
theorem BF{i:Nat}{y:Str}{py:Pos}{elt tg iter:aJ}{ifs:List aJ}{scope:cR}{own:List (Str×Nat)}{pos spos:Pos}{wi:TI}{g:TG}{tt:TT}{te:TE}(hc:X.calm=true)(hN:X.N.Nodup)(hy:X.N[i]?=some y)(hyl:X.env.scope.names.lookup y=some .local)
  (hsw:nU (.ListComp elt [⟨tg,iter,ifs,0⟩] scope pos) (some (.Name y py)) spos.line X.env=pure true)(hi:PI X tg iter wi)(ok:oa X.N X.env.scope scope own)
  (hg:∀(s:aj)(H:Hp)(C:aa)(cl:List (Str×aa))(fp:List aa),PG (X.blk s H scope (fF scope cl C X.env) fp) tg g)(ht:∀(s:aj)(H:Hp)(C:aa)(cl:List (Str×aa))(fp:List aa),oK (X.blk s H scope (fF scope cl C X.env) fp) ifs tt)
  (he:∀(s:aj)(H:Hp)(C:aa)(cl:List (Str×aa))(fp:List aa),PE (X.blk s H scope (fF scope cl C X.env) fp) elt te)(hs:∀x,tO iter X.env x=pure x:=by intro _; rfl):
  PS X (.Assign [.Name y py] (.ListComp elt [⟨tg,iter,ifs,0⟩] scope pos) spos) (uK (nV wi g tt te (own.map (·.2))) (lr i)):=by
 intro pins s σ H D I h;rw[Ob _ _ _ _ hsw];refine ay (wpAny_standAt (ay ?_));show az _ X.A (do let _<-zV (.ListComp elt [⟨tg,iter,ifs,0⟩] scope pos) scope X.env (firstIterPos [⟨tg,iter,ifs,0⟩] pos) (newList []) false (bw iter X.env) (some (assign (.Name y py) X.env))) _ _ s;have h:nV wi g tt te (own.map (·.2)) σ H (fun x H1=>lr i x σ H1 D.nx):=h;refine ay (aQ (Gn (Qf:=fun _ s'=>SP X pins D .next s') hc hN I hi ok hg ht he hs h fun L C s' m H' I' q hn f=>?_) fun _ s' hq=>aU (aU hq));show az _ _ (assign (.Name y py) X.env (.ref L)) _ _ _;refine Lp (Ck (v:=V.ref L) I' hN hy (.inl hyl) rfl (fun s2 I2⟨a,sb,ha⟩=>?_) (.inr hyl));obtain⟨f0,f1,f2,f3,f4,f5⟩:=f
 have haC:C≠a:=by
  rcases ha with z|z
  ·rw[z]; exact f1
  ·exact fun e=>f4 y a z e.symm
 refine⟨m,hn.sameBut sb haC,fun h3 sb3=>?_⟩;exact⟨_,H',I2.turned (t':=s2.toks) (fun b o hb e=>(sb3.2 b hb).trans e) f0 f1 f3 f4 f5,q⟩
theorem xT{elt:aJ}{gs:List Comprehension}{scope:cR}{pos py:Pos}{y:Str}{l:Nat}{env:Env}(hk:env.scope.kind=.function)(hy:env.scope.names.lookup y=some .local)(hl:(py.line==pos.line)=true)
  (ha:(scope.names.any fun(n,k)=>n==y&&(k== .local||k== .cell))=false):nU (.ListComp elt gs scope pos) (some (.Name y py)) l env=pure true:=by
 have ky:env.kindOf y=some .local:=hy;have hb:env.blockKind=.function:=by unfold Env.blockKind; rw[hk]; rfl
 unfold nU;simp only[hb,ky,ha,aJ.pos,hl];rfl
end
theorem OR{lo:Int}{n:Nat}{g:TG}{tt:TT}{te:TE}{vs:List Nat}{σ:St}{H1:Hp}{D:aa}{Qd:Hp->Prop}(Pv:Nat->Hp->Prop)(h0:Pv 0 (ah H1 D (.lst [])))
  (hs:∀i H,i<n->Pv i H->g (.int (lo+i)) (cn σ vs) H fun σ2 H2=>cn σ2 vs=cn σ vs/\tt σ2 H2 fun b H3=>
   if b=true then te σ2 H3 fun y H4=>∃acc,H4 D=some (.lst acc)/\acc.length<aY/\Pv (i+1) (ah H4 D (.lst (acc++[y])))else Pv (i+1) H3)(hd:∀H,Pv n H->Qd H):
  ∃W:Nat->Nat->Hp->Prop,(∃m,W 0 m (ah H1 D (.lst [])))/\∀i m H,W i m H->
   ((kN lo n).stop i H/\Qd H)\/((kN lo n).go i H/\∃Nx:Hp->Prop,(∀H',Nx H'->∃m',m'<m/\W (i+1) m' H')/\∀x H',(kN lo n).yld i H x H'->g x (cn σ vs) H' fun σ2 H2=>cn σ2 vs=cn σ vs/\tt σ2 H2 fun b H3=>
    if b=true then te σ2 H3 fun y H4=>∃acc,H4 D=some (.lst acc)/\acc.length<aY/\Nx (ah H4 D (.lst (acc++[y])))else Nx H3):=by
 refine⟨fun i m H=>m=n-i/\i<=n/\Pv i H,⟨n,by simp,bC _,h0⟩,?_⟩;rintro i m H ⟨rfl,hi,p⟩;by_cases hlt:i<n
 ·refine .inr ⟨hlt,Pv (i+1),fun H' p'=>⟨n-(i+1),by omega,rfl,hlt,p'⟩,fun x H' y=>?_⟩;obtain⟨e,y⟩:=y;subst e y;exact hs i _ hlt p
 ·have e:i=n:=by omega
  subst e;exact .inl ⟨aF _,hd H p⟩
theorem OQ{K:aw}{a:aa}{xs:List V}{g:TG}{tt:TT}{te:TE}{vs:List Nat}{σ:St}{H1:Hp}{D:aa}{Qd:Hp->Prop}(Pv:Nat->Hp->Prop)(h0:Pv 0 (ah H1 D (.lst [])))(hl:∀i H,i<=xs.length->Pv i H->ak K H a xs)
  (hs:∀i x H,xs[i]?=some x->Pv i H->g x (cn σ vs) H fun σ2 H2=>cn σ2 vs=cn σ vs/\tt σ2 H2 fun b H3=>
   if b=true then te σ2 H3 fun y H4=>∃acc,H4 D=some (.lst acc)/\acc.length<aY/\Pv (i+1) (ah H4 D (.lst (acc++[y])))else Pv (i+1) H3)(hd:∀H,Pv xs.length H->Qd H):
  ∃W:Nat->Nat->Hp->Prop,(∃m,W 0 m (ah H1 D (.lst [])))/\∀i m H,W i m H->
   ((lR K a).stop i H/\Qd H)\/((lR K a).go i H/\∃Nx:Hp->Prop,(∀H',Nx H'->∃m',m'<m/\W (i+1) m' H')/\∀x H',(lR K a).yld i H x H'->g x (cn σ vs) H' fun σ2 H2=>cn σ2 vs=cn σ vs/\tt σ2 H2 fun b H3=>
    if b=true then te σ2 H3 fun y H4=>∃acc,H4 D=some (.lst acc)/\acc.length<aY/\Nx (ah H4 D (.lst (acc++[y])))else Nx H3):=by
 refine⟨fun i m H=>m=xs.length-i/\i<=xs.length/\Pv i H,⟨xs.length,by simp,bC _,h0⟩,?_⟩;rintro i m H ⟨rfl,hi,p⟩;have q:=hl i H hi p;by_cases hlt:i<xs.length
 ·refine .inr ⟨⟨xs,xs[i],q,by simp[hlt]⟩,Pv (i+1),fun H' p'=>⟨xs.length-(i+1),by omega,rfl,hlt,p'⟩,fun x H' y=>?_⟩;obtain⟨e,y⟩:=y;subst e;exact hs i x _ (y xs q) p
 ·have e:i=xs.length:=by omega
  subst e;exact .inl ⟨⟨xs,q,aF _⟩,hd H p⟩
def EF(N:List Str)(sc scope:cR)(own:List (Str×Nat)):Bool:=
 (match scope.kind with|.function=>true|_=>false)&&(scope.names.all fun y=>decide (scope.names.lookup y.1=some y.2))&&(own.all fun p=>decide (N[p.2]?=some p.1))&&
  (scope.names.all fun y=>match y.2 with
   |.free=>(match sc.names.lookup y.1 with|some .cell=>true|some .free=>true|_=>false)
   |.local=>decide (y.1∈own.map (·.1))||decide (y.1∉N)
   |.cell=>decide (y.1∈own.map (·.1))||decide (y.1∉N)
   |_=>true)
theorem fE{N:List Str}{sc scope:cR}{own:List (Str×Nat)}(h:EF N sc scope own=true):oa N sc scope own:=by
 unfold EF at h;simp only[cA,ju,decide_eq_true_eq]at h;obtain⟨⟨⟨h1,h2⟩,h3⟩,h4⟩:=h;refine⟨?_,h2,h3,fun y hy e=>?_,fun y hy e=>?_⟩
 ·split at h1
  ·assumption
  ·cases h1
 ·have q:=h4 y hy;simp only[e]at q;split at q<;>first|exact .inl (by assumption)|exact .inr (by assumption)|cases q
 ·have q:=h4 y hy;rcases e with e|e<;>(simp only[e,qi,decide_eq_true_eq]at q; exact q)
section
variable{κ:Type} [DecidableEq κ]
def cf(kvs:List (κ×V))(k:κ):Option V:=(kvs.find? fun kv=>decide (kv.1=k)).map (·.2)
def dj(kvs:List (κ×V))(k:κ)(v:V):List (κ×V):=
 if(kvs.any fun kv=>decide (kv.1=k))=true then kvs.map (fun kv=>if kv.1=k then(kv.1,v)else kv)else kvs++[(k,v)]
theorem jn{p:κ×V}{r:List (κ×V)}{k:κ}(e:p.1=k):cf (p::r) k=some p.2:=by simp[cf,sF,e]
theorem ip{p:κ×V}{r:List (κ×V)}{k:κ}(e: ¬p.1=k):cf (p::r) k=cf r k:=by simp[cf,sF,e]
theorem nX(k:κ):∀kvs:List (κ×V),(kvs.any fun kv=>decide (kv.1=k))=(cf kvs k).isSome
 | []=>rfl
 |p::r=>by
  rw[qr];by_cases e:p.1=k
  ·simp only[jn e,dT e,Bool.true_or,mZ]
  ·rw[ip e,dF e,Bool.false_or]; exact nX k r
theorem Ll(k j:κ)(y:V):∀kvs:List (κ×V),cf (kvs.map fun kv=>if kv.1=k then(kv.1,y)else kv) j=(cf kvs j).map fun x=>if j=k then y else x
 | []=>rfl
 |p::r=>by
  have ih:=Ll k j y r;rw[cV];by_cases h:p.1=k
  ·rw[if_pos h];by_cases e:p.1=j
   ·rw[jn (p:=(p.1,y)) e,jn e,kT,if_pos (e.symm.trans h)]
   ·rw[ip (p:=(p.1,y)) e,ip e,ih]
  ·rw[if_neg h];by_cases e:p.1=j
   ·rw[jn (p:=p) e,jn e,kT,if_neg (fun z=>h (e.trans z))]
   ·rw[ip (p:=p) e,ip e,ih]
theorem Lm(k j:κ)(y:V):∀kvs:List (κ×V),cf kvs k=none->cf (kvs++[(k,y)]) j=if j=k then some y else cf kvs j
 | [],_=>by
  by_cases e:k=j
  ·rw[if_pos e.symm]; exact jn (p:=(k,y)) e
  ·rw[if_neg (fun z=>e z.symm)]; exact ip (p:=(k,y)) e
 |p::r,hn=>by
  rw[oy];have hk: ¬p.1=k:=fun z=>by rw[jn z]at hn; cases hn
  rw[ip hk]at hn;have ih:=Lm k j y r hn;by_cases e:p.1=j
  ·rw[jn e,jn e,if_neg (fun z=>hk (e.trans z))]
  ·rw[ip e,ip e,ih]
theorem yc(kvs:List (κ×V))(k j:κ)(y:V):cf (dj kvs k y) j=if j=k then some y else cf kvs j:=by
 unfold dj;by_cases a:(kvs.any fun kv=>decide (kv.1=k))=true
 ·rw[if_pos a,Ll];rw[nX]at a;by_cases e:j=k
  ·obtain⟨x,hx⟩:=DH.mp a;rw[if_pos e,e,hx,kT,if_pos rfl]
  ·rw[if_neg e];cases cf kvs j with
   |none=>rfl
   |some x=>rw[kT,if_neg e]
 ·rw[if_neg a];refine Lm k j y kvs ?_;rw[nX]at a;cases q:cf kvs k with
  |none=>rfl
  |some x=>rw[q]at a; exact(a rfl).elim
theorem Ar(kvs:List (κ×V))(k:κ)(v:V):(dj kvs k v).length<=kvs.length+1:=by
 unfold dj;split
 ·rw[aE]; omega
 ·rw[bt,bG,vm]; omega
theorem BH{kvs:List (κ×V)}{k:κ}(v:V)(h:cf kvs k=none):dj kvs k v=kvs++[(k,v)]:=by
 unfold dj;rw[nX,h];exact if_neg (by decide)
theorem fQ.isSome_eq{o:Option V}{u:Option ae}(r:fQ o u):o.isSome=u.isSome:=by
 cases o with
 |none=>cases u with
  |none=>rfl
  |some _=>exact(show False from r).elim
 |some _=>cases u with
  |none=>exact(show False from r).elim
  |some _=>rfl
theorem fQ.getD{o:Option V}{u:Option ae}{d:V}{d':ae}(r:fQ o u)(rd:RelV d d'):RelV (o.getD d) (u.getD d'):=by
 cases o with
 |none=>cases u with
  |none=>exact rd
  |some _=>exact(show False from r).elim
 |some _=>cases u with
  |none=>exact(show False from r).elim
  |some _=>exact r
theorem KV.val{kvs:List (κ×V)}{vs:List (κ×ae)}(r:KV kvs vs)(k:κ):fQ (cf kvs k) (valueAt vs k):=by
 unfold KV at r
 induction r with
 |nil=>exact kY
 | @cons p q ps qs h t ih=>
  obtain⟨h1,h2⟩:=h;by_cases e:p.1=k
  ·have e':q.1=k:=h1.symm.trans e;have b:valueAt (q::qs) k=some q.2:=by simp[valueAt,sF,e']
   rw[jn e,b]; exact h2
  ·have e': ¬q.1=k:=fun z=>e (h1.trans z);have b:valueAt (q::qs) k=valueAt qs k:=by simp[valueAt,sF,e']
   rw[ip e,b]; exact ih
theorem KV.any{kvs:List (κ×V)}{vs:List (κ×ae)}(r:KV kvs vs)(k:κ):(kvs.any fun kv=>decide (kv.1=k))=vs.any fun kv=>decide (kv.1=k):=by
 unfold KV at r
 induction r with
 |nil=>rfl
 |cons h t ih=>rw[qr,qr,ih,h.1]
theorem KV.repl{kvs:List (κ×V)}{vs:List (κ×ae)}(r:KV kvs vs)(k:κ){y:V}{u:ae}(ry:RelV y u):
  KV (kvs.map fun kv=>if kv.1=k then(kv.1,y)else kv) (vs.map fun kv=>if kv.1=k then(kv.1,u)else kv):=by
 unfold KV at r⊢
 induction r with
 |nil=>exact .nil
 | @cons p q ps qs h t ih=>
  rw[cV,cV];refine .cons ?_ ih;obtain⟨h1,h2⟩:=h;by_cases e:p.1=k
  ·rw[if_pos e,if_pos (h1.symm.trans e)]; exact⟨h1,ry⟩
  ·rw[if_neg e,if_neg (fun z=>e (h1.trans z))]; exact⟨h1,h2⟩
theorem KV.put{kvs:List (κ×V)}{vs:List (κ×ae)}(r:KV kvs vs)(k:κ){y:V}{u:ae}(ry:RelV y u):KV (dj kvs k y) (stored vs k u):=by
 unfold dj stored;rw[r.any k];by_cases e:(vs.any fun kv=>decide (kv.1=k))=true
 ·rw[if_pos e,if_pos e]; exact r.repl k ry
 ·rw[if_neg e,if_neg e]; exact iZ r ⟨rfl,ry⟩
theorem KV.length{kvs:List (κ×V)}{vs:List (κ×ae)}(r:KV kvs vs):kvs.length=vs.length:=bH.length r
end
theorem pD{P:aO}{w:aN}{k:aP}{u:ae}(r:RelV (kV k) u):(gL P w).is k u=true:=by
 cases k with
 |inl i=>obtain⟨t,e⟩:=(show∃t,u=km i t from r); subst e; exact PQ P w i t
 |inr x=>obtain⟨t,e⟩:=(show∃t,u=ae.str x t from r); subst e; exact PR P w x t
theorem items_are{P:aO}{w:aN}:∀{ks:List aP}{us:List ae},aS (ks.map kV) us->ItemsAre (gL P w) ks us
 | [],_,r=>by rw[sH]at r; cases r; exact .nil
 |k::ks,_,r=>by
  rw[cV]at r;cases r with
  |cons h t=>exact .cons (pD h) (items_are t)
abbrev KT(H:Hp):List (List aP×V)->List (List aP×aa×ae)->Prop:=bH fun p q=>p.1=q.1/\H q.2.1=some (.tup (p.1.map kV))/\RelV p.2 q.2.2
theorem KT.val{H:Hp}{kvs:List (List aP×V)}{xs:List (List aP×aa×ae)}(r:KT H kvs xs)(k:List aP):fQ (cf kvs k) ((atKey xs k).map (·.2)):=by
 induction r with
 |nil=>exact kY
 | @cons p q ps qs h t ih=>
  obtain⟨h1,_,h2⟩:=h;by_cases e:p.1=k
  ·have e':q.1=k:=h1.symm.trans e;have b:atKey (q::qs) k=some q.2:=by simp[atKey,sF,e']
   rw[jn e,b]; exact h2
  ·have e': ¬q.1=k:=fun z=>e (h1.trans z);have b:atKey (q::qs) k=atKey qs k:=by simp[atKey,sF,e']
   rw[ip e,b]; exact ih
theorem KT.repl{H:Hp}{kvs:List (List aP×V)}{xs:List (List aP×aa×ae)}(r:KT H kvs xs)(k:List aP){y:V}{u:ae}(ry:RelV y u):
  KT H (kvs.map fun kv=>if kv.1=k then(kv.1,y)else kv) (xs.map (putAt k u)):=by
 induction r with
 |nil=>exact .nil
 | @cons p q ps qs h t ih=>
  rw[cV,cV];refine .cons ?_ ih;obtain⟨h1,h2,h3⟩:=h;unfold putAt;by_cases e:p.1=k
  ·rw[if_pos e,if_pos (h1.symm.trans e)]; exact⟨h1,h2,ry⟩
  ·rw[if_neg e,if_neg (fun z=>e (h1.trans z))]; exact⟨h1,h2,h3⟩
theorem KT.put{H:Hp}{kvs:List (List aP×V)}{xs:List (List aP×aa×ae)}(r:KT H kvs xs)(k:List aP){b:aa}{y:V}{u:ae}(hb:H b=some (.tup (k.map kV)))(ry:RelV y u):
  KT H (dj kvs k y) (storedH xs k b u):=by
 have e:(kvs.any fun kv=>decide (kv.1=k))=(atKey xs k).isSome:=by
  rw[nX,(r.val k).isSome_eq,DI]
 unfold dj storedH;rw[e];by_cases q:(atKey xs k).isSome=true
 ·rw[if_pos q,if_pos q]; exact r.repl k ry
 ·rw[if_neg q,if_neg q]; exact iZ r ⟨rfl,hb,ry⟩
theorem KT.keeps{H H':Hp}{kvs:List (List aP×V)}{xs:List (List aP×aa×ae)}(r:KT H kvs xs)(ht:∀b ys,H b=some (.tup ys)->H' b=some (.tup ys)):KT H' kvs xs:=
 bH.mapP r fun _ _ z=>⟨z.1,ht _ _ z.2.1,z.2.2⟩
section
variable{P:aO}{w:aN}{H:Hp}{h:aC}{a:aa}
theorem HX{u:HO}(ok:cx P w H h)(e:Rd H a u):dM P w H h a u:=e.ok ok
theorem pk{kvs:List (aP×V)}(ok:cx P w H h)(e:Rd H a (.dK kvs)):kvs.length<=aY/\(a==lK)=false/\∃vs,KV kvs vs/\h.DictOf (gL P w) a vs:=
 show dM P w H h a (.dK kvs)from HX ok e
theorem Fl{kvs:List (aP×V)}(ok:cx P w H h)(e:H a=some (.dK kvs)):kvs.length<=aY/\(a==lK)=false/\∃vs,KV kvs vs/\h.DictOf (gL P w) a vs:=pk ok (.inl e)
theorem ro{ks:List aP}(ok:cx P w H h)(e:H a=some (.tup (ks.map kV))):(uR (gL P w)).is h ks a:=by
 obtain⟨_,its,r,o,h1,h2,n,h3⟩:=(show dM P w H h a (.tup (ks.map kV))from ok a _ e);exact⟨o,its.toArray,n,h1,h2,h3,by simpa using items_are r⟩
theorem pz{kvs:List (List aP×V)}(ok:cx P w H h)(e:Rd H a (.dT kvs)):kvs.length<=aY/\(a==lK)=false/\
  ∃xs,KT H kvs xs/\h.DictOfH (uR (gL P w)) a xs:=by
 obtain⟨z,y,xs,r,o,es,ep,h1,h2,h3,h4,h5⟩:=(show dM P w H h a (.dT kvs)from HX ok e);refine⟨z,y,xs,r,o,es,ep,h1,h2,h3,h4,fun x hx=>?_,h5⟩
 have all:∀{l:List (List aP×V)}{m:List (List aP×aa×ae)},KT H l m->∀x∈m,(uR (gL P w)).is h x.1 x.2.1:=by
  intro l m q
  induction q with
  |nil=>intro x hx; exact nomatch hx
  | @cons p q ps qs hq t ih=>
   intro x hx;rcases bg.mp hx with e|hx
   ·subst e;exact ro ok (by rw[<-hq.1]; exact hq.2.1)
   ·exact ih x hx
 exact all r x hx
theorem NT{kvs:List (List aP×V)}(ok:cx P w H h)(e:H a=some (.dT kvs)):kvs.length<=aY/\(a==lK)=false/\
  ∃xs,KT H kvs xs/\h.DictOfH (uR (gL P w)) a xs:=pz ok (.inl e)
end
def fj(H:Hp)(a:aa)(y:V)(r:Option V):Prop:=
 (∃kvs k,Rd H a (.dK kvs)/\y=kV k/\r=cf kvs k)\/∃kvs k b,Rd H a (.dT kvs)/\y=.ref b/\H b=some (.tup (k.map kV))/\r=cf kvs k
def lO(H:Hp)(a:aa)(y v:V)(H':Hp):Prop:=
 (∃kvs k,H a=some (.dK kvs)/\y=kV k/\kvs.length<aY/\H'=ah H a (.dK (dj kvs k v)))\/
 ∃kvs k b,H a=some (.dT kvs)/\y=.ref b/\H b=some (.tup (k.map kV))/\kvs.length<aY/\H'=ah H a (.dT (dj kvs k v))
theorem fj.k{H:Hp}{a:aa}{kvs:List (aP×V)}{k:aP}(e:H a=some (.dK kvs)):fj H a (kV k) (cf kvs k):=.inl ⟨kvs,k,.inl e,rfl,rfl⟩
theorem fj.t{H:Hp}{a b:aa}{kvs:List (List aP×V)}{k:List aP}(e:H a=some (.dT kvs))(eb:H b=some (.tup (k.map kV))):fj H a (.ref b) (cf kvs k):=.inr ⟨kvs,k,b,.inl e,rfl,eb,rfl⟩
theorem lO.k{H:Hp}{a:aa}{kvs:List (aP×V)}{k:aP}{v:V}(e:H a=some (.dK kvs))(hl:kvs.length<aY):lO H a (kV k) v (ah H a (.dK (dj kvs k v))):=.inl ⟨kvs,k,e,rfl,hl,rfl⟩
theorem lO.t{H:Hp}{a b:aa}{kvs:List (List aP×V)}{k:List aP}{v:V}(e:H a=some (.dT kvs))(eb:H b=some (.tup (k.map kV)))(hl:kvs.length<aY):
  lO H a (.ref b) v (ah H a (.dT (dj kvs k v))):=.inr ⟨kvs,k,b,e,rfl,eb,hl,rfl⟩
section
variable{X:Cx}{pins:List (aa×Obj)}{σ:St}{H:Hp}{s:aj}{a:aa}{y v:V}{u r:ae}{o:Option V}{A:bJ}{E:ae->aj->Prop}
theorem Inv.big(I:Inv X pins σ H s):lK<s.heap.objs.size:=by
 have h:iL<s.heap.objs.size:=(I.mod.glob.keeps I.bk).lt;exact qA (by decide) h
theorem NB{Q:ae->aj->Prop}(hu:A.units+1<gn)(I:Inv X pins σ H s)(g:fj H a y (some v))(ry:RelV y u)(h:∀w' s',Inv X pins σ H s'->RelV v w'->Q w' s'):
  az (aB X.prog X.w) A (getItem (.ref a) u) Q E s:=by
 rcases g with⟨kvs,k,e,ey,l⟩|⟨kvs,k,b,e,ey,eb,l⟩
 ·subst ey;obtain⟨z,hd,vs,rel,dd⟩:=pk I.hok e;obtain⟨w',hw,rw'⟩:=fQ.some_of (v:=v) (o:=valueAt vs k) (by rw[l]; exact rel.val k);exact wpAny_getItem_of (pD ry) dd.mapOf hw (h w' _ (I.tok _) rw')
 ·subst ey;cases(show u=cK b from ry);obtain⟨z,hd,xs,rel,dd⟩:=pz I.hok e;obtain⟨w',hw,rw'⟩:=fQ.some_of (v:=v) (o:=(atKey xs k).map (·.2)) (by rw[l]; exact rel.val k);obtain⟨p,hp,hp2⟩:=vH.mp hw;refine wpAny_getItem_heap (ya hu) (ro I.hok eb) dd hp ?_;rw[hp2];exact h w' _ (I.tok _) rw'
theorem NC{Q:ae->aj->Prop}(hu:A.units+1<gn)(I:Inv X pins σ H s)(g:fj H a y o)(ry:RelV y u)(h:∀s',Inv X pins σ H s'->Q (.bool o.isSome) s'):
  az (aB X.prog X.w) A (fG .In u (.ref a)) Q E s:=by
 rcases g with⟨kvs,k,e,ey,l⟩|⟨kvs,k,b,e,ey,eb,l⟩
 ·subst ey;obtain⟨z,hd,vs,rel,dd⟩:=pk I.hok e;refine wpAny_in_of (pD ry) hd dd.mapOf ?_;rw[<-(rel.val k).isSome_eq,<-l];exact h _ (I.tok _)
 ·subst ey;cases(show u=cK b from ry);obtain⟨z,hd,xs,rel,dd⟩:=pz I.hok e;refine wpAny_in_heap (ya hu) (ro I.hok eb) hd dd ?_;have q:=(rel.val k).isSome_eq;rw[DI]at q;rw[<-q,<-l];exact h _ (I.tok _)
theorem ND{Q:ae->aj->Prop}(hu:A.units+1<gn)(I:Inv X pins σ H s)(g:fj H a y o)(ry:RelV y u)(h:∀s',Inv X pins σ H s'->Q (.bool (!o.isSome)) s'):
  az (aB X.prog X.w) A (fG .NotIn u (.ref a)) Q E s:=by
 rcases g with⟨kvs,k,e,ey,l⟩|⟨kvs,k,b,e,ey,eb,l⟩
 ·subst ey;obtain⟨z,hd,vs,rel,dd⟩:=pk I.hok e;refine wpAny_notIn_of (pD ry) hd dd.mapOf ?_;rw[<-(rel.val k).isSome_eq,<-l];exact h _ (I.tok _)
 ·subst ey;cases(show u=cK b from ry);obtain⟨z,hd,xs,rel,dd⟩:=pz I.hok e;refine wpAny_notIn_heap (ya hu) (ro I.hok eb) hd dd ?_;have q:=(rel.val k).isSome_eq;rw[DI]at q;rw[<-q,<-l];exact h _ (I.tok _)
theorem zX{h':aC}{t':Nat}{ob:HO}(I:Inv X pins σ H s)(mu:sJ (H a))(hs:lP a s.heap h')(he:∃q,h'.get? a=some q)(new:dM X.prog X.w (ah H a ob) h' a ob):
  Inv X pins σ (ah H a ob) {s with heap:=h',toks:=t'}:=
 I.write (x:=a) (e:=a) mu (.inl rfl) (fun b q hb z=>(hs.2 b hb).trans z) he new
theorem Fj{P:aO}{w:aN}{H':Hp}{h':aC}{kvs:List (aP×V)}{vs:List (aP×ae)}(z:kvs.length<=aY)(hd:(a==lK)=false)(rel:KV kvs vs)(dd:h'.DictOf (gL P w) a vs):
  dM P w H' h' a (.dK kvs):=⟨z,hd,vs,rel,dd⟩
theorem NF{H':Hp}{Q:Unit->aj->Prop}(hu:A.units+1<gn)(I:Inv X pins σ H s)(g:lO H a y v H')(ry:RelV y u)(rv:RelV v r)(h:∀s',Inv X pins σ H' s'->Q () s'):
  az (aB X.prog X.w) A (setItem (.ref a) u r) Q E s:=by
 rcases g with⟨kvs,k,e,ey,l,eH⟩|⟨kvs,k,b,e,ey,eb,l,eH⟩
 ·subst ey eH;obtain⟨z,hd,vs,rel,dd⟩:=Fl I.hok e;have hz:vs.length<=aY:=by rw[<-rel.length]; exact z
  have hl:(dj kvs k v).length<=aY:=by have:=Ar kvs k v; omega
  refine wpAny_setItem_pairs (hsz:=hz) (pD ry) dd fun h' dd' hs=>h _ ?_;have he:∃q,h'.get? a=some q:=let⟨q,_,_,hq,_⟩:=dd'; ⟨q,hq⟩;exact zX I (by rw[e]; exact kY) hs he (Fj hl hd (rel.put k rv) dd')
 ·subst ey eH;cases(show u=cK b from ry);obtain⟨z,hd,xs,rel,dd⟩:=NT I.hok e;have hz:xs.length<=aY:=by rw[<-bH.length rel]; exact z
  have hl:(dj kvs k v).length<=aY:=by have:=Ar kvs k v; omega
  refine wpAny_setItem_heap (hsz:=hz) (ya hu) (ro I.hok eb) dd fun h' dd' hs=>h _ ?_;obtain⟨q,es,ep,hq,h2,h3,h4,_,h5⟩:=dd';refine zX I (by rw[e]; exact kY) hs ⟨q,hq⟩ ⟨hl,hd,_,(rel.put k eb rv).keeps fun c ys ec=>?_,q,es,ep,hq,h2,h3,h4,h5⟩;rw[aM (mD ec e (fun z=>nomatch z))];exact ec
end
def DE(i:aJ):Prop:=∀ov iv,Co i false ov iv=operate [ov,iv] (getItem ov iv)
theorem Wj{prog:aO}{w:aN}{A:bJ}{E:ae->aj->Prop}{s:aj}{env:Env}{value slice:aJ}{pos:Pos}{T id:String}{Q:ae->aj->Prop}
  (hl:typeLookup (.type T) "__getitem__"=pure (some (.builtin id)))(hs:DE slice)
  (h:az (aB prog w) A (bw value env) (fun o s₁=>az (aB prog w) A (bw slice env) (fun i s₂=>s₂.TypeIs o T/\az (aB prog w) A (getItem o i) Q E s₂) E s₁) E s):
  az (aB prog w) A (bw (.Subscript value slice pos) env) Q E s:=by
 refine Subscript_ (iq h (fun o s₁ h₁=>iq h₁ (fun i s₂ h₂=>?_) fun _ _ x=>x) fun _ _ x=>x);obtain⟨hT,h₂⟩:=h₂;unfold subscriptTail;refine ay ?_;rw[getitemInPython_of_ne hT.not_modules];refine ay (wpAny_specialOf hT hl ?_)
 have fin:az (aB prog w) A (Co slice false o i) (fun r s₃=>az (aB prog w) A (letTemporaryGo value o r>>=fun _=>pure r) Q E s₃) E s₂:=by
  rw[hs o i];exact wpAny_operating (iq h₂ (fun r s₃ h₃=>ay (wpAny_letTemporaryGo (aU h₃))) fun _ _ x=>x)
 first
  |exact aU (ay fin)
  |exact ay (aU (ay fin))
  |exact ay fin
theorem NM{X:Cx}{pins:List (aa×Obj)}{σ:St}{H:Hp}{s:aj}{a:aa}{y:V}{o:Option V}(I:Inv X pins σ H s)(g:fj H a y o):s.TypeIs (.ref a) "dict":=by
 rcases g with⟨kvs,k,e,_,_⟩|⟨kvs,k,b,e,_,_,_⟩
 ·obtain⟨_,_,vs,_,dd⟩:=pk I.hok e;exact dd.typeIs
 ·obtain⟨_,_,xs,_,dd⟩:=pz I.hok e;exact dd.typeIs
def KI(td ty:TE):TE:=fun σ H Q=>td σ H fun x H1=>ty σ H1 fun y H2=>∃a v,x=.ref a/\fj H2 a y (some v)/\Q v H2
def Cq(ty td:TE):TE:=fun σ H Q=>ty σ H fun y H1=>td σ H1 fun x H2=>∃a o,x=.ref a/\fj H2 a y o/\Q (.bl o.isSome) H2
def Cr(ty td:TE):TE:=fun σ H Q=>ty σ H fun y H1=>td σ H1 fun x H2=>∃a o,x=.ref a/\fj H2 a y o/\Q (.bl (!o.isSome)) H2
def Ig(td ty tv:TE):TS:=fun D σ H=>tv σ H fun v H1=>td σ H1 fun x H2=>ty σ H2 fun y H3=>∃a H4,x=.ref a/\lO H3 a y v H4/\D.nx σ H4
section
variable{X:Cx}{o i e value:aJ}{pos pos' tpos:Pos}{td ty tv:TE}
theorem mH(hu:X.A.units+1<gn)(ho:PE X o td)(hi:PE X i ty)(hs:DE i):PE X (.Subscript o i pos) (KI td ty):=by
 intro pins s σ H Q I h;refine Wj PySem.F.slot_dict_getitem.lookup hs (aQ (ho pins s σ H _ I h) fun u s1⟨x,H1,I1,rx,q1⟩=>aQ (hi pins s1 σ H1 _ I1 q1) fun iv s2⟨y,H2,I2,ry,a,v,ex,g,q2⟩=>?_);subst ex;obtain rfl:u=cK a:=rx;exact⟨NM I2 g,NB hu I2 g ry fun w' s3 I3 rw'=>⟨v,H2,I3,rw',q2⟩⟩
theorem Bx(hu:X.A.units+1<gn)(hi:PE X i ty)(ho:PE X o td):PC X .In i o (Cq ty td):=by
 intro pins s σ H Q I h;refine aQ (hi pins s σ H _ I h) fun iv s1⟨y,H1,I1,ry,q1⟩=>aQ (ho pins s1 σ H1 _ I1 q1) fun u s2⟨x,H2,I2,rx,a,ov,ex,g,q2⟩=>?_;subst ex;obtain rfl:u=cK a:=rx;exact NC hu I2 g ry fun s3 I3=>⟨.bl ov.isSome,H2,I3,rfl,q2⟩
theorem By(hu:X.A.units+1<gn)(hi:PE X i ty)(ho:PE X o td):PC X .NotIn i o (Cr ty td):=by
 intro pins s σ H Q I h;refine aQ (hi pins s σ H _ I h) fun iv s1⟨y,H1,I1,ry,q1⟩=>aQ (ho pins s1 σ H1 _ I1 q1) fun u s2⟨x,H2,I2,rx,a,ov,ex,g,q2⟩=>?_;subst ex;obtain rfl:u=cK a:=rx;exact ND hu I2 g ry fun s3 I3=>⟨.bl (!ov.isSome),H2,I3,rfl,q2⟩
theorem xx(hu:X.A.units+1<gn)(ho:PE X o td)(hi:PE X i ty)(hv:PE X value tv)(hs:nU value (some (.Subscript o i pos')) pos.line X.env=pure false):
  PS X (.Assign [.Subscript o i pos'] value pos) (Ig td ty tv):=by
 intro pins s σ H D I h;refine wpAny_Assign_Subscript (aQ (hv pins s σ H _ I h) fun r s1⟨v,H1,I1,rv,q1⟩=>aQ (ho pins s1 σ H1 _ I1 q1) fun u s2⟨x,H2,I2,rx,q2⟩=>aQ (hi pins s2 σ H2 _ I2 q2) fun iv s3⟨y,H3,I3,ry,a,H4,ex,g,q3⟩=>?_) hs;subst ex;obtain rfl:u=cK a:=rx;exact NF hu I3 g ry rv fun s4 I4=>⟨σ,H4,I4,q3⟩
end
theorem Fi{P:aO}{w:aN}{H:Hp}(h:aC)(hb:lK<h.objs.size):dM P w H (h.push {cls:=.type "dict",data:=.dict #[]}) h.objs.size (.dK []):=
 ⟨bC _,beq_eq_false_iff_ne.mpr (bq (cJ hb)),[],.nil,aC.DictOf.new h⟩
theorem NS{P:aO}{w:aN}{H:Hp}(h:aC)(hb:lK<h.objs.size):dM P w H (h.push {cls:=.type "dict",data:=.dict #[]}) h.objs.size (.dT []):=
 ⟨bC _,beq_eq_false_iff_ne.mpr (bq (cJ hb)),[],.nil,_,#[],0,dz _ rfl,⟨rfl,rfl,rfl⟩,rfl,rfl,yT⟩
def KL:TE:=fun _ H Q=>∀p,H p=none->Q (.ref p) (ah H p (.dK []))
def KM:TE:=fun _ H Q=>∀p,H p=none->Q (.ref p) (ah H p (.dT []))
section
variable{X:Cx}{pos:Pos}
theorem HH:PE X (.Dict [] [] pos) KL:=fun pins s σ H Q I h=>
 wpAny_Dict_empty ⟨.ref s.heap.objs.size,_,I.laid (a:=s.heap.objs.size) (o:=.dK []) (t':=s.toks) (fun _ _ q=>bS _ q) (aF _) (Fi s.heap I.big),rfl,h _ (I.hok.fresh (aF _))⟩
theorem RV:PE X (.Dict [] [] pos) KM:=fun pins s σ H Q I h=>
 wpAny_Dict_empty ⟨.ref s.heap.objs.size,_,I.laid (a:=s.heap.objs.size) (o:=.dT []) (t':=s.toks) (fun _ _ q=>bS _ q) (aF _) (NS s.heap I.big),rfl,h _ (I.hok.fresh (aF _))⟩
end
def xW:List (TE×TE)->St->Hp->(List (V×V)->Hp->Prop)->Prop
 | [],_,H,Q=>Q [] H
 |(tk,tv)::r,σ,H,Q=>tk σ H fun x H1=>tv σ H1 fun y H2=>xW r σ H2 fun ps H3=>Q ((x,y)::ps) H3
abbrev VV:List (V×V)->List (ae×ae)->Prop:=bH fun p q=>RelV p.1 q.1/\RelV p.2 q.2
def vI(X:Cx)(pos:Pos)(keys:List (Option aJ))(values:List aJ)(trs:List (TE×TE)):Prop:=
 ∀(pins:List (aa×Obj))(s:aj)(σ:St)(H:Hp)(Q:List (V×V)->Hp->Prop),Inv X pins σ H s->xW trs σ H Q->
  az (aB X.prog X.w) X.A (evalPairs (pairTrees keys values X.env pos)) (fun vs s'=>∃ps H',Inv X pins σ H' s'/\VV ps vs/\Q ps H') X.xe s
theorem Sn{X:Cx}{pos:Pos}:vI X pos [] [] []:=fun pins s σ H Q I h=>pairTrees_nil_walk ⟨[],H,I,.nil,h⟩
theorem Sm{X:Cx}{pos:Pos}{k v:aJ}{ks:List (Option aJ)}{vs:List aJ}{tk tv:TE}{trs:List (TE×TE)}(hk:PE X k tk)(hv:PE X v tv)(hr:vI X pos ks vs trs):
  vI X pos (some k::ks) (v::vs) ((tk,tv)::trs):=fun pins s σ H Q I h=>
 pairTrees_cons_walk (aQ (hk pins s σ H _ I h) fun u s1⟨x,H1,I1,rx,q1⟩=>aQ (hv pins s1 σ H1 _ I1 q1) fun w2 s2⟨y,H2,I2,ry,q2⟩=>
  aQ (hr pins s2 σ H2 _ I2 q2) fun ws s3⟨ps,H3,I3,rel,q3⟩=>⟨(x,y)::ps,H3,I3,.cons ⟨rx,ry⟩ rel,q3⟩)
def rE(kvs more:List (aP×V)):List (aP×V):=more.foldl (fun acc kv=>dj acc kv.1 kv.2) kvs
theorem KV.merge:∀{more:List (aP×V)}{rs:List (aP×ae)}{kvs:List (aP×V)}{vs:List (aP×ae)},KV more rs->KV kvs vs->KV (rE kvs more) (merged vs rs):=by
 intro more rs kvs vs r;unfold KV at r
 induction r generalizing kvs vs with
 |nil=>intro q; exact q
 | @cons p q ps qs h t ih=>
  intro r0
  have e:KV (dj kvs p.1 p.2) (stored vs q.1 q.2):=by
   have:=r0.put p.1 h.2;rw[<-h.1]; exact this
  exact ih e
theorem Gs:∀(more kvs:List (aP×V)),(rE kvs more).length<=kvs.length+more.length
 | [],kvs=>by show kvs.length<=kvs.length+0; omega
 |p::r,kvs=>by
  have h1:=Gs r (dj kvs p.1 p.2);have h2:=Ar kvs p.1 p.2;show(rE (dj kvs p.1 p.2) r).length<=_;rw[bG]; omega
theorem EK{P:aO}{w:aN}:∀{kvs:List (aP×V)}{ws:List (ae×ae)},VV (kvs.map fun kv=>(kV kv.1,kv.2)) ws->∃rs,Carries (gL P w) ws rs/\KV kvs rs
 | [],_,r=>by rw[sH]at r; cases r; exact⟨[],kY,.nil⟩
 |p::kvs,_,r=>by
  rw[cV]at r;cases r with
  | @cons a b as bs h t=>
   obtain⟨rs,c,q⟩:=EK (P:=P) (w:=w) t;obtain⟨b1,b2⟩:=b;exact⟨(p.1,b2)::rs,⟨pD h.1,rfl,c⟩,.cons ⟨rfl,h.2⟩ q⟩
def Wn(trs:List (TE×TE)):TE:=fun σ H Q=>∀p,H p=none->xW trs σ (ah H p (.dK [])) fun ps H2=>H2 p=some (.dK [])/\∃kvs:List (aP×V),ps=kvs.map (fun kv=>(kV kv.1,kv.2))/\kvs.length<=15/\Q (.ref p) (ah H2 p (.dK (rE [] kvs)))
theorem RU{X:Cx}{pos:Pos}{keys:List (Option aJ)}{values:List aJ}{trs:List (TE×TE)}(h:vI X pos keys values trs)(hall:keys.all (·.isSome)=true)(hl:keys.length=values.length)(h0:keys≠[])
  (h15:keys.length<=15):PE X (.Dict keys values pos) (Wn trs):=by
 intro pins s σ H Q I q;have hn:=I.hok.fresh (aF s.heap.objs.size);have I1:=I.laid (a:=s.heap.objs.size) (o:=.dK []) (h':=s.heap.push {cls:=.type "dict",data:=.dict #[]}) (t':=s.toks) (fun _ _ q=>bS _ q) (aF _) (Fi s.heap I.big);refine wpAny_Dict_walk (knd:=gL X.prog X.w) hall hl h0 h15 (aQ (h pins _ σ _ _ I1 (q _ hn)) fun ws s2⟨ps,H2,I2,rel,e,kvs,ep,lk,q2⟩=>?_);subst ep;obtain⟨rs,c,rk⟩:=EK (P:=X.prog) (w:=X.w) rel;obtain⟨z,hd,vs0,r0,dd⟩:=Fl I2.hok e;cases r0;refine⟨rs,c,dd,fun h' dd' hs=>⟨.ref s.heap.objs.size,_,?_,rfl,q2⟩⟩
 have hz:(rE [] kvs).length<=aY:=by
  have h1:=Gs kvs [];rw[vm]at h1;rw[rS]; omega
 have he:∃q,h'.get? s.heap.objs.size=some q:=let⟨q,_,_,hq,_⟩:=dd'; ⟨q,hq⟩;exact zX I2 (by rw[e]; exact kY) hs he (Fj hz hd (rk.merge .nil) dd')
structure M1(X:Cx)(o:aJ)(m:Str)(apos:Pos)(e:aJ)(cpos:Pos):Prop where
 base:tj o m X.env (bw o X.env)=bw o X.env
 few:((dX cpos (bN [e] X.env)).all (fun x=>!x.1)&&(oZ cpos (pE [] X.env)).all (fun x=>x.1.isSome)
  &&decide (([e]:List aJ).length+([]:List Keyword).length+(if([]:List Keyword).isEmpty then 0 else 1)<30))=true
 line:(apos.endLine==cpos.line)=true
 trees:dX cpos (bN [e] X.env)=[(false,bw e X.env)]
def yF(H:Hp)(a:aa):Prop:=(∃kvs,Rd H a (.dK kvs))\/∃kvs,Rd H a (.dT kvs)
theorem Oz{X:Cx}{pins:List (aa×Obj)}{σ:St}{H:Hp}{s:aj}{a:aa}(I:Inv X pins σ H s)(d:yF H a):
  s.TypeIs (.ref a) "dict"/\(∀b,cK a=.ref b->∃ob,s.heap.get? b=some ob/\ob.dict=none)/\(a==lK)=false:=by
 rcases d with⟨kvs,e⟩|⟨kvs,e⟩
 ·obtain⟨_,hd,vs,_,dd⟩:=pk I.hok e;refine⟨dd.typeIs,fun b q=>?_,hd⟩;cases q;obtain⟨ob,_,_,h1,h2,_⟩:=dd;exact⟨ob,h1,h2.2.1⟩
 ·obtain⟨_,hd,xs,_,dd⟩:=pz I.hok e;refine⟨dd.typeIs,fun b q=>?_,hd⟩;cases q;obtain⟨ob,_,_,h1,h2,_⟩:=dd;exact⟨ob,h1,h2.2.1⟩
section
variable{X:Cx}{pins:List (aa×Obj)}{σ:St}{H:Hp}{s:aj}{a:aa}{y d:V}{u r:ae}{o:Option V}{A:bJ}{E:ae->aj->Prop}
theorem NA{Q:ae->aj->Prop}(hu:A.units+1<gn)(I:Inv X pins σ H s)(g:fj H a y o)(ry:RelV y u)(h:∀w' s',Inv X pins σ H s'->RelV (o.getD .non) w'->Q w' s'):
  az (aB X.prog X.w) A (call (.builtin "dict.get") [.ref a,u]) Q E s:=by
 rcases g with⟨kvs,k,e,ey,l⟩|⟨kvs,k,b,e,ey,eb,l⟩
 ·subst ey;obtain⟨z,hd,vs,rel,dd⟩:=pk I.hok e;refine call_meetsIn DL dd.typeIs Mp (Mo _ _) (meets_dict_get (gL X.prog X.w) a (pD ry) hd) ⟨_,dd.mapOf,h _ _ (I.tok _) ?_⟩;rw[l];exact(rel.val k).getD rfl
 ·subst ey;cases(show u=cK b from ry);obtain⟨z,hd,xs,rel,dd⟩:=pz I.hok e;refine call_meetsIn DL dd.typeIs Mp (Mo _ _) (meetsH_dict_get (uR (gL X.prog X.w)) a b hd) ⟨ya hu,k,xs,ro I.hok eb,dd,h _ _ (I.tok _) ?_⟩;rw[l];exact(rel.val k).getD rfl
end
def KJ(td ty:TE):TE:=fun σ H Q=>td σ H fun x H1=>∃a,x=.ref a/\yF H1 a/\ty σ H1 fun y H2=>∃o,fj H2 a y o/\Q (o.getD .non) H2
section
variable{X:Cx}{o e f:aJ}{apos cpos:Pos}{td ty tx:TE}
theorem RT(hu:X.A.units+1<gn)(ho:PE X o td)(he:PE X e ty)(m:M1 X o "get" apos e cpos):PE X (.Call (.Attribute o "get" apos) [e] [] cpos) (KJ td ty):=by
 intro pins s σ H Q I h;refine wpAny_Call_method m.base m.few m.line PySem.F.plainAttrs_dict DL PySem.F.type_dict_get (aQ (ho pins s σ H _ I h) fun u s1⟨x,H1,I1,rx,a,ex,d,q1⟩=>?_);subst ex;obtain rfl:u=cK a:=rx;obtain⟨t1,t2,_⟩:=Oz I1 d;refine⟨t1,t2,?_⟩;rw[m.trees];refine Dc rfl (Dd (yt (aQ (he pins s1 σ H1 _ I1 q1) fun iv s2⟨y,H2,I2,ry,ov,g,q2⟩=>yu ?_)));exact NA hu I2 g ry fun w' s3 I3 rw'=>⟨_,H2,I3,rw',q2⟩
end
section
variable{X:Cx}{pins:List (aa×Obj)}{σ:St}{H:Hp}{s:aj}{h':aC}
theorem Inv.turnedNew{t':Nat}{ch:List aa}{T:aa}{ob:HO}(I:Inv X pins σ H s)(k:∀b o,b∉ch->s.heap.get? b=some o->h'.get? b=some o)(hf:∀b∈ch,ia X pins H b)(hT:s.heap.objs.size<=T)
  (new:dM X.prog X.w (ah H T ob) h' T ob):Inv X pins σ (ah H T ob) {s with heap:=h',toks:=t'}:=by
 have hn:H T=none:=I.hok.fresh hT
 have nit:∀b u,H b=some u->b∉ch:=fun b u e z=>by
  have q:=(hf b z).1;rw[q]at e; cases e
 refine I.step (g':=s.gens) (d':=s.drawn) (ch:=ch) (fun b hb=>⟨(hf b hb).2.2.2.1,(hf b hb).2.1,(hf b hb).2.2.2.2.1,(hf b hb).2.2.2.2.2⟩) (fun b o _ _ hc e _=>k b o hc e) (fun b o _ _ hc e _=>⟨o.slots,k b o hc e⟩)
  (fun b o _ e n=>?_) (fun b o hc e=>⟨o,k b o hc e⟩) (fun b xs e=>?_) (fun b o u e=>?_) (fun b ps e=>⟨#[],?_⟩) (fun m hm=>?_) (fun b u e=>?_) I.bare
 ·rw[aM (cJ (cW (bO e) hT))]; exact n
 ·rw[aM (dh e hn)]; exact e
 ·rw[aM (dh e hn)]; exact e
 ·rw[aM (dh e hn),e]; simp
 ·obtain⟨o,es,ep,ho,r⟩:=hm;exact⟨o,es,ep,k _ o (fun z=>(hf _ z).2.1 rfl) ho,r⟩
 ·by_cases hb:b=T
  ·subst hb;rw[ax]at e;cases e;exact new
  ·rw[aM hb]at e;refine(I.hok b u e).stay (fun c v hc q=>k c v ?_ q) (fun c q=>by rw[aM (dh q hn)]; exact q) fun c xs q=>by rw[aM (dh q hn)]; exact q
   rcases hc with z|z
   ·rw[z]; exact nit b u e
   ·exact nit c _ z
end
def yG(K:aw)(a:aa):It:=
 ⟨fun i H=>∃(xs:List V)(x:V),ak K H a xs/\xs[i]?=some x,fun i H v H'=>∃T x,v=.ref T/\H T=none/\H'=ah H T (.tup [.int (i:Nat),x])/\∀xs,ak K H a xs->xs[i]?=some x,fun i H=>∃xs:List V,ak K H a xs/\xs.length<=i⟩
theorem Wy{P:aO}{w:aN}{K:aw}{elts:List aJ}{kk:Nat}{tpos:Pos}(a e it:aa):
  vV P w K (.Tuple elts kk tpos) (yG K a) [e,it] e (fun i h=>(∃old,IsEnum h e it ((i:Nat):Int) old)/\h.IsListIter it a i/\e≠it) where
 mem:=by simp
 obj:=fun i h st b hb=>by
  obtain⟨⟨old,he⟩,⟨o,ho,hc,hd⟩,_⟩:=st;have e':b=e\/b=it:=by simpa using hb
  rcases e' with z|z
  ·rw[z]; exact⟨_,he,fun v q=>nomatch q⟩
  ·rw[z]; exact⟨o,ho,fun v q=>by rw[hd]at q; cases q⟩
 keep:=fun i h h' st k=>let⟨⟨old,he⟩,hi,hne⟩:=st; ⟨⟨old,k e (by simp) _ he⟩,hi.at fun o q=>k it (by simp) o q,hne⟩
 item:=by
  intro X hP hw hK hc i pins s σ H E I hf st hg;subst hP hw hK;obtain⟨⟨old,he⟩,hit,hne⟩:=st;obtain⟨xs,x,hq,hx⟩:=hg;obtain⟨its,rv,p,hz⟩:=I.list hq;obtain⟨u,hu,ru⟩:=rv.get hx;have hel:e<s.heap.objs.size:=bO he;have hil:it<s.heap.objs.size:=by obtain⟨_,q,_⟩:=hit; exact bO q
  refine wpAny_pyNext_enum_item he hit p.isList (x:=u) (by simpa using hu) hne fun h' ho hit' hT hsz hk=>?_;refine⟨_,rfl,wpAny_letOwnedTupleGo_enum (s:={s with heap:=h',toks:=s.toks+1}) ho fun h'' he' sb=>?_⟩;have hT2:h''.get? s.heap.objs.size=some {cls:=.type "tuple",data:=.seq #[.int i s.toks,u]}:=(sb.2 _ (qC hel)).trans hT
  have new:dM X.prog X.w (ah H s.heap.objs.size (.tup [.int (i:Nat),x])) h'' s.heap.objs.size (.tup [.int (i:Nat),x]):=
   ⟨by show 2<=aY; decide,[.int i s.toks,u],.cons ⟨_,rfl⟩ (.cons ru .nil),⟨_,hT2,rfl,_,rfl⟩⟩
  have I1:Inv X pins σ (ah H s.heap.objs.size (.tup [.int (i:Nat),x])) {s with heap:=h'',toks:=s.toks+1}:=
   I.turnedNew (ch:=[e,it]) (fun b ob hb q=>(sb.2 b (fun z=>hb (by simp[z]))).trans (hk b ob (fun z=>hb (by simp[z])) (fun z=>hb (by simp[z])) q)) hf (aF _) new
  refine⟨.ref s.heap.objs.size,_,I1,rfl,⟨_,x,rfl,I.hok.fresh (aF _),rfl,fun ys hy=>by rw[I.list_inj hy hq]; exact hx⟩,⟨⟨u,?_⟩,hit'.at fun o q=>(sb.2 it (bq hne)).trans q,hne⟩,fun b hb=>?_⟩
  ·have e1:((i+1:Nat):Int)=(i:Int)+1:=by omega
   rw[e1]; exact he'
  ·have hb':b<s.heap.objs.size:=by
    have e':b=e\/b=it:=by simpa using hb
    rcases e' with z|z
    ·rw[z]; exact hel
    ·rw[z]; exact hil
   rw[aM (cJ hb')];exact(hf b hb).1
 done:=by
  intro X hP hw hK hc i pins s σ H E I hf st hg;subst hP hw hK;obtain⟨⟨old,he⟩,hit,hne⟩:=st;obtain⟨xs,hq,hx⟩:=hg;obtain⟨its,rv,p,hz⟩:=I.list hq;obtain⟨f0,f1,f2,f3,f4,f5⟩:=hf it (by simp);have hl:=rv.length;exact wpAny_pyNext_enum_end (I.ok.hd hc) he hit p.isList (by simp; omega) fun h' eb=>⟨rfl,I.turned (t':=s.toks) (fun b o hb q=>eb b o hb q) f0 f1 f3 f4 f5⟩
 self:=fun A i s Q E st h=>let⟨⟨_,he⟩,_⟩:=st; wpAny_pyIter_enum he h
def FQ(K:aw)(ta:TA):TI:=fun σ H R=>ta σ H fun vs H1=>∃a xs,vs=[.ref a]/\ak K H1 a xs/\R (yG K a) H1
theorem nO{X:Cx}{e:aJ}{ta:TA}{p pos tpos:Pos}{elts:List aJ}{kk:Nat}(hg:Gl X "enumerate")(hm:X.mg "enumerate"=none)(ha:PA X [e] ta)(hs:bN [e] X.env=[(false,bw e X.env)]:=by rfl):
  PI X (.Tuple elts kk tpos) (.Call (.Name "enumerate" p) [e] [] pos) (FQ X.K ta):=by
 intro pins s σ H R I h;refine Call_ (rq I hg hm boot_enumerate (zg (aQ (ha pos pins s σ H _ I h) fun us s1⟨vs,H1,I1,r1,q1⟩=>?_) hs rfl));obtain⟨a,xs,ex,hq,q⟩:=q1;subst ex;cases r1 with
 |cons r rr=>
  cases rr;cases r;obtain⟨its,rv,p',hz⟩:=I1.list hq;refine call_enumerate_list p'.isList fun h' he hit hsz hk=>wpAny_pyIter_enum he ?_;have I2:Inv X pins σ H1 {s1 with heap:=h'}:=I1.kept (t':=s1.toks) hk;refine⟨s1.heap.objs.size+1,[s1.heap.objs.size+1,s1.heap.objs.size],_,_,H1,rfl,I2,Wy a (s1.heap.objs.size+1) s1.heap.objs.size,⟨⟨.none,he⟩,hit,Nat.succ_ne_self _⟩,fun b hb=>?_,q⟩;have e':b=s1.heap.objs.size+1\/b=s1.heap.objs.size:=by simpa using hb
  have hle:s1.heap.objs.size<=b:=by
   rcases e' with z|z
   ·rw[z]; exact Nat.le_add_right _ _
   ·rw[z]; exact aF _
  exact I1.fpOk hle (I1.hok.fresh hle)
end L2
section
namespace Bits
open PySem PyProof.Rows
end Bits
end
section
namespace TL
open PySem PySem.Builtin PySem.Builtin.Str PySem.StrLaws
end TL
end
namespace L2
open PySem PySem.Spec PyProof.Rows
end L2
namespace Att
open PySem PySem.W PySem.Calls PyProof.Rows
end Att
namespace L2
open PySem PySem.Spec PyProof.Rows
def inClass(s:aH)(j:Nat):aH:=match s with
 |.ClassDef _ _ _ body _ _ _ _ _ _ _=>body.getD j (.Pass ⟨0,0,0,0⟩)
 |_=>.Pass ⟨0,0,0,0⟩
def lj(s:aH):qe:=match s with
 |.FunctionDef _ a _ _ _ _ _ _ _ _=>a
 |_=>{posonlyargs:=[],args:=[],vararg:=none,kwonlyargs:=[],kw_defaults:=[],kwarg:=none,defaults:=[]}
def gE(s:aH):List aH:=match s with
 |.FunctionDef _ _ b _ _ _ _ _ _ _=>b
 |_=> []
def aI(s:aH):cR:=match s with
 |.FunctionDef _ _ _ _ _ _ sc _ _ _=>sc
 |_=>{kind:=.function,names:=[],isGenerator:=false,isCoroutine:=false}
abbrev aX:jo:=fun _ _ _ _ _ _=>False
abbrev E0:XK:=fun _ _ _=>False
theorem bA{X:Cx}:gC aX X E0:=fun _ _ _ _ _ _ _ h=>h.elim
structure kK(K:aw)(x qual:Str)(st:aH)(f:aa)(fd:kL):Prop where
 ex:∃(oc:ae)(od:Option aa)(kV doc pm:ae)(an:Option aa)(cdv ct:ae)(osl:Array (Option ae)),
  fd=kf x qual (lj st) (gE st) (aI st) .none kV doc pm an cdv ct/\K.lookup f=some ⟨oc,od,.func fd,osl⟩/\sU K cdv qual=true
 kp:kg K (.ref f)=true
section
variable{P:aO}{w:aN}{K:aw}{mg:Str->Option ae}{base:aC}
theorem kK.ok{x qual:Str}{st:aH}{f:aa}{fd:kL}{N ps:List Str}{k:Nat}{sp:Sp}(F:kK K x qual st f fd)(S:aW N ps (aI st))(len:∀vs H Q E,sp vs H Q E->vs.length=ps.length)
  (hbody:∀(cdv:ae)(A:bJ)(outer:List Env)(s:aj)(H:Hp)(vs:List V)(Q:VK)(E:XK),cy k (A.deeper (iJ qual (aI st) s.heap.objs.size f cdv))->sp vs H Q E->
   ∃t,fo (iH aX P w K mg base N qual (aI st) f cdv A outer s H E).nox (gE st) t/\t {nx:=fun _ H'=>Q .non H',rt:=Q} (start N vs) H):gd P w K mg base aX (k+1) f fd ps sp:=by
 obtain⟨oc,od,kV,doc,pm,an,cdv,ct,osl,rfl,lk,hcd⟩:=F.ex;refine Af lk hcd S len fun A outer s H vs Q E hr hsp=>?_;obtain⟨t,h,q⟩:=hbody cdv A outer s H vs Q E hr hsp;exact⟨t,h.nox,q⟩
theorem kK.binds{x qual:Str}{st:aH}{f:aa}{fd:kL}{ps:List Str}(F:kK K x qual st f fd)
  (h:∀(kV doc pm:ae)(an:Option aa)(cdv ct:ae)(us:List ae),us.length=ps.length->bindArgs (kf x qual (lj st) (gE st) (aI st) .none kV doc pm an cdv ct) ⟨us,[]⟩=pure (ps.zip us)):Binds K fd ps []:=by
 obtain⟨oc,od,kV,doc,pm,an,cdv,ct,osl,rfl,lk,hcd⟩:=F.ex;exact .all (h kV doc pm an cdv ct)
theorem rl{x qual:Str}{st:aH}{f:aa}{oc:ae}{od an:Option aa}{osl:Array (Option ae)}{kV doc pm cdv ct:ae}(l:K.lookup f=some ⟨oc,od,.func (kf x qual (lj st) (gE st) (aI st) .none kV doc pm an cdv ct),osl⟩)
  (c:sU K cdv qual=true)(k:kg K (.ref f)=true):kK K x qual st f (kf x qual (lj st) (gE st) (aI st) .none kV doc pm an cdv ct):=⟨⟨oc,od,kV,doc,pm,an,cdv,ct,osl,rfl,l,c⟩,k⟩
end
theorem mr{A:bJ}{k:Nat}(hr:cy k A):A.units+1<gn:=vy (Nat.add_le_add_left (by decide:1<=64) _) hr.units
section
variable{X:Cx}
theorem pv(i:Nat){x:Str}{pos:Pos}(hN:X.N[i]?=some x:=by rfl)(hv:qP X.env.scope x:=by first|exact Or.inl rfl|exact kU (Or.inl rfl)|exact kU (kU rfl))(hd:(x==("__debug__":Str))=false:=by decide)
  (hcd:(x==("__classdict__":Str))=false:=by decide):PE X (.Name x pos) (jT i):=Sg hN hv hd hcd
end
def bh(H H':Hp):Prop:=∀b o,H b=some o->H' b=some o
theorem bh.refl(H:Hp):bh H H:=fun _ _ h=>h
theorem bh.trans{H H1 H2:Hp}(a:bh H H1)(b:bh H1 H2):bh H H2:=fun c o h=>b c o (a c o h)
theorem bh.free{H H':Hp}(e:bh H H'){l:aa}(h:H' l=Option.none):H l=Option.none:=by
 cases q:H l with
 |none=>rfl
 |some o=>
  rw[e l o q]at h;cases h
theorem bh.seq{K:aw}{H H':Hp}{a:aa}{xs:List V}(e:bh H H')(h:ak K H a xs):ak K H' a xs:=by
 rcases h with(h|⟨o,h⟩)|h
 ·exact .inl (.inl (e _ _ h))
 ·exact .inl (.inr ⟨o,e _ _ h⟩)
 ·exact .inr h
section
variable{κ:Type} [DecidableEq κ]
theorem CJ{kvs:List (κ×V)}{k:κ}(h:cf kvs k=none): ¬k∈kvs.map (·.1):=by
 intro m;obtain⟨p,hp,e⟩:=bP.mp m;have q:(kvs.any fun kv=>decide (kv.1=k))=true:=ow.mpr ⟨p,hp,dT e⟩;rw[nX,h]at q;exact absurd q (by simp)
theorem WJ{kvs:List (κ×V)}{k:κ}{v:V}(h:cf kvs k=some v):k∈kvs.map (·.1):=by
 have q:(kvs.any fun kv=>decide (kv.1=k))=true:=by
  rw[nX,h]
  all_goals rfl
 obtain⟨p,hp,e⟩:=ow.mp q;exact bP.mpr ⟨p,hp,of_decide_eq_true e⟩
theorem GS:∀{l:List κ}{k:κ},l.Nodup-> ¬k∈l->(l++[k]).Nodup
 | [],k,_,_=>by simp
 |a::r,k,h,hk=>by
  obtain⟨h1,h2⟩:=jw.mp h;show(a::(r++[k])).Nodup;refine jw.mpr ⟨fun m=>?_,GS h2 fun m=>hk (bg.mpr (kU m))⟩;rcases cj.mp m with q|q
  ·exact h1 q
  ·exact hk (bg.mpr (Or.inl (cD.mp q).symm))
theorem PV{kvs:List (κ×V)}{k:κ}(v:V)(hn:(kvs.map (·.1)).Nodup)(h:cf kvs k=none):((dj kvs k v).map (·.1)).Nodup:=by
 rw[BH v h,cv];exact GS hn (CJ h)
end
end L2
namespace L2
open PySem PySem.Spec PyProof.Rows
open PySem.W (hideAll hideAll_get hideAll_none of_hideAll funFrames_hide excIn)
section
variable{P:aO}{w:aN}
theorem dM.isThere{H:Hp}{h:aC}{a:aa}{o:HO}(x:dM P w H h a o):∃u,h.get? a=some u:=by
 cases o with
 |lst xs=>obtain⟨_,_,_,_,e⟩:=x; exact⟨_,e⟩
 |tup xs=>obtain⟨_,_,_,ob,e,_⟩:=x; exact⟨_,e⟩
 |dK kvs=>obtain⟨_,_,_,_,o,_,_,e,_⟩:=x; exact⟨_,e⟩
 |dT kvs=>obtain⟨_,_,_,_,o,_,_,e,_⟩:=x; exact⟨_,e⟩
 |set S n=>obtain⟨o,_,_,_,e,_⟩:=x; exact⟨_,e⟩
 |ins C dx fs=>obtain⟨_,_,_,e,_⟩:=x; exact⟨_,e⟩
 |own y=>exact x
 |xd fs=>obtain⟨_,⟨_,_,_,e,_⟩,_⟩:=x; exact⟨_,e⟩
 |rng lo hi=>obtain⟨_,_,_,e⟩:=x; exact⟨_,e⟩
 |frz ob u=>obtain⟨e,_⟩:=x; exact⟨_,e⟩
 |tbl ps=>exact⟨_,show h.get? a=some _ from x⟩
 |met f y=>exact⟨_,show h.get? a=some _ from x⟩
 |ext φ=>obtain⟨_,e,_⟩:=x; exact e
theorem cx.untracked{H:Hp}{h:aC}{a:aa}(x:cx P w H h)(e:h.get? a=none):H a=none:=by
 cases q:H a with
 |none=>rfl
 |some o=>
  obtain⟨u,z⟩:=(x a o q).isThere;rw[e]at z; cases z
structure LK(C:aa)(h₀:aC)(H:Hp)(h:aC)(a T:aa):Prop where
 ex:∃oe vs a0,h.get? a=some oe/\(oe.cls=.ref C/\vs[0]?=some a0)/\oe.data=.fields vs/\vs[1]?=some (.ref T)
 tb:∃oT ts,h.get? T=some oT/\oT.data=.fields ts/\ts[3]?=some .none
 ne:T≠a
 na:h₀.get? a=none
 nT:h₀.get? T=none
 fa:H a=none
 fT:H T=none
def dv(P:aO)(w:aN)(C:aa):jo:=fun outer H s E e s'=>
 ∃a T H',e=.ref a/\s'.os=s.os/\mQ s'.gens/\Un (ck outer) [] H H' s.heap s'.heap/\cx P w H' s'.heap/\LK C s.heap H' s'.heap a T/\E (.ref C) none H'
theorem Al{fs hid:List aa}{H H':Hp}{h h1 h2:aC}(u:Un fs [] H H' h h1)(hok:cx P w H' h1)(hh:∀b∈hid,b∈fs\/(h.get? b=none/\H' b=none))
  (hfs:∀b∈fs,H' b=none/\∃o,h1.get? b=some o/\∀vs,o.data≠.fields vs)(st:(gJ h1 hid).StaysIn h2)(up:h1.UpToSlots h2):Un fs [] H H' h h2/\cx P w H' h2:=by
 have kp:∀b o,b∉hid->h1.get? b=some o->h2.get? b=some o:=fun b o nb e=>st b o (tR hid e nb)
 have sl:∀b o,b∈fs->h1.get? b=some o->∃z,h2.get? b=some {o with slots:=z}:=fun b o hb e=>by
  obtain⟨_,o',e',hn⟩:=hfs b hb;rw[e]at e'; cases e';exact up b o e hn
 have nh:∀b o,h.get? b=some o->b∉fs->b∉hid:=fun b o e nb hb=>by
  rcases hh b hb with z|⟨z,_⟩
  ·exact nb z
  ·rw[e]at z; cases z
 refine⟨⟨fun b o q n hb hx=>kp b o (nh b o q hb) (u.keep b o q n hb hx),fun b o q n hb hx=>?_,u.free,fun b o q hx=>?_,u.tups,u.frzs,u.tbls⟩,fun b ob e=>(hok b ob e).stay (fun c v hc q=>kp c v (fun z=>?_) q) (fun _ q=>q) fun _ _ q=>q⟩
 ·obtain⟨z,e⟩:=u.slot b o q n hb hx;obtain⟨z',e'⟩:=sl b _ hb e;exact⟨z',e'⟩
 ·obtain⟨o',e⟩:=u.there b o q hx;by_cases hb:b∈fs
  ·obtain⟨z',e'⟩:=sl b _ hb e;exact⟨_,e'⟩
  ·exact⟨o',kp b o' (nh b o q hb) e⟩
 ·have tr:∃k,H' c=some k:=by
   rcases hc with rfl|hc
   ·exact⟨_,e⟩
   ·exact⟨_,hc⟩
  obtain⟨k,tr⟩:=tr;rcases hh c z with y|⟨_,y⟩
  ·rw[(hfs c y).1]at tr; cases tr
  ·rw[y]at tr; cases tr
end
section
variable{X:Cx}{pins:List (aa×Obj)}{σ:St}{H H':Hp}{s:aj}{C:aa}{E:XK}
theorem Lk{h':aC}(I:Inv X pins σ H s)(hex:X.ex=[])(u:Un (ck X.stack) [] H H' s.heap h'):Un X.fs [] X.H_0 H' X.s_0.heap h':=by
 have nex:∀b:aa,b∉X.ex:=fun b z=>by rw[hex]at z; cases z
 have nl:∀b o,X.s_0.heap.get? b=some o->b∉X.fs->b∉ck X.stack:=fun b o e nb z=>by
  rcases bg.mp (I.stkSub b z)with y|y
  ·exact absurd (bO e) (by rw[y]; exact Nat.not_lt.mpr I.ok.above)
  ·exact nb y
 refine⟨fun b o q n hb _=>?_,fun b o q n hb _=>?_,fun b o q n _=>?_,fun b o q _=>?_,fun b xs q=>u.tups b xs (I.base.tups b xs q),fun b o v q=>u.frzs b o v (I.base.frzs b o v q),fun b ps q=>?_⟩
 ·exact u.keep b o (I.base.keep b o q n hb (nex b)) (I.base.free b o q n (nex b)) (nl b o q hb) (by simp)
 ·obtain⟨z,e⟩:=I.base.slot b o q n hb (nex b);obtain⟨z',e'⟩:=u.any e (I.base.free b o q n (nex b)) (by simp);exact⟨z',e'⟩
 ·obtain⟨o',e⟩:=I.base.there b o q (nex b);exact u.free b o' e (I.base.free b o q n (nex b)) (by simp)
 ·obtain⟨o',e⟩:=I.base.there b o q (nex b);exact u.there b o' e (by simp)
 ·obtain⟨m1,e1⟩:=I.base.tbls b ps q;obtain⟨m2,e2⟩:=u.tbls b _ e1;exact⟨m1++m2,by rw[e2,Array.append_assoc]⟩
theorem pI(I:Inv X pins σ H s)(hex:X.ex=[]){a:aa}(e:s.heap.get? a=none):X.s_0.heap.get? a=none:=by
 cases q:X.s_0.heap.get? a with
 |none=>rfl
 |some o=>
  obtain⟨o',z⟩:=I.base.there a o q (by rw[hex]; simp);rw[e]at z; cases z
theorem jR(I:Inv X pins σ H s):∀b∈ck X.stack,H b=none/\∃o,s.heap.get? b=some o/\∀vs,o.data≠.fields vs:=fun b hb=>⟨I.stkFree b hb,(I.stack.mem hb).2⟩
theorem wM{hid fs:List aa}{h1 h2:aC}{a T:aa}{oT:Obj}{ts:Array ae}(hB:(gJ h1 hid).get? T=none)(hT:h2.get? T=some oT)(hd:oT.data=.fields ts)
  (hfs:∀b∈fs,∃o,h1.get? b=some o/\∀vs,o.data≠.fields vs)(up:h1.UpToSlots h2):T∉fs/\(T∈hid\/h1.get? T=none):=by
 refine⟨fun z=>?_,?_⟩
 ·obtain⟨o,e,hn⟩:=hfs T z;obtain⟨sl,e'⟩:=up T o e hn;rw[hT]at e';have e':=eE e';rw[e']at hd;exact hn ts hd
 ·by_cases z:T∈hid
  ·exact .inl z
  ·refine .inr ?_;cases q:h1.get? T with
   |none=>rfl
   |some o=>rw[tR hid q z]at hB; cases hB
theorem OY{F:ae->aj->Prop}{e:ae}{s':aj}(hex:X.ex=[])(hst:X.stack=X.env::X.outer)(hf:X.env.frame=some X.env.locals)(I:Inv X pins σ H s)(hC:dv X.prog X.w C X.stack H s E e s'):
  az (aB X.prog X.w) X.A (leaving X.env e) (fun _ s''=>dv X.prog X.w C X.outer X.H_0 X.s_0 E e s'') F s':=by
 obtain⟨a,T,H',rfl,os,bare,u,hok,fl,hE⟩:=hC;have I':Inv X pins σ H' s':=I.call' os u hok bare (fun b z=>by cases z);obtain⟨oe,vs,a0,he,hc,hd,h1⟩:=fl.ex;obtain⟨oT,ts,hT,hdT,h3⟩:=fl.tb
 have hfr:s'.heap.FunFrames (gJ s'.heap (ck X.stack++[a,T])) (X.env::X.outer):=by
  rw[<-hst];exact rj I'.stack fun env he b hb=>dn _ (kP.mpr ⟨env,he,hb⟩)
 refine wpAny_leaves_onW (base:=gJ s'.heap (ck X.stack++[a,T])) (outer:=X.outer) (L:=X.env.locals) (cls:=.ref C) (a0:=a0) (by rw[I'.ok.frames,hst]) hf
  ⟨fun b o q=>pK _ q,lx _ (by simp),hfr,oe,vs,T,oT,ts,he,hc,hd,h1,lx _ (by simp),fl.ne,hT,hdT,h3⟩ fun h' x1 x2=>?_
 obtain⟨y1,y2,y3,oe',vs',T',oT',ts',z1,z2,z3,z4,z5,z6,z7,z8,z9⟩:=x1
 have hhid:∀b∈ck X.stack++[a,T],b∈ck X.stack\/(s.heap.get? b=none/\H' b=none):=fun b hb=>by
  rcases cj.mp hb with z|z
  ·exact .inl z
  ·rcases bg.mp z with z|z
   ·rw[z]; exact .inr ⟨fl.na,fl.fa⟩
   ·have:b=T:=by simpa using z
    rw[this]; exact .inr ⟨fl.nT,fl.fT⟩
 obtain⟨u2,hok2⟩:=Al u hok hhid (jR I') y1 x2;obtain⟨t1,t2⟩:=wM (fs:=ck X.stack) (a:=a) z5 z7 z8 (fun b hb=>(jR I' b hb).2) x2
 have t3:s.heap.get? T'=none/\H' T'=none:=by
  rcases t2 with z|z
  ·rcases hhid T' z with y|y
   ·exact absurd y t1
   ·exact y
  ·refine⟨?_,hok.untracked z⟩;cases q:s.heap.get? T' with
   |none=>rfl
   |some o=>
    obtain⟨o',y⟩:=u.there T' o q (by simp);rw[z]at y; cases y
 exact⟨a,T',H',rfl,os.trans I.os,bare,Lk I hex u2,hok2,⟨⟨oe',vs',a0,z1,z2,z3,z4⟩,⟨oT',ts',z7,z8,z9⟩,z6,pI I hex fl.na,pI I hex t3.1,fl.fa,t3.2⟩,hE⟩
theorem OZ{F:ae->aj->Prop}{e:aa}{s':aj}{args:List ae}(hex:X.ex=[])(hst:X.stack=X.env::X.outer)(hf:X.env.frame=some X.env.locals)(I:Inv X pins σ H s)
  (hx:aC.MadeExcOf s.heap s'.heap e (.ref C) args)(ho:s'.os=s.os)(hg:s'.gens=s.gens)(hE:E (.ref C) none H):
  az (aB X.prog X.w) X.A (leaving X.env (.ref e)) (fun _ s''=>dv X.prog X.w C X.outer X.H_0 X.s_0 E (.ref e) s'') F s':=by
 have hfr:s.heap.FunFrames (gJ s.heap (ck X.stack)) (X.env::X.outer):=by
  rw[<-hst];exact rj I.stack fun env he b hb=>kP.mpr ⟨env,he,hb⟩
 refine wpAny_leaves_madeW (base:=gJ s.heap (ck X.stack)) (h:=s.heap) (outer:=X.outer) (L:=X.env.locals) (by rw[I.ok.frames,hst]) hf (fun b o q=>pK _ q) hfr hx fun h' t x1 _ _ x4=>?_;have up:s.heap.UpToSlots h':=(aC.UpToSlots.of_keeps hx.keeps).trans x4;obtain⟨y1,y2,y3,oe',vs',T',oT',ts',z1,z2,z3,z4,z5,z6,z7,z8,z9⟩:=x1;obtain⟨u2,hok2⟩:=Al (Un.refl (fs:=ck X.stack) (ex:=[]) (H:=H) (h:=s.heap)) I.hok (fun b hb=>.inl hb) (jR I) y1 up;obtain⟨t1,t2⟩:=wM (fs:=ck X.stack) (a:=e) z5 z7 z8 (fun b hb=>(jR I b hb).2) up
 have t3:s.heap.get? T'=none:=by
  rcases t2 with z|z
  ·exact absurd z t1
  ·exact z
 exact⟨e,T',H,rfl,ho.trans I.os,by show mQ s'.gens; rw[hg]; exact I.bare,Lk I hex u2,hok2,⟨⟨oe',vs',_,z1,z2,z3,z4⟩,⟨oT',ts',z7,z8,z9⟩,z6,pI I hex hx.new,pI I hex t3,I.hok.untracked hx.new,I.hok.untracked t3⟩,hE⟩
structure qp(X:Cx)(C:aa)(E:XK):Prop where
 ex:X.ex=[]
 stk:X.stack=X.env::X.outer
 fr:X.env.frame=some X.env.locals
 go:∀e s',az (aB X.prog X.w) X.A (leaving X.env e) (fun _ s''=>dv X.prog X.w C X.outer X.H_0 X.s_0 E e s'') (fun e' s''=>dv X.prog X.w C X.outer X.H_0 X.s_0 E e' s'') s'->X.xe e s'
theorem fU{P:aO}{w:aN}{K:aw}{mg:Str->Option ae}{base:aC}{N:List Str}{qual:Str}{scope:cR}{f:aa}{cd:ae}{A:bJ}{outer:List Env}:
  qp (iH (dv P w C) P w K mg base N qual scope f cd A outer s H E) C E:=⟨rfl,rfl,rfl,fun _ _ h=>h⟩
theorem jj(L:qp X C E):gC (dv X.prog X.w C) X E:=fun _ _ _ _ e s' I h=>L.go e s' (OY L.ex L.stk L.fr I h)
theorem Fy{K:aw}{h:aC}{bmB:List ae}{newId:String}(KX:K.In h)(q:excIn K C bmB newId=true):
  ∃bm N nm qn bs hdct sn sub ab col dd k0 k1 k2 k3 k5 mN,h.get? C=some (excClassObj nm qn C N bs bm hdct sn sub ab col dd k0 k1 k2 k3 k5 newId)/\h.Ns N mN/\mN "__init__"=none/\OwnTail h bmB bm:=by
 unfold excIn at q;split at q
 ·next dd cd sl ho=>
  split at q
  ·next C' bm k0 k1 k2 k3 n k5 hm hs=>
   rw[cA,cA,cA,cA,cA,beq_iff_eq,beq_iff_eq,beq_iff_eq,uY]at q;obtain⟨⟨⟨⟨⟨e1,e2⟩,e3⟩,e4⟩,e5⟩,e6⟩:=q;subst e1 e2;obtain⟨nm,bs,mro,ns,qn,hd,sn,sub,ab,col,del⟩:=cd;have hm:mro=_:=hm;have e3:del=false:=e3;subst hm e3;have e7:sl= #[k0,k1,k2,k3,some (.builtin n),k5]:=Array.toList_inj.mp hs;subst e7;exact⟨bm,ns,nm,qn,bs,hd,sn,sub,ab,col,dd,k0,k1,k2,k3,k5,_,KX _ _ ho,.of_isNs (PySem.W.isNs_of_in KX e5),PySem.W.nsMap_none_of_in KX e5 e6,PySem.W.tail_of_in KX e4⟩
  ·cases q
 ·cases q
def La(C:aa)(E:XK)(t:TA):TS:=fun _ σ H=>t σ H fun vs H1=>vs.length<=aY/\E (.ref C) none H1
theorem uq(L:qp X C E)(hc:X.calm=true){x:Str}{np cpos pos:Pos}{e₀:aJ}{es:List aJ}{t:TA}{B newId initId:String}{bmB:List ae}(hg:Gl X x)(hm:X.mg x=some (.ref C))(hK:excIn X.K C bmB newId=true)
  (FB:ExcBaseFacts B newId initId bmB)(ha:PA X (e₀::es) t)(hdb:(x==("__debug__":Str))=false:=by decide)
  (he:bN (e₀::es) X.env=(false,bw e₀ X.env)::bN es X.env:=by rfl)(hpl:(dX cpos (bN es X.env)).any (·.1)=false:=by rfl):
  PS X (.Raise (some (.Call (.Name x np) (e₀::es) [] cpos)) none pos) (La C E t):=by
 intro pins s σ H D I h;obtain⟨bm,N,nm,qn,bs,hdct,sn,sub,ab,col,dd,k0,k1,k2,k3,k5,mN,hC,hN,hni,OT⟩:=Fy I.mod.kin hK
 refine wpAny_Raise_call_subT (C:=C) (nm:=nm) (q:=qn) (N:=N) (bs:=bs) (bm:=bm) (hdct:=hdct) (sn:=sn) (sub:=sub) (ab:=ab) (col:=col) (dd:=dd) (k0:=k0) (k1:=k1) (k2:=k2) (k3:=k3) (k5:=k5) FB (mN:=mN)
  (OT.hasType FB.hasBase) (I.ok.hd hc) (by rw[he]; show(false||(dX cpos (bN es X.env)).any (·.1))=false; rw[hpl]; rfl) hni (nH I hg hm ⟨rfl,?_⟩ hdb)
 have q:=ha cpos pins s σ H _ I h;rw[he]at q⊢;refine Dd (aQ q fun us s1⟨vs,H1,I1,r,hl,hE⟩=>?_);refine⟨rfl,by rw[<-r.length]; exact hl,I1.bk _ _ hC,hN.keeps I1.bk,OT.keeps I1.bk,fun h' e hx=>?_⟩;exact L.go _ _ (OZ L.ex L.stk L.fr I1 hx rfl rfl hE)
def Cx.tried(X:Cx)(C:aa)(pins:List (aa×Obj))(σ:St)(R:Hp->Prop):Cx:=
 {X with pn:=X.pn++pins,xe:=fun e s₁=>∃H s,Inv X pins σ H s/\dv X.prog X.w C X.stack H s (fun _ _ H'=>R H') e s₁}
def Cx.marked(X:Cx)(a:aa):Cx:={X with A:=X.A.mark (some (.ref a)),calm:=false,xe:=fun _ _=>False}
theorem Inv.tried{R:Hp->Prop}{σ':St}(I:Inv X pins σ H s):Inv (X.tried C pins σ' R) [] σ H s:=
 ⟨⟨I.ok.mod,I.ok.kind,I.ok.glob,I.ok.blt,I.ok.above,I.ok.inj,I.ok.has,I.ok.cab,I.ok.hd,I.ok.frames,I.ok.stk,I.ok.exf,I.ok.bs,I.ok.bsz,I.ok.noex,I.ok.exfs,I.ok.funs,I.ok.frf⟩,I.os,I.bare,I.base,I.loc,I.cell,I.free,I.freeC,
  fun p hp=>I.pin p (by rw[cC]at hp; exact hp),I.hok,I.len⟩
theorem Inv.untried{R:Hp->Prop}{σ':St}{pins':List (aa×Obj)}(I:Inv (X.tried C pins σ' R) pins' σ H s):Inv X pins σ H s:=
 ⟨⟨I.ok.mod,I.ok.kind,I.ok.glob,I.ok.blt,I.ok.above,I.ok.inj,I.ok.has,I.ok.cab,I.ok.hd,I.ok.frames,I.ok.stk,I.ok.exf,I.ok.bs,I.ok.bsz,I.ok.noex,I.ok.exfs,I.ok.funs,I.ok.frf⟩,I.os,I.bare,I.base,I.loc,I.cell,I.free,I.freeC,
  fun p hp=>I.pin p (dn _ hp),I.hok,I.len⟩
theorem SP.untried{R:Hp->Prop}{σ':St}{D:iy}{f:Flow}(h:SP (X.tried C pins σ' R) [] D f s):SP X pins D f s:=by
 cases f with
 |next=>obtain⟨σ',H',I,q⟩:=h; exact⟨σ',H',I.untried,q⟩
 |brk=>obtain⟨σ',H',I,q⟩:=h; exact⟨σ',H',I.untried,q⟩
 |cont=>obtain⟨σ',H',I,q⟩:=h; exact⟨σ',H',I.untried,q⟩
 |ret u=>obtain⟨v,σ',H',I,r,q⟩:=h; exact⟨v,σ',H',I.untried,r,q⟩
theorem Inv.marked{a:aa}(I:Inv X pins σ H s):Inv (X.marked a) pins σ H s:=
 ⟨⟨I.ok.mod,I.ok.kind,I.ok.glob,I.ok.blt,I.ok.above,I.ok.inj,I.ok.has,I.ok.cab,fun z=>CU (show false=true from z),I.ok.frames,I.ok.stk,I.ok.exf,I.ok.bs,I.ok.bsz,I.ok.noex,I.ok.exfs,I.ok.funs,I.ok.frf⟩,I.os,I.bare,I.base,I.loc,I.cell,I.free,I.freeC,I.pin,I.hok,I.len⟩
theorem Inv.unmarked{a:aa}(hd:X.calm=true->X.A.handled=none)(I:Inv (X.marked a) pins σ H s):Inv X pins σ H s:=
 ⟨⟨I.ok.mod,I.ok.kind,I.ok.glob,I.ok.blt,I.ok.above,I.ok.inj,I.ok.has,I.ok.cab,hd,I.ok.frames,I.ok.stk,I.ok.exf,I.ok.bs,I.ok.bsz,I.ok.noex,I.ok.exfs,I.ok.funs,I.ok.frf⟩,I.os,I.bare,I.base,I.loc,I.cell,I.free,I.freeC,I.pin,I.hok,I.len⟩
theorem SP.unmarked{a:aa}{D:iy}{f:Flow}(hd:X.calm=true->X.A.handled=none)(h:SP (X.marked a) pins D f s):SP X pins D f s:=by
 cases f with
 |next=>obtain⟨σ',H',I,q⟩:=h; exact⟨σ',H',I.unmarked hd,q⟩
 |brk=>obtain⟨σ',H',I,q⟩:=h; exact⟨σ',H',I.unmarked hd,q⟩
 |cont=>obtain⟨σ',H',I,q⟩:=h; exact⟨σ',H',I.unmarked hd,q⟩
 |ret u=>obtain⟨v,σ',H',I,r,q⟩:=h; exact⟨v,σ',H',I.unmarked hd,r,q⟩
theorem RR{R:Hp->Prop}{k:Nat}{f:aa}{fd:kL}{ps:List Str}{sp:Sp}{x:Str}{p pos:Pos}{e:aJ}{es:List aJ}{t:TA}(F:gd X.prog X.w X.K X.mg X.base (dv X.prog X.w C) k f fd ps sp)(hr:cy k X.A)(hg:Gl X x)(hm:X.mg x=some (.ref f))
  (hk:kg X.K (.ref f)=true)(hb:Binds X.K fd ps [])(ha:PA (X.tried C pins σ R) (e::es) t)(hdb:(x==("__debug__":Str))=false:=by decide)
  (he:bN (e::es) X.env=(false,bw e X.env)::bN es X.env:=by rfl)(hpl:(dX pos (bN es X.env)).any (·.1)=false:=by rfl):
  PE (X.tried C pins σ R) (.Call (.Name x p) (e::es) [] pos) (fun σ' H Q=>σ'=σ/\t σ' H fun vs H1=>sp vs H1 Q fun _ _ H'=>R H'):=by
 intro pins' s σ' H Q I h;obtain⟨rfl,h⟩:=h;refine nY (nH I hg hm ?_ hdb);refine zl (h₀:=X.base) I.ok.mod.kin hk (aQ (ha pos pins' s σ' H _ I h) fun us s1⟨vs,H1,I1,r,q⟩=>⟨I1.kIn,?_⟩) he hpl;have hl:(us++[]).length=ps.length:=by rw[cC,<-r.length]; exact F.len _ _ _ _ q
 have hb1:=hb s1 us I1.kIn hl;rw[cC]at hb1;refine yh (qZ (F.run X.A X.stack s1 H1 ⟨us,[]⟩ us vs Q (fun _ _ H'=>R H') hr I1.untried.env0 hb1 r q) fun rr s' hq=>?_);cases rr with
 |error e=>exact⟨H1,s1,I1.untried,hq⟩
 |ok fl=>
  cases fl with
  |ret u=>exact I1.after hq
  |next=>exact fK hq
  |brk=>exact fK hq
  |cont=>exact fK hq
def Lc(tb:St->(Hp->Prop)->TS)(ts:TS):TS:=fun D σ H=>tb σ (fun H'=>ts D σ H') D σ H
theorem BG{body:List aH}{b₀:aH}{suite:List aH}{x:Str}{np hp pos:Pos}{tb:St->(Hp->Prop)->TS}{ts:TS}{newId:String}{bmB:List ae}(hst:X.stack=X.env::X.outer)(hf:X.env.frame=some X.env.locals)
  (hg:Gl X x)(hm:X.mg x=some (.ref C))(hK:excIn X.K C bmB newId=true)(hB:bmB.contains (.type "BaseException")=true)
  (hb:∀(pins:List (aa×Obj))(σ:St)(R:Hp->Prop),fo (X.tried C pins σ R) body (tb σ R))(hs:∀a:aa,fo (X.marked a) (b₀::suite) ts)(hdb:(x==("__debug__":Str))=false:=by decide):
  PS X (.Try body [.ExceptHandler (some (.Name x np)) none (b₀::suite) hp] [] [] pos) (Lc tb ts):=by
 intro pins s σ H D I h;refine wpAny_Try_except (iq (hb pins σ (fun H'=>ts D σ H') [] s σ H D I.tried h) (fun f s₁ q=>?_) fun e s₁ q=>?_)
 ·have q:=q.untried;cases f with
  |next=>exact yi q
  |brk=>exact q
  |cont=>exact q
  |ret u=>exact q
 ·obtain⟨H1,s1,I1,a,T,H',rfl,os,bare,u,hok,fl,hR⟩:=q;have I':Inv X pins σ H' s₁:=I1.call' os u hok bare (fun b z=>by cases z);obtain⟨oe,vs,a0,he,hc,hd,h1⟩:=fl.ex;obtain⟨oT,ts',hT,hdT,h3⟩:=fl.tb
  have hfr:s₁.heap.FunFrames (gJ s₁.heap (ck X.stack++[a,T])) (X.env::X.outer):=by
   rw[<-hst];exact rj I'.stack fun env he b hb=>dn _ (kP.mpr ⟨env,he,hb⟩)
  have hhid:∀b∈ck X.stack++[a,T],b∈ck X.stack\/(s1.heap.get? b=none/\H' b=none):=fun b hb=>by
   rcases cj.mp hb with z|z
   ·exact .inl z
   ·rcases bg.mp z with z|z
    ·rw[z]; exact .inr ⟨fl.na,fl.fa⟩
    ·have:b=T:=by simpa using z
     rw[this]; exact .inr ⟨fl.nT,fl.fT⟩
  have back:∀h':aC,(gJ s₁.heap (ck X.stack++[a,T])).StaysIn h'->s₁.heap.UpToSlots h'->Inv X pins σ H' {s₁ with heap:=h'}:=fun h' st up=>by
   obtain⟨u2,hok2⟩:=Al u hok hhid (jR I') st up;exact I1.call' (s':={s₁ with heap:=h'}) os u2 hok2 bare (fun b z=>by cases z)
  refine wpAny_looks_onW (base:=gJ s₁.heap (ck X.stack++[a,T])) (outer:=X.outer) (L:=X.env.locals) (cls:=.ref C) (a0:=a0) (by rw[I'.ok.frames,hst]) hf
   ⟨fun b o q=>pK _ q,lx _ (by simp),hfr,oe,vs,T,oT,ts',he,hc,hd,h1,lx _ (by simp),fl.ne,hT,hdT,h3⟩ fun h₄ y4 up4=>?_
  refine wpAny_landsW y4 fun h₅ y5 up5=>?_;have I5:=back h₅ y5.1 (up4.trans up5);obtain⟨bm,N,nm,qn,bs,hdct,sn,sub,ab,col,dd,k0,k1,k2,k3,k5,mN,hC,hN,hni,OT⟩:=Fy I.mod.kin hK;refine wpAny_handleBy_cons (codeAny_handlers_test ?_) (by intro q; cases q);refine nH (X:=X.marked a) (H:=H') (σ:=σ) (pins:=pins) I5.marked hg hm ?_ hdb;obtain⟨oe5,he5,hc5⟩:=y5.there;refine wpAny_excMatches_sub_self (I5.bk _ _ hC) he5 hc5 (OT.hasType hB) (codeAny_handlers_suite ?_);obtain⟨f1,f2,f3,f4⟩:=y5;refine wpAny_setFlight_noneW f1 f3 f4.at fun h₆ k1' k2' k3' k4'=>?_;have I6:=back h₆ k1' ((up4.trans up5).trans fun b o hb hn=>⟨o.slots,k4' b o hb hn⟩);exact iq (hs a pins {s₁ with heap:=h₆} σ H' D I6.marked hR) (fun f s₂ q=>q.unmarked I.ok.hd) fun _ _ z=>fK z
end
section
variable{P:aO}{w:aN}{K:aw}{mg:Str->Option ae}{base:aC}{C:aa}
theorem kK.okF{x qual:Str}{st:aH}{f:aa}{fd:kL}{N ps:List Str}{k:Nat}{sp:Sp}(F:kK K x qual st f fd)(S:aW N ps (aI st))(len:∀vs H Q E,sp vs H Q E->vs.length=ps.length)
  (hbody:∀(cdv:ae)(A:bJ)(outer:List Env)(s:aj)(H:Hp)(vs:List V)(Q:VK)(E:XK),cy k (A.deeper (iJ qual (aI st) s.heap.objs.size f cdv))->sp vs H Q E->
   ∃t,fo (iH (dv P w C) P w K mg base N qual (aI st) f cdv A outer s H E) (gE st) t/\t {nx:=fun _ H'=>Q .non H',rt:=Q} (start N vs) H):gd P w K mg base (dv P w C) (k+1) f fd ps sp:=by
 obtain⟨oc,od,kV,doc,pm,an,cdv,ct,osl,rfl,lk,hcd⟩:=F.ex;exact Af lk hcd S len fun A outer s H vs Q E hr hsp=>hbody cdv A outer s H vs Q E hr hsp
end
section
variable{P:aO}{w:aN}
theorem FO{fs ex hid:List aa}{H H':Hp}{h h1 h2:aC}(u:Un fs ex H H' h h1)(hok:cx P w H' h1)(hh:∀b∈hid,b∈fs\/(h.get? b=none/\H' b=none))
  (hfs:∀b∈fs,H' b=none)(st:(gJ h1 hid).StaysIn h2)(sl:∀b o,b∈fs->h1.get? b=some o->∃z,h2.get? b=some {o with slots:=z}):Un fs ex H H' h h2/\cx P w H' h2:=by
 have kp:∀b o,b∉hid->h1.get? b=some o->h2.get? b=some o:=fun b o nb e=>st b o (tR hid e nb)
 have nh:∀b o,h.get? b=some o->b∉fs->b∉hid:=fun b o e nb hb=>by
  rcases hh b hb with z|⟨z,_⟩
  ·exact nb z
  ·rw[e]at z; cases z
 refine⟨⟨fun b o q n hb hx=>kp b o (nh b o q hb) (u.keep b o q n hb hx),fun b o q n hb hx=>?_,u.free,fun b o q hx=>?_,u.tups,u.frzs,u.tbls⟩,fun b ob e=>(hok b ob e).stay (fun c v hc q=>kp c v (fun z=>?_) q) (fun _ q=>q) fun _ _ q=>q⟩
 ·obtain⟨z,e⟩:=u.slot b o q n hb hx;obtain⟨z',e'⟩:=sl b _ hb e;exact⟨z',e'⟩
 ·obtain⟨o',e⟩:=u.there b o q hx;by_cases hb:b∈fs
  ·obtain⟨z',e'⟩:=sl b _ hb e;exact⟨_,e'⟩
  ·exact⟨o',kp b o' (nh b o q hb) e⟩
 ·have tr:∃k,H' c=some k:=by
   rcases hc with rfl|hc
   ·exact⟨_,e⟩
   ·exact⟨_,hc⟩
  obtain⟨k,tr⟩:=tr;rcases hh c z with y|⟨_,y⟩
  ·rw[hfs c y]at tr; cases tr
  ·rw[y]at tr; cases tr
end
theorem Qr{e:ae}{env env':Env}(h:env.frame=env'.frame):ud e env=ud e env':=by
 unfold ud PySem.frameOf;rw[h]
section
variable{M:Model}{A:bJ}{F:ae->aj->Prop}{s:aj}
theorem GX{base:aC}{env:Env}{outer:List Env}{L e:aa}{cls a0 fl:ae}{Q:Unit->aj->Prop}
  (hfr:A.frames=some (env::outer))(hf:env.frame=some L)(hkb:base.StaysIn s.heap)(hen:base.get? e=none)(hl:s.heap.FunFrames base (env::outer))(ht:s.heap.TracedAtW base e cls a0 fl)
  (hQ:∀h',aC.HeldW base (env::outer) e cls a0 L h'->s.heap.UpToSlots h'->Q () {s with heap:=h'}):az M A (ud (.ref e) env) Q F s:=by
 by_cases hz:fl=cb L
 ·subst hz;refine wpAny_noteFrame_againW hf ht ?_;have:=hQ s.heap ⟨hkb,hen,hl,ht⟩ (aC.UpToSlots.refl _);cases s;exact this
 ·obtain⟨oe,vs,T,oT,ts,he,⟨hcls,h0⟩,hd,h1,hnT,hTe,hT,hdT,h3⟩:=ht;subst hcls;unfold ud;simp only[hf];refine ay (CN he hd h1 ?_);rw[if_pos (show(cK T != iG)=true from by simp)];refine ay (CN hT hdT h3 ?_);rw[if_neg (show¬((fl==cb L)=true)from fun z=>hz (eq_of_beq z))];refine ay (qa hT hdT (yo.mp h3).1 ?_);have other:∀b,b≠T->(s.heap.update T (vF (·.setIfInBounds 3 iG))).get? b=s.heap.get? b:=fun b hb=>kM _ _ (bq hb)
  have noRecord:∀b o,s.heap.get? b=some o->(∀vs,o.data≠.fields vs)->b≠T:=fun b o hb hnf q=>by
   rw[q,hT]at hb; injection hb with hb; subst hb; exact hnf ts hdT
  refine wpAny_entryW hfr (hl.of_keeps fun b o hb hnf=>⟨o,(other b (noRecord b o hb hnf)).trans hb,rfl⟩) hf ((other e (bq hTe)).trans he)
   (fun b o hbo=>(other b fun q=>by rw[q,hnT]at hbo; cases hbo).trans (hkb b o hbo)) hen hd (yo.mp h1).1 h0
   fun h'⟨x1,x2,x3,x4⟩=>hQ h' ⟨x1,hen,x2,x3⟩ fun b o hb hnf=>x4 b o ((other b (noRecord b o hb hnf)).trans hb) hnf
end
structure LL(C:aa)(h₀:aC)(H:Hp)(h:aC)(a T:aa):Prop where
 ex:∃oe vs a0,h.get? a=some oe/\(oe.cls=.ref C/\vs[0]?=some a0)/\oe.data=.fields vs/\vs[1]?=some (.ref T)
 tb:∃oT ts fl,h.get? T=some oT/\oT.data=.fields ts/\ts[3]?=some fl
 ne:T≠a
 na:h₀.get? a=none
 nT:h₀.get? T=none
 fa:H a=none
 fT:H T=none
section
variable{X:Cx}{pins:List (aa×Obj)}{σ:St}{H H':Hp}{s:aj}{C:aa}{E:XK}
theorem OX{F:ae->aj->Prop}{a T:aa}(hex:X.ex=[])(hst:X.stack=X.env::X.outer)(hf:X.env.frame=some X.env.locals)(I:Inv X pins σ H s)(fl:LL C X.s_0.heap H s.heap a T)(hE:E (.ref C) none H):
  az (aB X.prog X.w) X.A (leaving X.env (.ref a)) (fun _ s''=>dv X.prog X.w C X.outer X.H_0 X.s_0 E (.ref a) s'') F s:=by
 obtain⟨oe,vs,a0,he,hc,hd,h1⟩:=fl.ex;obtain⟨oT,ts,fv,hT,hdT,h3⟩:=fl.tb
 have hfr:s.heap.FunFrames (gJ s.heap (ck X.stack++[a,T])) (X.env::X.outer):=by
  rw[<-hst];exact rj I.stack fun env he b hb=>dn _ (kP.mpr ⟨env,he,hb⟩)
 unfold leaving
 refine ay (GX (base:=gJ s.heap (ck X.stack++[a,T])) (outer:=X.outer) (L:=X.env.locals) (cls:=.ref C) (a0:=a0) (fl:=fv) (by rw[I.ok.frames,hst]) hf
  (fun b o q=>pK _ q) (lx _ (by simp)) hfr ⟨oe,vs,T,oT,ts,he,hc,hd,h1,lx _ (by simp),fl.ne,hT,hdT,h3⟩ fun h2 y2 up2=>?_)
 refine wpAny_landsW y2 fun h' y up3=>?_;have up:=up2.trans up3;obtain⟨y1,y2,y3,oe',vs',T',oT',ts',z1,z2,z3,z4,z5,z6,z7,z8,z9⟩:=y;have hfs:∀b∈X.fs,b∈ck X.stack:=fun b hb=>by rw[hst]; unfold ck; simp only[sE,hf]; exact bU _ hb
 have hhid:∀b∈ck X.stack++[a,T],b∈X.fs\/(X.s_0.heap.get? b=none/\H b=none):=fun b hb=>by
  rcases cj.mp hb with z|z
  ·rcases bg.mp (I.stkSub b z)with y|y
   ·refine .inr ⟨?_,by rw[y]; exact I.free⟩;rw[y];cases q:X.s_0.heap.get? X.env.locals with
    |none=>rfl
    |some o=>exact absurd (bO q) (Nat.not_lt.mpr I.ok.above)
   ·exact .inl y
  ·rcases bg.mp z with z|z
   ·rw[z]; exact .inr ⟨fl.na,fl.fa⟩
   ·have:b=T:=by simpa using z
    rw[this]; exact .inr ⟨fl.nT,fl.fT⟩
 have hb:=I.base;rw[hex]at hb
 obtain⟨u2,hok2⟩:=FO hb I.hok hhid (fun b hb=>(jR I b (hfs b hb)).1) y1 (fun b o hb e=>by
  obtain⟨_,o',e',hn⟩:=jR I b (hfs b hb);rw[e]at e'; cases e';exact up b o e hn)
 obtain⟨t1,t2⟩:=wM (fs:=ck X.stack) (a:=a) z5 z7 z8 (fun b hb=>(jR I b hb).2) up
 have t3:X.s_0.heap.get? T'=none/\H T'=none:=by
  rcases t2 with z|z
  ·rcases hhid T' z with y|y
   ·exact absurd (hfs _ y) t1
   ·exact y
  ·refine⟨pI I hex z,I.hok.untracked z⟩
 exact⟨a,T',H,rfl,I.os,I.bare,u2,hok2,⟨⟨oe',vs',a0,z1,z2,z3,z4⟩,⟨oT',ts',z7,z8,z9⟩,z6,fl.na,t3.1,fl.fa,t3.2⟩,hE⟩
end
section
variable{X:Cx}
def Cx.blkF(X:Cx)(Cl:aa)(E:XK)(s:aj)(H:Hp)(scope:cR)(cenv:Env)(fp:List aa)(pn:List (aa×Obj)):Cx:=
 {X.blk s H scope cenv fp with pn:=pn,xe:=fun e s1=>∃pins σ H' s',Inv (X.blk s H scope cenv fp) (pn++pins) σ H' s'/\dv X.prog X.w Cl X.stack H' s' E e s1}
section
variable{Cl:aa}{E:XK}{s s':aj}{H H':Hp}{scope:cR}{cenv:Env}{fp:List aa}{pn pins:List (aa×Obj)}{σ:St}
theorem Inv.toF(I:Inv (X.blk s H scope cenv fp) ([]++pn) σ H' s'):Inv (X.blkF Cl E s H scope cenv fp pn) [] σ H' s':=
 ⟨⟨I.ok.mod,I.ok.kind,I.ok.glob,I.ok.blt,I.ok.above,I.ok.inj,I.ok.has,I.ok.cab,I.ok.hd,I.ok.frames,I.ok.stk,I.ok.exf,I.ok.bs,I.ok.bsz,I.ok.noex,I.ok.exfs,I.ok.funs,I.ok.frf⟩,I.os,I.bare,I.base,I.loc,I.cell,I.free,I.freeC,
  fun p hp=>I.pin p (by have hp:p∈pn++[]:=hp; simpa using hp),I.hok,I.len⟩
theorem Inv.ofF(I:Inv (X.blkF Cl E s H scope cenv fp pn) pins σ H' s'):Inv (X.blk s H scope cenv fp) (pn++pins) σ H' s':=
 ⟨⟨I.ok.mod,I.ok.kind,I.ok.glob,I.ok.blt,I.ok.above,I.ok.inj,I.ok.has,I.ok.cab,I.ok.hd,I.ok.frames,I.ok.stk,I.ok.exf,I.ok.bs,I.ok.bsz,I.ok.noex,I.ok.exfs,I.ok.funs,I.ok.frf⟩,I.os,I.bare,I.base,I.loc,I.cell,I.free,I.freeC,
  fun p hp=>I.pin p (by show p∈pn++pins; simpa using hp),I.hok,I.len⟩
theorem RF:gC (dv X.prog X.w Cl) (X.blkF Cl E s H scope cenv fp pn) E:=fun pins σ H s e s' I h=>⟨pins,σ,H,s,I.ofF,h⟩
end
theorem Nq{Cl:aa}{E:XK}(L:qp X Cl E){pins pn:List (aa×Obj)}{σ:St}{H3:Hp}{s3 s10:aj}{scope:cR}{ce:Env}{fp:List aa}{e D:ae}{use:Option (ae->Sem Unit)}{Qf:ae->aj->Prop}(I3:Inv X pins σ H3 s3)
  (cL:ce.locals=s3.heap.objs.size)(cF:ce.frame=X.env.frame)(f3:∀b∈fp,ia X pins H3 b)(hfp:∀b∈fp,∃o,(b,o)∈pn)
  (hx:∃pins' σ' H' s',Inv (X.blk s3 H3 scope ce fp) (pn++pins') σ' H' s'/\dv X.prog X.w Cl X.stack H' s' E e s10):
  pJ (aB X.prog X.w) X.A ce (fun e s'=>rf (aB X.prog X.w) X.A X.xe use Qf D s3.heap.objs.size (.error e) s') e s10:=by
 obtain⟨pins',σ',H',s',Ib,a,T,H10,rfl,os,bare,u,hok,fl,hE⟩:=hx;have Ib10:Inv (X.blk s3 H3 scope ce fp) (pn++pins') σ' H10 s10:=Ib.call' os u hok bare (fun b z=>by cases z);have I10:Inv X pins σ H10 s10:=I3.call' (ch:=fp) Ib10.os Ib10.base Ib10.hok Ib10.bare fun b hb=>⟨(f3 b hb).2.2.2.1,(f3 b hb).2.1,(f3 b hb).2.2.2.2.1,(f3 b hb).2.2.2.2.2⟩
 have fpb:∀b∈fp,(∃o,s'.heap.get? b=some o)/\∃o,s10.heap.get? b=some o:=fun b hb=>by
  obtain⟨o,ho⟩:=hfp b hb;exact⟨⟨o,(Ib.pin (b,o) (dC _ (dn _ ho))).1⟩,⟨o,(Ib10.pin (b,o) (dC _ (dn _ ho))).1⟩⟩
 have new3:∀b,s'.heap.get? b=none->s3.heap.get? b=none:=fun b hb=>by
  cases q:s3.heap.get? b with
  |none=>rfl
  |some o=>
   have nb:b∉fp:=fun z=>by
    obtain⟨o',h⟩:=(fpb b z).1;rw[hb]at h; cases h
   obtain⟨o',h⟩:=Ib.base.there b o q nb;rw[hb]at h; cases h
 have new310:∀b,s10.heap.get? b=none->s3.heap.get? b=none:=fun b hb=>by
  cases q:s3.heap.get? b with
  |none=>rfl
  |some o=>
   have nb:b∉fp:=fun z=>by
    obtain⟨o',h⟩:=(fpb b z).2;rw[hb]at h; cases h
   obtain⟨o',h⟩:=Ib10.base.there b o q nb;rw[hb]at h; cases h
 have hC3:s3.heap.get? s3.heap.objs.size=none:=by
  cases q:s3.heap.get? s3.heap.objs.size with
  |none=>rfl
  |some o=>exact absurd (bO q) (ic _)
 obtain⟨mC,hnC,_⟩:=Ib10.loc;have hnC:s10.heap.Ns ce.locals mC:=hnC;obtain⟨mC',hnC',_⟩:=Ib.loc;have hnC':s'.heap.Ns ce.locals mC':=hnC'
 have HC:H10 s3.heap.objs.size=none:=by
  have z:H10 ce.locals=none:=Ib10.free;rw[cL]at z;exact z
 rw[cL]at hnC hnC'
 have haC:a≠s3.heap.objs.size:=fun z=>by
  obtain⟨o,_,_,h,_⟩:=hnC';rw[<-z,fl.na]at h; cases h
 have hTC:T≠s3.heap.objs.size:=fun z=>by
  obtain⟨o,_,_,h,_⟩:=hnC';rw[<-z,fl.nT]at h; cases h
 obtain⟨oe,vs,a0,he,hc,hd,h1⟩:=fl.ex;obtain⟨oT,ts,hT,hdT,h3⟩:=fl.tb
 have hfr:s10.heap.FunFrames (gJ s10.heap (ck X.stack++[a,T])) (X.env::X.outer):=by
  rw[<-L.stk];exact rj I10.stack fun env he b hb=>dn _ (kP.mpr ⟨env,he,hb⟩)
 unfold pJ;rw[Qr cF]
 refine GX (base:=gJ s10.heap (ck X.stack++[a,T])) (outer:=X.outer) (L:=X.env.locals) (cls:=.ref Cl) (a0:=a0) (fl:=.none) (by rw[I10.ok.frames,L.stk]) L.fr
  (fun b o q=>pK _ q) (lx _ (by simp)) hfr ⟨oe,vs,T,oT,ts,he,hc,hd,h1,lx _ (by simp),fl.ne,hT,hdT,h3⟩ fun g1 y1 up1=>?_
 obtain⟨k1,_,k3,oe',vs',T',oT',ts',z1,z2,z3,z4,z5,z6,z7,z8,z9⟩:=y1;have hnC1:=up1.ns hnC;refine⟨mC,hnC1,fun g2 sb2 cenv hcenv=>?_⟩
 have hTC':T'≠s3.heap.objs.size:=fun z=>by
  obtain⟨o,_,_,h,hdd,_⟩:=hnC1;rw[<-z,z7]at h; cases h;rw[z8]at hdd; cases hdd
 have za:g2.get? a=some oe':=by rw[sb2.2 a haC]; exact z1
 have zT:g2.get? T'=some oT':=by rw[sb2.2 T' hTC']; exact z7
 unfold PySem.passOn setFlight;refine ay (CN za z3 z4 ?_);rw[if_neg (show¬((cK T'==iG)=true)from by simp)];refine ay (ay (CN za z3 z4 ?_));rw[if_pos (show(cK T' != iG)=true from by simp)];refine qa zT z8 (yo.mp z9).1 (wpAny_throw ?_);generalize hg3:g2.update T' (vF (·.setIfInBounds 3 (cenv.frame.elim iG fun f=>cb f)))=g3;have oth:∀b,b≠T'->g3.get? b=g2.get? b:=fun b hb=>by rw[<-hg3]; exact kM _ _ (bq hb)
 have hT3:g3.get? T'=some (vF (·.setIfInBounds 3 (cenv.frame.elim iG fun f=>cb f)) oT'):=by
  rw[<-hg3];exact lQ _ zT (vE (ke z8 _))
 obtain⟨t1,t2⟩:=wM (fs:=ck X.stack) (a:=a) z5 z7 z8 (fun b hb=>(jR I10 b hb).2) up1
 have t3:s3.heap.get? T'=none/\H10 T'=none:=by
  rcases t2 with z|z
  ·rcases cj.mp z with z|z
   ·exact absurd z t1
   ·rcases bg.mp z with z|z
    ·exact absurd z z6
    ·have:T'=T:=by simpa using z
     rw[this];exact⟨new3 _ fl.nT,fl.fT⟩
  ·exact⟨new310 _ z,I10.hok.untracked z⟩
 have hh:∀b∈ck X.stack++[a,T,s3.heap.objs.size],b∈ck X.stack\/(s3.heap.get? b=none/\H10 b=none):=fun b hb=>by
  rcases cj.mp hb with z|z
  ·exact .inl z
  ·simp only[bg,iX,or_false]at z;rcases z with rfl|rfl|rfl
   ·exact .inr ⟨new3 _ fl.na,fl.fa⟩
   ·exact .inr ⟨new3 _ fl.nT,fl.fT⟩
   ·exact .inr ⟨hC3,HC⟩
 have notIn:∀b o,(gJ s10.heap (ck X.stack++[a,T,s3.heap.objs.size])).get? b=some o->b∉ck X.stack++[a,T,s3.heap.objs.size]:=fun b o q z=>by
  rw[lx _ z]at q; cases q
 obtain⟨u2,hok2⟩:=FO (hid:=ck X.stack++[a,T,s3.heap.objs.size]) (h2:=g3) Ib10.base Ib10.hok hh (fun b hb=>(jR I10 b hb).1) (fun b o q=>by
   have nb:=notIn b o q;have e10:=pK _ q;simp only[cj,bg,iX,or_false,not_or]at nb;have hb1:(gJ s10.heap (ck X.stack++[a,T])).get? b=some o:=tR _ e10 (by simp only[cj,bg,iX,or_false,not_or]; exact⟨nb.1,nb.2.1,nb.2.2.1⟩);have hbT:b≠T':=fun z=>by rw[z,z5]at hb1; cases hb1
   rw[oth b hbT,sb2.2 b nb.2.2.2];exact k1 b o hb1) (fun b o hb e=>by
   obtain⟨_,o',e',hn⟩:=jR I10 b hb;rw[e]at e'; cases e';obtain⟨sl,hs⟩:=up1 b o e hn
   have hbC:b≠s3.heap.objs.size:=fun z=>by
    obtain⟨_,o3,e3,_⟩:=jR I3 b hb;rw[z,hC3]at e3; cases e3
   have hbT:b≠T':=fun z=>t1 (z▸hb);exact⟨sl,by rw[oth b hbT,sb2.2 b hbC]; exact hs⟩)
 have I11:Inv X pins σ H10 {s10 with heap:=g3}:=I3.call' (ch:=fp) (s':={s10 with heap:=g3}) Ib10.os u2 hok2 Ib10.bare fun b hb=>⟨(f3 b hb).2.2.2.1,(f3 b hb).2.1,(f3 b hb).2.2.2.2.1,(f3 b hb).2.2.2.2.2⟩;refine L.go _ _ (OX (T:=T') L.ex L.stk L.fr I11 ⟨⟨oe',vs',a0,?_,z2,z3,z4⟩,⟨_,_,_,hT3,ke z8 _,Array.getElem?_setIfInBounds_self_of_lt (yo.mp z9).1⟩,z6,pI I3 L.ex (new3 _ fl.na),pI I3 L.ex t3.1,fl.fa,t3.2⟩ hE);show g3.get? a=some oe';rw[oth a (bq z6)];exact za
theorem OP{Cl:aa}{E:XK}(L:qp X Cl E){pins:List (aa×Obj)}{s:aj}{σ:St}{H:Hp}{Q:VK}{elt tg iter:aJ}{ifs:List aJ}{scope:cR}{own:List (Str×Nat)}{pos pos':Pos}{wi:TI}{g:TG}{tt:TT}{te:TE}{use:Option (ae->Sem Unit)}{Qf:ae->aj->Prop}
  (hc:X.calm=true)(hN:X.N.Nodup)(I:Inv X pins σ H s)(hi:PI X tg iter wi)(ok:oa X.N X.env.scope scope own)
  (hg:∀(s:aj)(H:Hp)(C:aa)(cl:List (Str×aa))(fp:List aa),PG (X.blk s H scope (fF scope cl C X.env) fp) tg g)(ht:∀(s:aj)(H:Hp)(C:aa)(cl:List (Str×aa))(fp:List aa),oK (X.blk s H scope (fF scope cl C X.env) fp) ifs tt)
  (he:∀(s:aj)(H:Hp)(C:aa)(cl:List (Str×aa))(fp:List aa)(pn:List (aa×Obj)),PE (X.blkF Cl E s H scope (fF scope cl C X.env) fp pn) elt te)(hs:∀x,tO iter X.env x=pure x)
  (h:nV wi g tt te (own.map (·.2)) σ H Q)
  (hRR:∀D C s' m H',Inv X pins σ H' s'->Q (.ref D) H'->s'.heap.Ns C m->ia X pins H' C->rf (aB X.prog X.w) X.A X.xe use Qf (.ref D) C (.ok .next) s'):
  az (aB X.prog X.w) X.A (zV (.ListComp elt [⟨tg,iter,ifs,0⟩] scope pos) scope X.env pos' (newList []) false (bw iter X.env) use) Qf X.xe s:=by
 have hfree:∀y∈scope.names,y.2=.free->∃c,X.env.cells.lookup y.1=some c:=fun y hy e=>by
  rcases ok.free y hy e with k|k
  ·exact I.ok.has _ (.inl k)
  ·exact I.ok.has _ (.inr k)
 refine WN (use:=use) rfl hs (zU hfree) ok.kind (fun y hy e=>by rw[ok.uniq y hy,e])
  (aQ (hi pins s σ H _ I h) fun xv s1 hx=>aQ hx fun itv s2 h2=>?_)
 obtain⟨it,fp,tn,J,H2,e,I2,T,st2,f2,q⟩:=h2;subst e;refine mM (GT ?_) (by show 0<=aY; decide);generalize hD:s2.heap.objs.size=D;have hDn:H2 D=none:=I2.hok.fresh (sM hD);obtain⟨W,⟨m0,w0⟩,turn⟩:=q D hDn;generalize hs3:({s2 with heap:=s2.heap.push {cls:=.type "list",data:=.seq ([]:List ae).toArray}}:aj)=s3
 have I3:Inv X pins σ (ah H2 D (.lst [])) s3:=by
  rw[<-hs3];refine I2.laid (t':=s2.toks) (fun b o e=>bS _ e) (sM hD) ⟨bC _,[],0,.nil,?_⟩;rw[<-hD];exact dz _ rfl
 have h3:s3.heap=s2.heap.push {cls:=.type "list",data:=.seq ([]:List ae).toArray}:=by rw[<-hs3]
 have sz:∀b∈fp,b<s2.heap.objs.size:=fun b hb=>by
  obtain⟨o,e,_⟩:=T.obj _ _ st2 b hb;exact bO e
 have f3:∀b∈fp,ia X pins (ah H2 D (.lst [])) b/\b<s3.heap.objs.size:=fun b hb=>by
  have hlt:=sz b hb;refine⟨⟨?_,(f2 b hb).2⟩,by rw[h3,fL]; exact mY hlt⟩;rw[aM (by rw[<-hD]; exact cJ hlt)];exact(f2 b hb).1
 have st3:tn 0 s3.heap:=T.keep _ _ _ st2 fun b _ o e=>by rw[h3]; exact bS _ e
 have I4:=EG I3 ok hN f3;have pg:=hg s3 (ah H2 D (.lst [])) s3.heap.objs.size (dY (s3.heap.objs.size+1) scope.names (df X.env.cells scope.names [])) fp;have pt:=ht s3 (ah H2 D (.lst [])) s3.heap.objs.size (dY (s3.heap.objs.size+1) scope.names (df X.env.cells scope.names [])) fp;have pe:=he s3 (ah H2 D (.lst [])) s3.heap.objs.size (dY (s3.heap.objs.size+1) scope.names (df X.env.cells scope.names [])) fp;show gW _ _ (.compStart (.ListComp elt [⟨tg,iter,ifs,0⟩] scope pos) 0 (.ref it) (.ref D) (fF scope (dY (s3.heap.objs.size+1) scope.names (df X.env.cells scope.names [])) s3.heap.objs.size X.env)) (rf (aB X.prog X.w) X.A X.xe use Qf (.ref D) s3.heap.objs.size) {s3 with heap:=mJ (s3.heap.push {cls:=.type "dict",data:=.dict #[]}) scope.names};have nfp:∀b∈fp,(ah H2 D (.lst [])) b=none:=fun b hb=>(f3 b hb).1.1;generalize hce:fF scope (dY (s3.heap.objs.size+1) scope.names (df X.env.cells scope.names [])) s3.heap.objs.size X.env=ce at I4 pg pt pe⊢;have cL:ce.locals=s3.heap.objs.size:=by subst hce; rfl
 generalize hH3:ah H2 D (.lst [])=H3 at I3 I4 pg pt pe w0 nfp f3;generalize hs4:({s3 with heap:=mJ (s3.heap.push {cls:=.type "dict",data:=.dict #[]}) scope.names}:aj)=s4 at I4⊢;have st4:tn 0 s4.heap:=T.keep _ _ _ st3 fun b _ o e=>by rw[<-hs4]; exact xy _ _ _ _ (bS _ e)
 have stat:∀{σ':St}{H':Hp}{s':aj},Inv (X.blk s3 H3 scope ce fp) [] σ' H' s'->(∀b∈fp,H' b=none)->∀b∈fp,ia (X.blk s3 H3 scope ce fp) [] H' b:=fun{σ' H' s'} I' hn b hb=>
  ⟨hn b hb,(I'.ok.exf b hb).1,I'.ok.exfs b hb,.inl hb,fun x c e=>(I'.ok.exf b hb).2 x c e,fun p hp=>absurd (show p∈([]:List (aa×Obj))++[]from hp) (by simp)⟩
 have loop:gW (aB X.prog X.w) X.A (.compLoop (.ListComp elt [⟨tg,iter,ifs,0⟩] scope pos) 0 (.ref it) (.ref D) ce) (rf (aB X.prog X.w) X.A X.xe use Qf (.ref D) s3.heap.objs.size) s4:=by
  refine ET (fun n s'=>∃i H',Inv (X.blk s3 H3 scope ce fp) [] (cn σ (own.map (·.2))) H' s'/\tn i s'.heap/\(∀b∈fp,H' b=none)/\W i n H') ?_ m0 ⟨0,H3,I4,st4,nfp,w0⟩;rintro n s5 ⟨i,H5,I5,st5,n5,w5⟩;rcases turn i n H5 w5 with⟨stop,qq⟩|⟨go,Nx,hNx,step⟩
  ·have td:=T.done (X.blk s3 H3 scope ce fp) rfl rfl rfl hc i [] s5 _ H5 (fun _ _=>False) I5 (stat I5 n5) st5 stop;refine kF td fun r s6⟨hr,I6⟩=>?_;subst hr;have I7:Inv X pins σ H5 s6:=I3.call' (ch:=fp) I6.os I6.base I6.hok I6.bare fun b hb=>⟨(f3 b hb).1.2.2.2.1,(f3 b hb).1.2.1,(f3 b hb).1.2.2.2.2.1,(f3 b hb).1.2.2.2.2.2⟩
   have nC:H5 s3.heap.objs.size=none:=by
    have z:H5 ce.locals=none:=I6.free;rw[cL]at z;exact z
   obtain⟨m,hn,_⟩:=I6.loc;have hn:s6.heap.Ns ce.locals m:=hn;rw[cL]at hn;exact hRR D s3.heap.objs.size s6 m H5 I7 qq hn (I3.fpOk (aF _) nC)
  ·have ti:=T.item (X.blk s3 H3 scope ce fp) rfl rfl rfl hc i [] s5 _ H5 (fun _ _=>False) I5 (stat I5 n5) st5 go;refine kF ti fun r s6⟨u,hr,h6⟩=>?_;subst hr;refine kF h6 fun _ s7⟨x,H7,I7,r7,y7,st7,n7⟩=>?_;have I7':=I7.pinned (stat I7 n7) (T.obj _ _ st7);refine kF (pg _ s7 _ H7 x u _ I7' r7 (step x H7 y7)) fun _ s8⟨σ8,H8,I8,hw8,q8⟩=>?_;refine kF (pt _ s8 σ8 H8 _ I8 q8) fun b s9⟨H9,I9,q9⟩=>?_
   have fin:∀{s':aj}{H':Hp},Inv (X.blk s3 H3 scope ce fp) ([]++nP fp s7.heap) σ8 H' s'->Nx H'->∃m,m<n/\∃i H',Inv (X.blk s3 H3 scope ce fp) [] (cn σ (own.map (·.2))) H' s'/\tn i s'.heap/\(∀b∈fp,H' b=none)/\W i m H':=fun{s' H'} I' nx=>by
    obtain⟨m',hm,w'⟩:=hNx H' nx
    have pin':∀b∈fp,∀o,s7.heap.get? b=some o->s'.heap.get? b=some o/\H' b=none:=fun b hb o e=>
     let z:=I'.pin (b,o) (dC _ (dC _ (ub hb e)))
     ⟨z.1,z.2.1⟩
    have hl:(cn σ (own.map (·.2))).length=σ8.length:=by rw[<-hw8,ye]
    refine⟨m',hm,i+1,H',(I'.unpinned (pins:=[])).weak hl (fun j v e=>?_),T.keep _ _ _ st7 fun b hb o e=>(pin' b hb o e).1,fun b hb=>?_,w'⟩
    ·rw[<-hw8]at e;exact(yf e).1
    ·obtain⟨o,e,_⟩:=T.obj _ _ st7 b hb;exact(pin' b hb o e).2
   cases b with
   |false=>
    simp only[aV,if_false]at q9⊢;exact fin I9 q9
   |true=>
    simp only[if_true]at q9⊢;have pe:=pe (nP fp s7.heap);have I9F:Inv (X.blkF Cl E s3 H3 scope ce fp (nP fp s7.heap)) [] σ8 H9 s9:=I9.toF;refine iq (pe [] s9 σ8 H9 _ I9F q9) (fun z s10⟨yv,H10,I10,r10,acc,hD10,hz10,nx⟩=>?_) (fun e s10 hx=>?_)
    ·exact Ek (X:=X.blk s3 H3 scope ce fp) I10.ofF hD10 hz10 r10 fun s11 I11=>fin (by rw[cC]at I11; rw[mW]; exact I11) nx
    ·exact Nq L I3 cL (by subst hce; rfl) (fun b hb=>(f3 b hb).1) (fun b hb=>by
      obtain⟨o,e,_⟩:=T.obj _ _ st7 b hb;exact⟨o,ub hb e⟩) hx
 exact Nm loop (T.self X.A 0 _ _ _ st4 loop)
theorem Sr{Cl:aa}{E:XK}(L:qp X Cl E){i:Nat}{y:Str}{py:Pos}{elt tg iter:aJ}{ifs:List aJ}{scope:cR}{own:List (Str×Nat)}{pos spos:Pos}{wi:TI}{g:TG}{tt:TT}{te:TE}(hc:X.calm=true)(hN:X.N.Nodup)(hy:X.N[i]?=some y)(hyl:X.env.scope.names.lookup y=some .local)
  (hsw:nU (.ListComp elt [⟨tg,iter,ifs,0⟩] scope pos) (some (.Name y py)) spos.line X.env=pure true)(hi:PI X tg iter wi)(ok:oa X.N X.env.scope scope own)
  (hg:∀(s:aj)(H:Hp)(C:aa)(cl:List (Str×aa))(fp:List aa),PG (X.blk s H scope (fF scope cl C X.env) fp) tg g)(ht:∀(s:aj)(H:Hp)(C:aa)(cl:List (Str×aa))(fp:List aa),oK (X.blk s H scope (fF scope cl C X.env) fp) ifs tt)
  (he:∀(s:aj)(H:Hp)(C:aa)(cl:List (Str×aa))(fp:List aa)(pn:List (aa×Obj)),PE (X.blkF Cl E s H scope (fF scope cl C X.env) fp pn) elt te)(hs:∀x,tO iter X.env x=pure x:=by intro _; rfl):
  PS X (.Assign [.Name y py] (.ListComp elt [⟨tg,iter,ifs,0⟩] scope pos) spos) (uK (nV wi g tt te (own.map (·.2))) (lr i)):=by
 intro pins s σ H D I h;rw[Ob _ _ _ _ hsw];refine ay (wpAny_standAt (ay ?_));show az _ X.A (do let _<-zV (.ListComp elt [⟨tg,iter,ifs,0⟩] scope pos) scope X.env (firstIterPos [⟨tg,iter,ifs,0⟩] pos) (newList []) false (bw iter X.env) (some (assign (.Name y py) X.env))) _ _ s;have h:nV wi g tt te (own.map (·.2)) σ H (fun x H1=>lr i x σ H1 D.nx):=h;refine ay (aQ (OP L (Qf:=fun _ s'=>SP X pins D .next s') hc hN I hi ok hg ht he hs h fun Ls C s' m H' I' q hn f=>?_) fun _ s' hq=>aU (aU hq));show az _ _ (assign (.Name y py) X.env (.ref Ls)) _ _ _;refine Lp (Ck (v:=V.ref Ls) I' hN hy (.inl hyl) rfl (fun s2 I2⟨a,sb,ha⟩=>?_) (.inr hyl));obtain⟨f0,f1,f2,f3,f4,f5⟩:=f
 have haC:C≠a:=by
  rcases ha with z|z
  ·rw[z]; exact f1
  ·exact fun e=>f4 y a z e.symm
 refine⟨m,hn.sameBut sb haC,fun h3 sb3=>?_⟩;exact⟨_,H',I2.turned (t':=s2.toks) (fun b o hb e=>(sb3.2 b hb).trans e) f0 f1 f3 f4 f5,q⟩
end
end L2
namespace PP
open PySem PySem.Spec L2
open PyProof.Rows hiding St
open Pg PM
def bv(s:ag):List V:=s.map fun c=>V.int (c.toNat:Int)
theorem cU(s:ag):(bv s).length=s.length:=aE _
theorem zJ{s:ag}{i:Nat}{v:V}(h:(bv s)[i]?=some v):∃c,s[i]?=some c/\v=.int (c.toNat:Int):=by
 unfold bv at h;rw[cH]at h;cases e:s[i]? with
 |none=>rw[e]at h; cases h
 |some c=>rw[e]at h; exact⟨c,rfl,(eE h).symm⟩
theorem nA{s:ag}{i:Nat}{c:UInt8}(h:s[i]?=some c):(bv s)[i]?=some (.int (c.toNat:Int)):=by
 unfold bv;rw[cH,h];rfl
theorem wo(s:ag)(i j:Nat):((bv s).drop i).take j=bv ((s.drop i).take j):=by
 unfold bv;rw[<-yQ,<-vq]
theorem MY(s t:ag):bv s++bv t=bv (s++t):=by
 unfold bv;rw[cv]
def BL(K:aw)(G:Hp)(a:aa)(s:ag):Prop:=ak K G a (bv s)
theorem ak.mono{K:aw}{G G':Hp}{a:aa}{xs:List V}(e:bh G G')(h:ak K G a xs):ak K G' a xs:=e.seq h
theorem BL.mono{K:aw}{G G':Hp}{a:aa}{s:ag}(e:bh G G')(h:BL K G a s):BL K G' a s:=e.seq h
theorem bR{α β:Type}{F:α->β->Prop}:∀{as:List α}{bs:List β},bH F as bs->as.length=bs.length
 |_,_,.nil=>rfl
 |_,_,.cons _ t=>by rw[bG,bG,bR t]
theorem dH{α β:Type}{F:α->β->Prop}:∀{as:List α}{bs:List β}{i:Nat}{a:α},bH F as bs->as[i]?=some a->∃b,bs[i]?=some b/\F a b
 |_,_,i,_,.nil,h=>by simp at h
 |_,_,0,_,.cons r _,h=>by cases h; exact⟨_,rfl,r⟩
 |_,_,i+1,_,.cons _ t,h=>dH (i:=i) t h
theorem jK{α β:Type}{F:α->β->Prop}:∀{as:List α}{bs:List β}{i:Nat}{b:β},bH F as bs->bs[i]?=some b->∃a,as[i]?=some a/\F a b
 |_,_,i,_,.nil,h=>by simp at h
 |_,_,0,_,.cons r _,h=>by cases h; exact⟨_,rfl,r⟩
 |_,_,i+1,_,.cons _ t,h=>jK (i:=i) t h
theorem cO{α β:Type}{F F':α->β->Prop}(hF:∀a b,F a b->F' a b):∀{as:List α}{bs:List β},bH F as bs->bH F' as bs
 |_,_,.nil=>.nil
 |_,_,.cons r t=>.cons (hF _ _ r) (cO hF t)
theorem jJ{α β:Type}{F:α->β->Prop}:∀{as as':List α}{bs bs':List β},bH F as bs->bH F as' bs'->bH F (as++as') (bs++bs')
 |_,_,_,_,.nil,s=>s
 |_,_,_,_,.cons r t,s=>.cons r (jJ t s)
theorem eI{α β:Type}{f:α->β}{l:List α}{i:Nat}{y:β}(h:(l.map f)[i]?=some y):∃x,l[i]?=some x/\y=f x:=by
 rw[cH]at h;cases e:l[i]? with
 |none=>rw[e]at h; cases h
 |some c=>rw[e]at h; exact⟨c,rfl,(eE h).symm⟩
def DV(K:aw)(G:Hp)(a:aa)(rs:List ag):Prop:=∃as:List aa,G a=some (.lst (as.map V.ref))/\bH (fun p s=>BL K G p s) as rs
def jE(c:MC):List (Str×V):=[("stays",.int c.stays),("moves",.int c.moves),("optional",.bl c.opt)]
def dw(lc:aa)(opt:Nat)(dd:aa):List (Str×V):=[("cells",.ref lc),("optional",.int opt),("steps",.ref dd)]
structure Cn where
 cell:aa
 mat:aa
 tab:aa
 lp:Pos
 lq:Str
def CellAt(A:Cn)(G:Hp)(a:aa)(c:MC):Prop:=∃dx,G a=some (.ins A.cell dx (jE c))
def gS(A:Cn)(G:Hp)(a:aa)(cs:List MC):Prop:=∃as:List aa,G a=some (.lst (as.map V.ref))/\bH (fun p c=>CellAt A G p c) as cs
theorem CellAt.mono{A:Cn}{G G':Hp}{a:aa}{c:MC}(e:bh G G')(h:CellAt A G a c):CellAt A G' a c:=by
 obtain⟨dx,h⟩:=h;exact⟨dx,e _ _ h⟩
theorem gS.mono{A:Cn}{G G':Hp}{a:aa}{cs:List MC}(e:bh G G')(h:gS A G a cs):gS A G' a cs:=by
 obtain⟨as,h1,h2⟩:=h;exact⟨as,e _ _ h1,cO (fun _ _ q=>q.mono e) h2⟩
theorem Nh{c d:MC}(h:jE c=jE d):c=d:=by
 obtain⟨a1,b1,o1⟩:=c;obtain⟨a2,b2,o2⟩:=d;unfold jE at h;simp only[yJ,qH,V.int.injEq,V.bl.injEq,true_and,and_true,Di]at h;obtain⟨rfl,rfl,rfl⟩:=h;rfl
theorem gS.inj{A:Cn}{G:Hp}{a:aa}{cs ds:List MC}(h:gS A G a cs)(h':gS A G a ds):cs=ds:=by
 obtain⟨as,e,p⟩:=h;obtain⟨bs,e',q⟩:=h';rw[e]at e';have e':as.map V.ref=bs.map V.ref:=by injection e' with e'; injection e'
 have:as=bs:=(List.map_inj_right (fun _ _ z=>by cases z; rfl)).mp e';subst this;clear e e'
 induction p generalizing ds with
 |nil=>cases q; rfl
 |cons r t ih=>
  cases q with
  |cons r' t'=>
   obtain⟨dx,r⟩:=r;obtain⟨dx',r'⟩:=r';rw[r]at r';have:=Nh (show jE _=jE _ by injection r' with r'; injection r');rw[this,ih rfl t']
structure kZ(G:Hp)(cs:List MC)(kvs:List (aP×V)):Prop where
 nd:(kvs.map (·.1)).Nodup
 at_:∀k v,cf kvs k=some v->∃(c:UInt8)(t:aa)(sm mm:Nat),k=bW (c.toNat:Int)/\v=.ref t/\G t=some (.tup [.int sm,.int mm])/\ib cs (fun x=>bF x.stays c) sm/\ib cs (fun x=>bF x.moves c) mm
theorem kZ.mono{G G':Hp}{cs:List MC}{kvs:List (aP×V)}(e:bh G G')(h:kZ G cs kvs):kZ G' cs kvs:=
 ⟨h.nd,fun k v q=>by
  obtain⟨c,t,sm,mm,h1,h2,h3,h4⟩:=h.at_ k v q;exact⟨c,t,sm,mm,h1,h2,e _ _ h3,h4⟩⟩
def ra(q:Str)(c:aa):HO:=HO.ext fun h=>h.CodeRec (.ref c) q
def sX(A:Cn)(G:Hp)(ps:Array ae):Prop:=ps= #[]\/∃c,ps= #[cb A.lp.line,cb A.lp.col,.ref c]/\G c=some (ra A.lq c)
theorem sX.mono{A:Cn}{G G':Hp}{ps:Array ae}(e:bh G G')(h:sX A G ps):sX A G' ps:=by
 rcases h with h|⟨c,h,g⟩
 ·exact .inl h
 ·exact .inr ⟨c,h,e _ _ g⟩
def iz(A:Cn)(G:Hp)(b:aa):Prop:=b=A.tab\/∃m dx lc opt,G m=some (.ins A.mat dx (dw lc opt b))
structure Wd(A:Cn)(G H:Hp):Prop where
 sub:bh G H
 cach:∀m dx lc opt dd,G m=some (.ins A.mat dx (dw lc opt dd))->G dd=none/\∃kvs cs,H dd=some (.dK kvs)/\gS A G lc cs/\kZ G cs kvs
 inj:∀m dx lc opt m' dx' lc' opt' dd,G m=some (.ins A.mat dx (dw lc opt dd))->G m'=some (.ins A.mat dx' (dw lc' opt' dd))->m=m'
 tab:G A.tab=none/\∃ps,H A.tab=some (.tbl ps)/\sX A G ps
theorem Wd.there{A:Cn}{G H:Hp}(w:Wd A G H){b:aa}(h:iz A G b):(∃kvs,H b=some (.dK kvs))\/∃ps,H b=some (.tbl ps):=by
 rcases h with rfl|⟨m,dx,lc,opt,e⟩
 ·obtain⟨_,ps,h,_⟩:=w.tab;exact .inr ⟨ps,h⟩
 ·obtain⟨_,kvs,_,h,_⟩:=w.cach _ _ _ _ _ e;exact .inl ⟨kvs,h⟩
theorem Wd.notL{A:Cn}{G H:Hp}(wd:Wd A G H){a:aa}{o:HO}(h:H a=some o)(hn:∀kvs,o≠.dK kvs)(hn2:∀ps,o≠.tbl ps:=by intro _ z; cases z): ¬iz A G a:=fun z=>by
 rcases wd.there z with⟨kvs,e⟩|⟨ps,e⟩
 ·rw[h]at e; cases e; exact hn _ rfl
 ·rw[h]at e; cases e; exact hn2 _ rfl
theorem Wd.nocache{A:Cn}{G H:Hp}(w:Wd A G H){b:aa}(h:H b=none): ¬iz A G b:=fun q=>by
 rcases w.there q with⟨_,e⟩|⟨_,e⟩<;>·rw[h]at e; cases e
theorem Wd.noG{A:Cn}{G H:Hp}(w:Wd A G H){b:aa}(h:H b=none):G b=none:=w.sub.free h
structure Step(A:Cn)(G H G' H':Hp):Prop where
 wd:Wd A G' H'
 grow:∀b,H b≠none->G' b=G b
 keep:∀b o,H b=some o-> ¬iz A G b->H' b=some o
 newc:∀b,iz A G' b->iz A G b\/H b=none
section
variable{A:Cn}{G H G1 H1 G2 H2:Hp}
theorem Step.refl(w:Wd A G H):Step A G H G H:=⟨w,fun _ _=>rfl,fun _ _ h _=>h,fun _ h=>.inl h⟩
theorem Step.same(w:Wd A G H)(s:Step A G H G1 H1):bh G G1:=fun b o e=>by
 rw[s.grow b (by rw[w.sub b o e]; simp)];exact e
theorem Step.cache(w:Wd A G H)(s:Step A G H G1 H1){b:aa}(h:iz A G b):iz A G1 b:=by
 rcases h with h|⟨m,dx,lc,opt,e⟩
 ·exact .inl h
 ·exact .inr ⟨m,dx,lc,opt,s.same w _ _ e⟩
theorem Step.there(w:Wd A G H)(s:Step A G H G1 H1){b:aa}(h:H b≠none):H1 b≠none:=by
 by_cases q:iz A G b
 ·rcases s.wd.there (s.cache w q)with⟨_,e⟩|⟨_,e⟩<;>·rw[e]; simp
 ·cases e:H b with
  |none=>exact absurd e h
  |some o=>rw[s.keep b o e q]; simp
theorem Step.free(w:Wd A G H)(s:Step A G H G1 H1){b:aa}(h:H1 b=none):H b=none:=by
 cases e:H b with
 |none=>rfl
 |some o=>exact absurd h (s.there w (by rw[e]; simp))
theorem Step.trans(w:Wd A G H)(s:Step A G H G1 H1)(t:Step A G1 H1 G2 H2):Step A G H G2 H2 where
 wd:=t.wd
 grow b h:=by rw[t.grow b (s.there w h),s.grow b h]
 keep b o h q:=t.keep b o (s.keep b o h q) fun z=>by
  rcases s.newc b z with z|z
  ·exact q z
  ·rw[h]at z; cases z
 newc b h:=by
  rcases t.newc b h with z|z
  ·exact s.newc b z
  ·exact .inr (s.free w z)
def fP(A:Cn)(o:HO):Prop:=∀dx lc opt dd,o≠.ins A.mat dx (dw lc opt dd)
theorem aT{xs:List V}:fP A (.lst xs):=fun _ _ _ _ z=>by cases z
theorem cZ{xs:List V}:fP A (.tup xs):=fun _ _ _ _ z=>by cases z
theorem uc{C dx:aa}{fs:List (Str×V)}(h:fs.head?.map (·.1)≠some "cells"):fP A (.ins C dx fs):=fun _ _ _ _ z=>by
 cases z;exact h rfl
theorem Step.new(w:Wd A G H)(s:Step A G H G1 H1){p:aa}{o:HO}(hp:H1 p=none):Step A G H G1 (ah H1 p o) where
 wd:=⟨fun b o' e=>by
   have:=s.wd.sub b o' e;rw[aM (dh this hp)]; exact this,fun m dx lc opt dd e=>by
   obtain⟨h1,kvs,cs,h2,h3,h4⟩:=s.wd.cach m dx lc opt dd e;exact⟨h1,kvs,cs,by rw[aM (dh h2 hp)]; exact h2,h3,h4⟩,s.wd.inj,by
   obtain⟨h1,ps,h2,h3⟩:=s.wd.tab;exact⟨h1,ps,by rw[aM (dh h2 hp)]; exact h2,h3⟩⟩
 grow:=s.grow
 keep b o' h q:=by
  have:=s.keep b o' h q;rw[aM (dh this hp)]; exact this
 newc:=s.newc
theorem CI{p:aa}{o:HO}(hp:G p=none)(nm:fP A o){b:aa}:iz A (ah G p o) b↔iz A G b:=by
 constructor
 ·rintro(h|⟨m,dx,lc,opt,e⟩)
  ·exact .inl h
  by_cases q:m=p
  ·subst q;rw[ax]at e;cases e;exact absurd rfl (nm _ _ _ _)
  ·rw[aM q]at e;exact .inr ⟨m,dx,lc,opt,e⟩
 ·rintro(h|⟨m,dx,lc,opt,e⟩)
  ·exact .inl h
  ·exact .inr ⟨m,dx,lc,opt,by rw[aM (dh e hp)]; exact e⟩
theorem bu{p:aa}{o:HO}(hp:G p=none):bh G (ah G p o):=fun b o' e=>by rw[aM (dh e hp)]; exact e
theorem AG{p m dx lc dd:aa}{opt:Nat}{o:HO}(nm:fP A o)(e:ah G p o m=some (.ins A.mat dx (dw lc opt dd))):m≠p/\G m=some (.ins A.mat dx (dw lc opt dd)):=by
 by_cases q:m=p
 ·subst q;rw[ax]at e;cases e;exact absurd rfl (nm _ _ _ _)
 ·rw[aM q]at e;exact⟨q,e⟩
theorem Wd.seal(w:Wd A G H){q:aa}{o:HO}(hq:H q=some o)(g:G q=none)(nc: ¬iz A G q)(nm:fP A o):Wd A (ah G q o) H where
 sub b o' e:=by
  by_cases z:b=q
  ·subst z; rw[ax]at e; cases e; exact hq
  ·rw[aM z]at e; exact w.sub b o' e
 cach m dx lc opt dd e:=by
  obtain⟨_,e⟩:=AG nm e;obtain⟨h1,kvs,cs,h2,h3,h4⟩:=w.cach m dx lc opt dd e;have:dd≠q:=fun z=>nc (.inr ⟨m,dx,lc,opt,by rw[<-z]; exact e⟩);exact⟨by rw[aM this]; exact h1,kvs,cs,h2,h3.mono (bu g),h4.mono (bu g)⟩
 tab:=by
  obtain⟨h1,ps,h2,h3⟩:=w.tab;exact⟨by rw[aM (fun z=>nc (.inl z.symm))]; exact h1,ps,h2,h3.mono (bu g)⟩
 inj m dx lc opt m' dx' lc' opt' dd e e':=w.inj m dx lc opt m' dx' lc' opt' dd (AG nm e).2 (AG nm e').2
theorem Step.seal(w:Wd A G H)(s:Step A G H G1 H1){q:aa}{o:HO}(h0:H q=none)(hq:H1 q=some o)(g:G1 q=none)(nc: ¬iz A G1 q)(nm:fP A o):Step A G H (ah G1 q o) H1 where
 wd:=s.wd.seal hq g nc nm
 grow b h:=by
  have:b≠q:=fun z=>h (by rw[z]; exact h0);rw[aM this]; exact s.grow b h
 keep:=s.keep
 newc b h:=s.newc b ((CI g nm).mp h)
theorem Step.newI(w:Wd A G H)(s:Step A G H G1 H1){p:aa}{o:HO}(hp:H1 p=none)(nm:fP A o):Step A G H (ah G1 p o) (ah H1 p o):=
 (s.new w hp).seal w (s.free w hp) ax (s.wd.noG hp) (s.wd.nocache hp) nm
structure ar(A:Cn)(H0 G H:Hp)(q:aa)(o:HO):Prop where
 new:H0 q=none
 g:G q=none
 nc: ¬iz A G q
 at_:H q=some o
theorem ar.make(w:Wd A G H)(s:Step A G H G1 H1){p:aa}{o:HO}(hp:H1 p=none):ar A H G1 (ah H1 p o) p o:=⟨s.free w hp,s.wd.noG hp,s.wd.nocache hp,ax⟩
theorem ar.call{H0:Hp}{q:aa}{o:HO}(x:ar A H0 G1 H1 q o)(t:Step A G1 H1 G2 H2):ar A H0 G2 H2 q o:=
 ⟨x.new,by rw[t.grow q (by rw[x.at_]; simp)]; exact x.g,(fun z=>by
  rcases t.newc q z with z|z
  ·exact x.nc z
  ·rw[x.at_]at z; cases z),t.keep q o x.at_ x.nc⟩
theorem ar.new_{H0:Hp}{q p:aa}{o o':HO}(x:ar A H0 G1 H1 q o)(hp:H1 p=none):ar A H0 G1 (ah H1 p o') q o:=
 ⟨x.new,x.g,x.nc,by rw[aM (dh x.at_ hp)]; exact x.at_⟩
theorem ar.newI{H0:Hp}{q p:aa}{o o':HO}(w:Wd A G1 H1)(x:ar A H0 G1 H1 q o)(hp:H1 p=none)(nm:fP A o'):ar A H0 (ah G1 p o') (ah H1 p o') q o:=
 ⟨x.new,by rw[aM (dh x.at_ hp)]; exact x.g,fun z=>x.nc ((CI (w.noG hp) nm).mp z),by rw[aM (dh x.at_ hp)]; exact x.at_⟩
theorem ar.other{H0:Hp}{q p:aa}{o o':HO}(x:ar A H0 G1 H1 q o)(hp:q≠p):ar A H0 G1 (ah H1 p o') q o:=
 ⟨x.new,x.g,x.nc,by rw[aM hp]; exact x.at_⟩
theorem ar.put_{H0:Hp}{q:aa}{o o':HO}(x:ar A H0 G1 H1 q o):ar A H0 G1 (ah H1 q o') q o':=⟨x.new,x.g,x.nc,ax⟩
theorem Step.put(w:Wd A G H)(s:Step A G H G1 H1){q:aa}{o o':HO}(x:ar A H G1 H1 q o):Step A G H G1 (ah H1 q o') where
 wd:=⟨fun b u e=>by
   have:b≠q:=fun z=>by rw[z,x.g]at e; cases e
   rw[aM this]; exact s.wd.sub b u e,fun m dx lc opt dd e=>by
   obtain⟨h1,kvs,cs,h2,h3,h4⟩:=s.wd.cach m dx lc opt dd e;have:dd≠q:=fun z=>x.nc (.inr ⟨m,dx,lc,opt,by rw[<-z]; exact e⟩);exact⟨h1,kvs,cs,by rw[aM this]; exact h2,h3,h4⟩,s.wd.inj,by
   obtain⟨h1,ps,h2,h3⟩:=s.wd.tab;exact⟨h1,ps,by rw[aM (fun z=>x.nc (.inl z.symm))]; exact h2,h3⟩⟩
 grow:=s.grow
 keep b u h z:=by
  have:b≠q:=fun y=>by rw[y,x.new]at h; cases h
  rw[aM this]; exact s.keep b u h z
 newc:=s.newc
theorem Step.sealO(w:Wd A G H)(s:Step A G H G1 H1){q:aa}{o:HO}(x:ar A H G1 H1 q o)(nm:fP A o):Step A G H (ah G1 q o) H1:=s.seal w x.new x.at_ x.g x.nc nm
theorem ar.seal_{H0:Hp}{q p:aa}{o o':HO}(x:ar A H0 G1 H1 q o)(y:ar A H0 G1 H1 p o')(hne:q≠p)(nm:fP A o'):ar A H0 (ah G1 p o') H1 q o:=
 ⟨x.new,by rw[aM hne]; exact x.g,fun z=>x.nc ((CI y.g nm).mp z),x.at_⟩
end
end PP
namespace PP
open PySem PySem.Spec L2
open PyProof.Rows hiding St
section
variable{σ:St}{H:Hp}{Q:VK}{D:iy}{ta tb tc te:TE}{tA tB':TT}{t u:TS}{K:aw}{v x y:V}{i j:Int}
theorem TU:Cw t u D σ H=t {D with nx:=u D} σ H:=rfl
theorem SM{g:TG}:uK te g D σ H=te σ H fun x H1=>g x σ H1 D.nx:=rfl
theorem Tc:Cs te D σ H=te σ H fun _ H1=>D.nx σ H1:=rfl
theorem TQ:uP te D σ H=te σ H D.rt:=rfl
theorem TR:Wp D σ H=D.rt .non H:=rfl
theorem Tx:Cv D σ H=D.nx σ H:=rfl
theorem Tn{c:TT}:Cu c t u D σ H=c σ H fun b H1=>if b=true then t D σ H1 else u D σ H1:=rfl
theorem Tw:KR D σ H=False:=rfl
theorem Uc:jT 0 (some v::σ) H Q=Q v H:=propext ⟨fun⟨_,e,q⟩=>by cases e; exact q,fun q=>⟨v,rfl,q⟩⟩
theorem Ud{n:Nat}{o:Option V}:jT (n+1) (o::σ) H Q=jT n σ H Q:=rfl
theorem SG:tC v σ H Q=Q v H:=rfl
theorem TH{r:R2}:uO r ta tb σ H Q=ta σ H fun x H1=>tb σ H1 fun y H2=>r x y H2 Q:=rfl
theorem Ub{r:V->Hp->VK->Prop}:Le r ta σ H Q=ta σ H fun x H1=>r x H1 Q:=rfl
theorem SJ{g:Int->V}:rU g (.int i) H Q=Q (g i) H:=propext ⟨fun⟨_,e,q⟩=>by cases e; exact q,fun q=>⟨i,rfl,q⟩⟩
theorem SI{g:Int->Int->V}:jP g (.int i) (.int j) H Q=Q (g i j) H:=propext ⟨fun⟨_,_,e,e',q⟩=>by cases e; cases e'; exact q,fun q=>⟨i,j,rfl,rfl,q⟩⟩
theorem SH{C:Int->Int->Prop}{g:Int->Int->V}:rI C g (.int i) (.int j) H Q=(C i j/\Q (g i j) H):=propext ⟨fun⟨_,_,e,e',q⟩=>by cases e; cases e'; exact q,fun q=>⟨i,j,rfl,rfl,q⟩⟩
theorem Fe:decide (V.int i=V.int j)=decide (i=j):=by
 by_cases h:i=j
 ·subst h; simp
 ·rw[dF h,dF (fun z=>h (by cases z; rfl))]
theorem HU:nR (.int i) (.int j) H Q=Q (.bl (decide (i=j))) H:=by
 unfold nR;rw[Fe];exact propext ⟨fun h=>h.2,fun h=>⟨rfl,h⟩⟩
theorem Td:nR .non (.int j) H Q=Q (.bl false) H:=by
 unfold nR;rw[dF (fun z=>by cases z)];exact propext ⟨fun h=>h.2,fun h=>⟨rfl,h⟩⟩
theorem Tv:BK (.int i) (.int j) H Q=Q (.bl (!decide (i=j))) H:=by
 unfold BK;rw[Fe];exact propext ⟨fun h=>h.2,fun h=>⟨rfl,h⟩⟩
theorem TZ{t:TE}{Q:Bool->Hp->Prop}:Cy t σ H Q=t σ H fun x H'=>∃k,x=.bl k/\Q k H':=rfl
theorem TY{t:TE}{Q:Bool->Hp->Prop}:tB t σ H Q=t σ H fun x H'=>∃k,x=.bl k/\Q k H':=rfl
theorem SN{b:Bool}{P:Bool->Prop}:(∃k,V.bl b=V.bl k/\P k)=P b:=propext ⟨fun⟨_,e,q⟩=>by cases e; exact q,fun q=>⟨b,rfl,q⟩⟩
theorem SK{Q:Bool->Hp->Prop}:KF tA tB' σ H Q=tA σ H fun c H1=>if c=true then tB' σ H1 Q else Q false H1:=rfl
theorem TJ{Q:Bool->Hp->Prop}:KW tA tB' σ H Q=tA σ H fun c H1=>if c=true then Q true H1 else tB' σ H1 Q:=rfl
theorem TC{Q:Bool->Hp->Prop}:KU tA σ H Q=tA σ H fun c H1=>Q (!c) H1:=rfl
theorem SL:KG ta tb σ H Q=ta σ H fun x H1=>∃c,x=.bl c/\if c=true then tb σ H1 Q else Q (.bl false) H1:=rfl
theorem TK:KY ta tb σ H Q=ta σ H fun x H1=>∃c,x=.bl c/\if c=true then Q (.bl true) H1 else tb σ H1 Q:=rfl
theorem TF:Wo ta σ H Q=ta σ H fun x H1=>∃c,x=.bl c/\Q (.bl (!c)) H1:=rfl
theorem Tj:KO tA ta tb σ H Q=tA σ H fun c H1=>if c=true then ta σ H1 Q else tb σ H1 Q:=rfl
theorem HV{n:Nat}{R:St->Hp->Prop}:lr n v σ H R=R (σ.set n (some v)) H:=rfl
theorem Th{R:St->Hp->Prop}:FH [] σ H R=R σ H:=propext ⟨fun h=>h.2,fun h=>⟨rfl,h⟩⟩
theorem Tg{g:TG}{gs:kj}{vs:List V}{R:St->Hp->Prop}:FG g gs (v::vs) σ H R=g v σ H fun σ' H'=>gs vs σ' H' R:=propext ⟨fun⟨_,_,e,q⟩=>by cases e; exact q,fun q=>⟨_,_,rfl,q⟩⟩
theorem Tz{R:List V->Hp->Prop}:kD σ H R=R [] H:=rfl
theorem SU{tr:TA}{R:List V->Hp->Prop}:uL ta tr σ H R=ta σ H fun x H1=>tr σ H1 fun xs H2=>R (x::xs) H2:=rfl
theorem Ua{t:TA}:Ld t σ H Q=t σ H fun xs H1=>xs.length<=aY/\∀p,H1 p=none->Q (.ref p) (ah H1 p (.tup xs)):=rfl
theorem Ts{t:TA}:KQ t σ H Q=t σ H fun xs H1=>xs.length<=aY/\∀p,H1 p=none->Q (.ref p) (ah H1 p (.lst xs)):=rfl
theorem SR{sp:Sp}{E:XK}{t:TA}:rX sp [] E t σ H Q=t σ H fun vs H1=>sp (vs++[]) H1 Q E:=rfl
theorem Tt{C:aa}{sp:Sp}{E:XK}{t:TA}:uM C sp [] E t σ H Q=t σ H fun vs H1=>∀x dx,H1 x=none->H1 dx=none->dx≠x->sp (.ref x::(vs++[])) (ah (ah H1 dx (.own x)) x (.ins C dx [])) (fun v H2=>v=.non/\Q (.ref x) H2) E:=rfl
theorem SS{r:List V->Hp->VK->Prop}{t:TA}:xU r t σ H Q=t σ H fun vs H1=>r vs H1 Q:=rfl
theorem TB{R:Option Int->Hp->Prop}:KS σ H R=R none H:=rfl
theorem TM{R:Option Int->Hp->Prop}:KZ te σ H R=te σ H fun x H1=>∃i,x=.int i/\R (some i) H1:=rfl
theorem To{P:Int->Prop}:(∃k,V.int i=V.int k/\P k)=P i:=propext ⟨fun⟨_,e,q⟩=>by cases e; exact q,fun q=>⟨i,rfl,q⟩⟩
theorem TX{r:V->Option Int->Option Int->Hp->VK->Prop}{tl th:TO}:Lb r te tl th σ H Q=te σ H fun x H1=>tl σ H1 fun l H2=>th σ H2 fun u H3=>r x l u H3 Q:=rfl
theorem SO{T:String}{r:V->List V->Hp->VK->Prop}{t:TA}:Cp K T r ta t σ H Q=ta σ H fun x H1=>rY K T x H1/\t σ H1 fun xs H2=>r x xs H2 Q:=rfl
theorem SQ{T:String}{r:V->List V->Hp->VK->Prop}:KH K T r ta σ H Q=ta σ H fun x H1=>rY K T x H1/\r x [] H1 Q:=rfl
def sy(K:aw)(f:Str)(x:V)(H:Hp)(Q:VK):Prop:=∃a C dx fs v,x=.ref a/\H a=some (.ins C dx fs)/\dy K C/\cN K C f/\fs.lookup f=some v/\Q v H
theorem Te{f:Str}:xV K ta f σ H Q=ta σ H fun x H1=>sy K f x H1 Q:=rfl
def DX(K:aw)(f:Str)(x y:V)(H:Hp)(R:Hp->Prop):Prop:=∃a C dx fs,x=.ref a/\H a=some (.ins C dx fs)/\dy K C/\cN K C f/\fs.length<1000/\R (ah H a (.ins C dx (bT f y fs)))
theorem TV{f:Str}{tv:TE}:Ih K ta tv f D σ H=tv σ H fun y H1=>ta σ H1 fun x H2=>DX K f x y H2 fun H3=>D.nx σ H3:=rfl
def vw(J:It)(g:TG)(tb:TS)(D:iy)(σ:St)(H1:Hp):Prop:=∃W:Nat->Nat->St->Hp->Prop,(∃m,W 0 m σ H1)/\∀i m σ H,W i m σ H->
 (J.stop i H/\D.nx σ H)\/(J.go i H/\∃N:St->Hp->Prop,(∀σ' H',N σ' H'->∃m',m'<m/\W (i+1) m' σ' H')/\∀x H',J.yld i H x H'->g x σ H' fun σ2 H2=>tb {D with nx:=N,ct:=N,bk:=D.nx} σ2 H2)
theorem Tf{wi:TI}{g:TG}{tb:TS}:KN wi g tb D σ H=wi σ H fun J H1=>vw J g tb D σ H1:=rfl
def Ed(c:TT)(tb:TS)(D:iy)(σ:St)(H:Hp):Prop:=Cz c tb D σ H
theorem Ue{c:TT}{tb:TS}:Cz c tb D σ H=Ed c tb D σ H:=rfl
def vd(K:aw)(x:V)(H:Hp)(R:It->Hp->Prop):Prop:=∃a,x=.ref a/\(∃xs,ak K H a xs)/\R (lR K a) H
theorem Tp{R:It->Hp->Prop}:FR K ta σ H R=ta σ H fun x H1=>vd K x H1 R:=rfl
def yB(K:aw)(vs:List V)(H:Hp)(R:It->Hp->Prop):Prop:=∃a xs,vs=[.ref a]/\ak K H a xs/\R (yG K a) H
theorem Ti{t:TA}{R:It->Hp->Prop}:FQ K t σ H R=t σ H fun vs H1=>yB K vs H1 R:=rfl
def yC(vs:List V)(H:Hp)(R:It->Hp->Prop):Prop:=∃j:Int,vs=[.int j]/\ -(2^62)<=j/\j<2^62/\R (kN 0 j.toNat) H
theorem Tq{t:TA}{R:It->Hp->Prop}:FS t σ H R=t σ H fun vs H1=>yC vs H1 R:=rfl
def sv(J:It)(g:TG)(tt:TT)(te:TE)(vs:List Nat)(σ:St)(H1:Hp)(Q:VK):Prop:=∀D,H1 D=none->∃W:Nat->Nat->Hp->Prop,(∃m,W 0 m (ah H1 D (.lst [])))/\∀i m H,W i m H->
 (J.stop i H/\Q (.ref D) H)\/(J.go i H/\∃Nx:Hp->Prop,(∀H',Nx H'->∃m',m'<m/\W (i+1) m' H')/\∀x H',J.yld i H x H'->g x (cn σ vs) H' fun σ2 H2=>cn σ2 vs=cn σ vs/\tt σ2 H2 fun b H3=>
  if b=true then te σ2 H3 fun y H4=>∃acc,H4 D=some (.lst acc)/\acc.length<aY/\Nx (ah H4 D (.lst (acc++[y])))else Nx H3)
theorem Tr{wi:TI}{g:TG}{tt:TT}{vs:List Nat}:nV wi g tt te vs σ H Q=wi σ H fun J H1=>sv J g tt te vs σ H1 Q:=rfl
theorem HW{R:Bool->Hp->Prop}:CA σ H R=R true H:=rfl
theorem Ug:cn σ []=σ:=rfl
theorem Uh{n:Nat}{vs:List Nat}:cn σ (n::vs)=(cn σ vs).set n none:=rfl
def yw(x y:V)(H:Hp)(Q:VK):Prop:=∃a v,x=.ref a/\fj H a y (some v)/\Q v H
theorem SV{td ty:TE}:KI td ty σ H Q=td σ H fun x H1=>ty σ H1 fun y H2=>yw x y H2 Q:=rfl
def ql(n:Bool)(x y:V)(H:Hp)(Q:VK):Prop:=∃a o,x=.ref a/\fj H a y o/\Q (.bl (n^^o.isSome)) H
theorem SX{td ty:TE}:Cq ty td σ H Q=ty σ H fun y H1=>td σ H1 fun x H2=>ql false x y H2 Q:=by
 unfold Cq ql;simp only[qh]
theorem Ta{td ty:TE}:Cr ty td σ H Q=ty σ H fun y H1=>td σ H1 fun x H2=>ql true x y H2 Q:=by
 unfold Cr ql;simp only[qj]
def yx(x y v:V)(H:Hp)(R:Hp->Prop):Prop:=∃a H4,x=.ref a/\lO H a y v H4/\R H4
theorem Tb{td ty tv:TE}:Ig td ty tv D σ H=tv σ H fun v H1=>td σ H1 fun x H2=>ty σ H2 fun y H3=>yx x y v H3 fun H4=>D.nx σ H4:=rfl
theorem SY:KL σ H Q=∀p,H p=none->Q (.ref p) (ah H p (.dK [])):=rfl
theorem SZ:KM σ H Q=∀p,H p=none->Q (.ref p) (ah H p (.dT [])):=rfl
theorem TN{C:aa}{E:XK}{t:TA}:La C E t D σ H=t σ H fun vs H1=>vs.length<=aY/\E (.ref C) none H1:=rfl
variable{a p:aa}{xs ys:List V}
theorem bx{C dx:aa}{fs:List (Str×V)}{f:Str}(h:H a=some (.ins C dx fs))(c:dy K C)(n:cN K C f)(l:fs.lookup f=some v)(q:Q v H):sy K f (.ref a) H Q:=⟨a,C,dx,fs,v,rfl,h,c,n,l,q⟩
theorem fi{C dx:aa}{fs:List (Str×V)}{f:Str}{R:Hp->Prop}(h:H a=some (.ins C dx fs))(c:dy K C)(n:cN K C f)(l:fs.length<1000)(q:R (ah H a (.ins C dx (bT f y fs)))):DX K f (.ref a) y H R:=⟨a,C,dx,fs,rfl,h,c,n,l,q⟩
theorem fw{k:Nat}(h:ak K H a xs)(e:xs[k]?=some v)(q:Q v H):uw K (.ref a) (.int (k:Int)) H Q:=⟨a,xs,_,v,rfl,rfl,h,Em e,q⟩
theorem cG{k:Nat}(h:bQ K H a xs)(e:xs[k]?=some v)(q:Q v H):BJ K (.ref a) (.int (k:Int)) H Q:=⟨a,xs,_,v,rfl,rfl,h,Em e,q⟩
theorem iP{lo hi:Option Int}(h:ak K H a xs)(q:∀p,H p=none->Q (.ref p) (ah H p (.lst (dZ xs lo hi)))):mK K (.ref a) lo hi H Q:=⟨a,xs,rfl,h,q⟩
theorem eM(h:ak K H a xs):rY K "list" (.ref a) H:=.inl ⟨rfl,xs,h⟩
theorem fZ(h:H a=some (.lst xs))(l:xs.length<aY)(q:Q .non (ah H a (.lst (xs++[y])))):BI (.ref a) [y] H Q:=⟨a,xs,y,rfl,rfl,h,l,q⟩
theorem yk{b:aa}(h:H a=some (.lst xs))(hb:H b=some (.lst ys))(l:xs.length+ys.length<=aY)(q:Q .non (ah H a (.lst (xs++ys)))):HQ (.ref a) [.ref b] H Q:=⟨a,b,xs,ys,rfl,rfl,h,hb,l,q⟩
theorem sj{b:aa}(h:H a=some (.lst xs))(hb:H b=some (.lst ys))(l:xs.length+ys.length<=aY)(q:∀p,H p=none->Q (.ref p) (ah H p (.lst (xs++ys)))):uv (.ref a) (.ref b) H Q:=⟨a,b,xs,ys,rfl,rfl,h,hb,l,q⟩
theorem mO{kvs:List (aP×V)}{k:aP}(h:H a=some (.dK kvs))(e:cf kvs k=some v)(q:Q v H):yw (.ref a) (kV k) H Q:=⟨a,v,rfl,by rw[<-e]; exact fj.k h,q⟩
theorem uW{n:Bool}{kvs:List (aP×V)}{k:aP}(h:H a=some (.dK kvs))(q:Q (.bl (n^^(cf kvs k).isSome)) H):ql n (.ref a) (kV k) H Q:=⟨a,_,rfl,fj.k h,q⟩
theorem CS{kvs:List (aP×V)}{k:aP}{R:Hp->Prop}(h:H a=some (.dK kvs))(l:kvs.length<aY)(q:R (ah H a (.dK (dj kvs k v)))):yx (.ref a) (kV k) v H R:=⟨a,_,rfl,lO.k h l,q⟩
theorem jV{g:TG}{tb:TS}(h:ak K H a xs)(Pv:Nat->St->Hp->Prop)(h0:Pv 0 σ H)(hl:∀i σ H,i<=xs.length->Pv i σ H->ak K H a xs)
  (hs:∀i x σ H,xs[i]?=some x->Pv i σ H->g x σ H fun σ2 H2=>tb {D with nx:=Pv (i+1),ct:=Pv (i+1),bk:=D.nx} σ2 H2)(hd:∀σ H,Pv xs.length σ H->D.nx σ H):vd K (.ref a) H fun J H1=>vw J g tb D σ H1:=
 ⟨a,rfl,⟨xs,h⟩,Oj Pv h0 hl hs hd⟩
theorem qc{gs:kj}{tb:TS}(h:ak K H a xs)(Pv:Nat->St->Hp->Prop)(h0:Pv 0 σ H)(hl:∀i σ H,i<=xs.length->Pv i σ H->ak K H a xs)
  (hs:∀i x σ H T,xs[i]?=some x->Pv i σ H->H T=none->gs [.int (i:Nat),x] σ (ah H T (.tup [.int (i:Nat),x])) fun σ2 H2=>tb {D with nx:=Pv (i+1),ct:=Pv (i+1),bk:=D.nx} σ2 H2)(hd:∀σ H,Pv xs.length σ H->D.nx σ H):
  yB K [.ref a] H fun J H1=>vw J (wK K 2 gs) tb D σ H1:=by
 refine⟨a,xs,rfl,h,fun i m σ H=>m=xs.length-i/\i<=xs.length/\Pv i σ H,⟨xs.length,by simp,bC _,h0⟩,?_⟩;rintro i m σ H ⟨rfl,hi,p⟩;have q:=hl i σ H hi p;by_cases hlt:i<xs.length
 ·refine .inr ⟨⟨xs,xs[i],q,by simp[hlt]⟩,Pv (i+1),fun σ' H' p'=>⟨xs.length-(i+1),by omega,rfl,hlt,p'⟩,fun x H' y=>?_⟩;obtain⟨T,z,rfl,hT,rfl,e⟩:=y;exact⟨T,_,rfl,bQ.of ax,rfl,hs i z σ H T (e xs q) p hT⟩
 ·have e:i=xs.length:=by omega
  subst e;exact .inl ⟨⟨xs,q,aF _⟩,hd σ H p⟩
theorem Xd{g:TG}{tb:TS}{n:Nat}(hn:n<2^62)(Pv:Nat->St->Hp->Prop)(h0:Pv 0 σ H)
  (hs:∀i σ H,i<n->Pv i σ H->g (.int (i:Nat)) σ H fun σ2 H2=>tb {D with nx:=Pv (i+1),ct:=Pv (i+1),bk:=D.nx} σ2 H2)(hd:∀σ H,Pv n σ H->D.nx σ H):yC [.int (n:Nat)] H fun J H1=>vw J g tb D σ H1:=
 ⟨n,rfl,by omega,by omega,by
  rw[fm];exact Ol Pv h0 (fun i σ H hi p=>by rw[Int.zero_add]; exact hs i σ H hi p) hd⟩
theorem qd{c:TT}{tb:TS}(Pv:Nat->St->Hp->Prop)(h0:∃m,Pv m σ H)
  (hs:∀m σ H,Pv m σ H->c σ H fun b H1=>if b=true then∃N:St->Hp->Prop,(∀σ' H',N σ' H'->∃m',m'<m/\Pv m' σ' H')/\tb {D with nx:=N,ct:=N,bk:=D.nx} σ H1 else D.nx σ H1):Ed c tb D σ H:=⟨Pv,h0,hs⟩
theorem gR{g:TG}{tt:TT}{vs:List Nat}(h:ak K H a xs)(Pv:aa->Nat->Hp->Prop)(h0:∀D,H D=none->Pv D 0 (ah H D (.lst [])))(hl:∀D i H,i<=xs.length->Pv D i H->ak K H a xs)
  (hs:∀D i x H,xs[i]?=some x->Pv D i H->g x (cn σ vs) H fun σ2 H2=>cn σ2 vs=cn σ vs/\tt σ2 H2 fun b H3=>
   if b=true then te σ2 H3 fun y H4=>∃acc,H4 D=some (.lst acc)/\acc.length<aY/\Pv D (i+1) (ah H4 D (.lst (acc++[y])))else Pv D (i+1) H3)(hd:∀D H,Pv D xs.length H->Q (.ref D) H):
  vd K (.ref a) H fun J H1=>sv J g tt te vs σ H1 Q:=
 ⟨a,rfl,⟨xs,h⟩,fun D hD=>OQ (Pv D) (h0 D hD) (hl D) (hs D) (hd D)⟩
theorem WW{gs:kj}{tt:TT}{vs:List Nat}(h:ak K H a xs)(Pv:aa->Nat->Hp->Prop)(h0:∀D,H D=none->Pv D 0 (ah H D (.lst [])))(hl:∀D i H,i<=xs.length->Pv D i H->ak K H a xs)
  (hs:∀D i x H T,xs[i]?=some x->Pv D i H->H T=none->gs [.int (i:Nat),x] (cn σ vs) (ah H T (.tup [.int (i:Nat),x])) fun σ2 H2=>cn σ2 vs=cn σ vs/\tt σ2 H2 fun b H3=>
   if b=true then te σ2 H3 fun y H4=>∃acc,H4 D=some (.lst acc)/\acc.length<aY/\Pv D (i+1) (ah H4 D (.lst (acc++[y])))else Pv D (i+1) H3)(hd:∀D H,Pv D xs.length H->Q (.ref D) H):
  yB K [.ref a] H fun J H1=>sv J (wK K 2 gs) tt te vs σ H1 Q:=by
 refine⟨a,xs,rfl,h,fun D hD=>⟨fun i m H=>m=xs.length-i/\i<=xs.length/\Pv D i H,⟨xs.length,by simp,bC _,h0 D hD⟩,?_⟩⟩;rintro i m H ⟨rfl,hi,p⟩;have q:=hl D i H hi p;by_cases hlt:i<xs.length
 ·refine .inr ⟨⟨xs,xs[i],q,by simp[hlt]⟩,Pv D (i+1),fun H' p'=>⟨xs.length-(i+1),by omega,rfl,hlt,p'⟩,fun x H' y=>?_⟩;obtain⟨T,z,rfl,hT,rfl,e⟩:=y;exact⟨T,_,rfl,bQ.of ax,rfl,hs D i z H T (e xs q) p hT⟩
 ·have e:i=xs.length:=by omega
  subst e;exact .inl ⟨⟨xs,q,aF _⟩,hd D H p⟩
theorem WX{g:TG}{tt:TT}{vs:List Nat}{n:Nat}(hn:n<2^62)(Pv:aa->Nat->Hp->Prop)(h0:∀D,H D=none->Pv D 0 (ah H D (.lst [])))
  (hs:∀D i H,i<n->Pv D i H->g (.int (i:Nat)) (cn σ vs) H fun σ2 H2=>cn σ2 vs=cn σ vs/\tt σ2 H2 fun b H3=>
   if b=true then te σ2 H3 fun y H4=>∃acc,H4 D=some (.lst acc)/\acc.length<aY/\Pv D (i+1) (ah H4 D (.lst (acc++[y])))else Pv D (i+1) H3)(hd:∀D H,Pv D n H->Q (.ref D) H):
  yC [.int (n:Nat)] H fun J H1=>sv J g tt te vs σ H1 Q:=
 ⟨n,rfl,by omega,by omega,fun D hD=>by
  rw[fm];exact OR (Pv D) (h0 D hD) (fun i H hi p=>by rw[Int.zero_add]; exact hs D i H hi p) (hd D)⟩
end
section
variable(P:aO)(w:aN)(K:aw)(mg:Str->Option ae)(base:aC)(CX:jo)
def Kn(x:Str)(k:Nat)(ps:List Str)(sp:Sp):Prop:=∃f fd,gd P w K mg base CX k f fd ps sp/\mg x=some (.ref f)/\kg K (.ref f)=true/\Binds K fd ps []
def cM(C:aa)(m:Str)(k:Nat)(ps:List Str)(sp:Sp):Prop:=∃f fd,gd P w K mg base CX k f fd ps sp/\qz K C m f/\Binds K fd ps []
def fA(C:aa)(x:Str)(k:Nat)(ps:List Str)(sp:Sp):Prop:=∃f fd,gd P w K mg base CX k f fd ps sp/\Mk K C f/\mg x=some (.ref C)/\Binds K fd ps []
end
def Df(K:aw)(mg:Str->Option ae)(x:Str)(st:aH)(ps:List Str):Prop:=∃f fd,kK K x x st f fd/\mg x=some (.ref f)/\Binds K fd ps []
def gA(K:aw)(C:aa)(m q:Str)(st:aH)(ps:List Str):Prop:=∃f fd,kK K m q st f fd/\qz K C m f/\Binds K fd ps []
def kJ(K:aw)(mg:Str->Option ae)(C:aa)(x q:Str)(st:aH)(ps:List Str):Prop:=∃f fd,kK K "__init__" q st f fd/\Mk K C f/\mg x=some (.ref C)/\Binds K fd ps []
def cT(mg:Str->Option ae)(x:Str)(i:Int):Prop:=∃u,mg x=some u/\RelV (.int i) u
section
variable{X:Cx}{CX:jo}{x m:Str}{k:Nat}{ps:List Str}{sp:Sp}{E:XK}{p pos apos:Pos}{e o:aJ}{es:List aJ}{t:TA}{ta:TE}{C:aa}
theorem bB{i:Int}(h:cT X.mg x i)(hg:Gl X x)(hd:(x==("__debug__":Str))=false:=by decide):PE X (.Name x pos) (tC (.int i)):=by
 obtain⟨u,h1,h2⟩:=h;exact RW hg h1 h2 hd
theorem il(F:Kn X.prog X.w X.K X.mg X.base CX x k ps sp)(hr:cy k X.A)(hx:gC CX X E)(hg:Gl X x)(ha:PA X (e::es) t)(hdb:(x==("__debug__":Str))=false:=by decide)
  (he:bN (e::es) X.env=(false,bw e X.env)::bN es X.env:=by rfl)(hpl:(dX pos (bN es X.env)).any (·.1)=false:=by rfl):
  PE X (.Call (.Name x p) (e::es) [] pos) (rX sp [] E t):=by
 obtain⟨f,fd,F,h1,h2,h3⟩:=F;exact RP F hr hg h1 h2 h3 .nil hx ha hdb he hpl
theorem hJ(F:Kn X.prog X.w X.K X.mg X.base CX x k ps sp)(hr:cy k X.A)(hx:gC CX X E)(hg:Gl X x)(hdb:(x==("__debug__":Str))=false:=by decide):PE X (.Call (.Name x p) [] [] pos) (rX sp [] E kD):=by
 obtain⟨f,fd,F,h1,h2,h3⟩:=F;exact RQ F hr hg h1 h2 h3 .nil hx hdb
theorem jM(F:fA X.prog X.w X.K X.mg X.base CX C x k ps sp)(hr:cy (k+1) X.A)(hx:gC CX X E)(hg:Gl X x)(ha:PA X (e::es) t)(hdb:(x==("__debug__":Str))=false:=by decide)
  (he:bN (e::es) X.env=(false,bw e X.env)::bN es X.env:=by rfl)(hpl:(dX pos (bN es X.env)).any (·.1)=false:=by rfl):
  PE X (.Call (.Name x p) (e::es) [] pos) (uM C sp [] E t):=by
 obtain⟨f,fd,F,h1,h2,h3⟩:=F;exact RY h1 F hr hg h2 h3 .nil hx ha hdb he hpl
theorem HI(F:fA X.prog X.w X.K X.mg X.base CX C x k ps sp)(hr:cy (k+1) X.A)(hx:gC CX X E)(hg:Gl X x)(hdb:(x==("__debug__":Str))=false:=by decide):PE X (.Call (.Name x p) [] [] pos) (uM C sp [] E kD):=by
 obtain⟨f,fd,F,h1,h2,h3⟩:=F;exact RZ h1 F hr hg h2 h3 .nil hx hdb
theorem hU{pl:Sem Bool}(he:PE X o ta)(c:dy X.K C)(F:cM X.prog X.w X.K X.mg X.base CX C m k ps sp)(hr:cy k X.A)(hx:gC CX X E)(ha:PA X (e::es) t)
  (hst:bN (e::es) X.env=(false,bw e X.env)::bN es X.env:=by rfl)(hpl:(dX pos (bN es X.env)).any (·.1)=false:=by rfl)
  (ht:bw (.Call (.Attribute o m apos) (e::es) [] pos) X.env=(do
   let ov<-bw o X.env
   standAt apos.atName
   let(f,first)<-holding [ov] (rm ov m pl)
   callWith pos f first (dX pos (bN (e::es) X.env)) (oZ pos (pE [] X.env))):=by rfl):
  PE X (.Call (.Attribute o m apos) (e::es) [] pos) (uN C m sp [] E ta t):=by
 obtain⟨f,fd,F,h1,h2⟩:=F;exact Sd he c h1 F hr h2 .nil hx ha hst hpl ht
theorem hV{pl:Sem Bool}(he:PE X o ta)(c:dy X.K C)(F:cM X.prog X.w X.K X.mg X.base CX C m k ps sp)(hr:cy k X.A)(hx:gC CX X E)
  (ht:bw (.Call (.Attribute o m apos) [] [] pos) X.env=(do
   let ov<-bw o X.env
   standAt apos.atName
   let(f,first)<-holding [ov] (rm ov m pl)
   callWith pos f first (dX pos (bN [] X.env)) (oZ pos (pE [] X.env))):=by rfl):
  PE X (.Call (.Attribute o m apos) [] [] pos) (uN C m sp [] E ta kD):=by
 obtain⟨f,fd,F,h1,h2⟩:=F;exact Se he c h1 F hr h2 .nil hx ht
def vx(C:aa)(m:Str)(x:V)(H:Hp)(R:Prop):Prop:=∃a dx fs,x=.ref a/\H a=some (.ins C dx fs)/\fs.lookup m=none/\R
theorem Tu{σ:St}{H:Hp}{Q:VK}:uN C m sp [] E ta t σ H Q=ta σ H fun x H1=>vx C m x H1 (t σ H1 fun vs H2=>sp (x::(vs++[])) H2 Q E):=rfl
theorem eK{H:Hp}{R:Prop}{a dx:aa}{fs:List (Str×V)}(h:H a=some (.ins C dx fs))(l:fs.lookup m=none)(q:R):vx C m (.ref a) H R:=⟨a,dx,fs,rfl,h,l,q⟩
end
section
variable{X:Cx}{x:Str}{e:aJ}{es:List aJ}{te:TE}{t:TA}{p pos pos':Pos}
theorem pS(i:Nat)(hN:X.N.Nodup)(he:PE X e te)(hi:X.N[i]?=some x:=by rfl)(hx:Loc X.env.scope x:=by first|exact Or.inl rfl|exact kU rfl)(hs:nU e (some (.Name x pos')) pos.line X.env=pure false:=by rfl)(hf:X.fn x=true\/X.env.scope.names.lookup x=some .local:=by first|exact .inl rfl|exact .inr rfl|assumption):PS X (.Assign [.Name x pos'] e pos) (uK te (lr i)):=Sq hN hi hx he hs hf
theorem gN(i:Nat)(hN:X.N.Nodup)(hi:X.N[i]?=some x:=by rfl)(hx:Loc X.env.scope x:=by first|exact Or.inl rfl|exact kU rfl)(hf:X.fn x=true\/X.env.scope.names.lookup x=some .local:=by first|exact .inl rfl|exact .inr rfl|assumption):PG X (.Name x pos) (lr i):=Sh hN hi hx hf
theorem cF{j k:Nat}{ps:List Str}{sp:Sp}(F:Kn X.prog X.w X.K X.mg X.base aX x j ps sp)(hr:cy k X.A)(ha:PA X (e::es) t)(hk:j<=k:=by decide)(hg:Gl X x:=by rfl)(hdb:(x==("__debug__":Str))=false:=by decide)(he:bN (e::es) X.env=(false,bw e X.env)::bN es X.env:=by rfl)(hpl:(dX pos (bN es X.env)).any (·.1)=false:=by rfl):PE X (.Call (.Name x p) (e::es) [] pos) (rX sp [] E0 t):=il F (hr.mono hk) bA hg ha hdb he hpl
theorem bo{N P:List Str}{sc:cR}(a:sc.kind=.function:=by rfl)(b:sc.isCoroutine=false:=by rfl)(c:sc.isGenerator=false:=by rfl)(d:N.Nodup:=by decide +kernel)(f:N.take P.length=P:=by rfl)(g:∀x∈P,sc.names.lookup x=some .local\/sc.names.lookup x=some .cell:=by decide +kernel)(h:∀y∈sc.names,y.2≠.free:=by decide +kernel):aW N P sc:=⟨a,b,c,d,f,g,h⟩
end
theorem AM(x:Nat):x%2=(x.testBit 0).toNat:=by
 rw[Nat.testBit_zero];by_cases h:x%2=1
 ·rw[h]; rfl
 ·have:x%2=0:=by omega
  rw[this]; rfl
theorem RB:∀(m n:Nat),(m|||n)=(m^^^n)+(m&&&n):=by
 intro m
 induction m using Nat.strongRecOn with
 |_ m ih=>
  intro n;by_cases hm:m=0
  ·subst hm; simp
  ·have h:=ih (m / 2) (by omega) (n / 2);rw[<-Nat.or_div_two,<-Nat.xor_div_two,<-Nat.and_div_two]at h;have e1:=AM (m|||n);have e2:=AM (m^^^n);have e3:=AM (m&&&n);rw[zc]at e1;rw[zd]at e2;rw[lX]at e3
   have f:(m.testBit 0||n.testBit 0).toNat=(m.testBit 0^^n.testBit 0).toNat+(m.testBit 0&&n.testBit 0).toNat:=by
    cases m.testBit 0<;>cases n.testBit 0<;>rfl
   omega
theorem ny(m n:Nat):vb (m:Int) (n:Int)=((m&&&n:Nat):Int):=by
 rw[bitAnd_pp (by omega) (by omega)];rfl
theorem tD(m n:Nat):Builtin.bitOr (m:Int) (n:Int)=((m|||n:Nat):Int):=by
 unfold Builtin.bitOr CW;rw[bitAnd_nn (by omega) (by omega)];unfold CW;rw[show(-(-(m:Int)-1)-1).toNat=m by omega,show(-(-(n:Int)-1)-1).toNat=n by omega];omega
theorem zK(m n:Nat):CY (m:Int) (n:Int)=((m^^^n:Nat):Int):=by
 unfold CY;rw[tD,ny,RB];omega
theorem UD(m k:Nat):(m:Int) / 2^k=((m>>>k:Nat):Int):=by
 rw[Nat.shiftRight_eq_div_pow];have:((2:Int)^k)=((2^k:Nat):Int):=by rw[Dj]; rfl
 rw[this];rfl
theorem xK(m k:Nat):(m:Int)*2^k=((m<<<k:Nat):Int):=by
 rw[DC];have:((2:Int)^k)=((2^k:Nat):Int):=by rw[Dj]; rfl
 rw[this];rfl
theorem MR(m k:Nat):decide (((m>>>k&&&1:Nat):Int)=1)=m.testBit k:=by
 rw[Nat.testBit];have:1&&&m>>>k=m>>>k&&&1:=Nat.and_comm _ _;rw[this,Nat.and_one_is_mod];by_cases h:(m>>>k)%2=1
 ·rw[h]; rfl
 ·have:(m>>>k)%2=0:=by omega
  rw[this]; rfl
section
variable{X:Cx}
def CZ(i j:Int):Prop:=0<=j/\(lN i:Int)+j<=2^27
theorem ji:dr X (nz .LShift) (rI CZ fun i j=>.int (i*2^j.toNat)):=Hr fun _ _ _ _ _ _ _ hc q=>lshift_int hc.1 hc.2 q
theorem jf{m k n:Nat}(h:m<2^n)(hk:n+k<=2^27):CZ (m:Int) (k:Int):=by
 have:lN (m:Int)<=n:=vQ.mpr (by rw[yD]; exact h);exact⟨by omega,by omega⟩
def HP:V->List V->Hp->VK->Prop:=fun x xs H Q=>∃i,x=.int i/\xs=[]/\Q (.int (lN i:Nat)) H
theorem GP:yX X "int.bit_length" HP:=by
 intro pins s σ H x xs v us Q I rx rs h;obtain⟨i,rfl,rfl,q⟩:=h;obtain⟨t,rfl⟩:=rx;cases rs;exact call_int_bit_length ⟨.int _,H,I.tok _,⟨_,rfl⟩,q⟩
def fS(ns:List Int):jz:=.list (ns.map sT)
theorem Fo{K:aw}{H:Hp}:∀(ns:List Int),mU K H (ns.map V.int) (ns.map sT)
 | []=>.nil
 |n::ns=>.cons (.int n) (Fo ns)
theorem rg{K:aw}{H:Hp}{a:aa}{ns:List Int}(h:ak K H a (ns.map V.int)):Dp K H (.ref a) (fS ns):=.lst h (Fo ns)
theorem Gk:∀(ns:List Int),sS (ns.map sT)=true
 | []=>by simp[sS]
 |n::ns=>by simp[sS,jz.canLay0,Gk ns]
theorem Fg:∀(ns:List Int),zf (ns.map sT)=0
 | []=>by simp[zf]
 |n::ns=>by simp[zf,jz.depth,Fg ns]
theorem Ap(ns:List Int):(fS ns).canLay0=true:=by
 unfold fS jz.canLay0;exact Gk ns
theorem Ff(ns:List Int):(fS ns).depth=1:=by
 unfold fS jz.depth;rw[Fg]
theorem xI(ns:List Int):sW (fS ns)=true:=by
 unfold sW;rw[Ap,Ff];rfl
theorem Fx:∀(ns ms:List Int),vK (ns.map sT) (ms.map sT)=decide (ns=ms)
 | [],[]=>by simp[vK]
 | [],_::_=>by simp[vK]
 |_::_,[]=>by simp[vK]
 |n::ns,m::ms=>by
  rw[cV,cV];simp only[vK,oN];rw[Fx ns ms];by_cases h1:n=m
  ·by_cases h2:ns=ms
   ·subst h1 h2; simp
   ·simp[h1,h2]
  ·simp[h1]
theorem wI(ns ms:List Int):oN (fS ns) (fS ms)=decide (ns=ms):=by
 unfold fS;simp only[oN];exact Fx ns ms
def xC(K:aw):R2:=fun x y H Q=>∃(a b:aa)(ns ms:List Int),x=.ref a/\y=.ref b/\ak K H a (ns.map V.int)/\ak K H b (ms.map V.int)/\Q (.bl (decide (ns=ms))) H
def HR(K:aw):R2:=fun x y H Q=>∃(a b:aa)(ns ms:List Int),x=.ref a/\y=.ref b/\ak K H a (ns.map V.int)/\ak K H b (ms.map V.int)/\Q (.bl (!decide (ns=ms))) H
theorem mF(hu:X.A.units+64<gn):dr X (fG .Eq) (xC X.K):=by
 intro pins s σ H x y v u Q I rx ry h;obtain⟨a,b,ns,ms,rfl,rfl,h1,h2,q⟩:=h;rw[<-wI]at q;exact Rx hu pins s σ H _ _ v u Q I rx ry ⟨_,_,rg h1,rg h2,xI _,xI _,q⟩
theorem Bh(hu:X.A.units+64<gn):dr X (fG .NotEq) (HR X.K):=by
 intro pins s σ H x y v u Q I rx ry h;obtain⟨a,b,ns,ms,rfl,rfl,h1,h2,q⟩:=h;rw[<-wI]at q;exact Ry hu pins s σ H _ _ v u Q I rx ry ⟨_,_,rg h1,rg h2,xI _,xI _,q⟩
theorem Fp{K:aw}{H:Hp}:∀{as:List aa}{rows:List (List Int)},bH (fun p r=>ak K H p (r.map V.int)) as rows->mU K H (as.map V.ref) (rows.map fS)
 |_,_,.nil=>.nil
 |_,_,.cons h t=>.cons (rg h) (Fp t)
theorem Gm:∀(rows:List (List Int)),sS (rows.map fS)=true
 | []=>by simp[sS]
 |r::rows=>by simp[sS,Ap,Gm rows]
def HS(K:aw):R2:=fun x y H Q=>∃(a p:aa)(ns:List Int)(as:List aa)(rows:List (List Int)),x=.ref a/\y=.ref p/\ak K H a (ns.map V.int)/\bQ K H p (as.map V.ref)/\bH (fun p r=>ak K H p (r.map V.int)) as rows/\Q (.bl (!decide (ns∈rows))) H
theorem Rz(hu:X.A.units+64<gn):dr X (fG .NotIn) (HS X.K):=by
 intro pins s σ H x y v u Q I rx ry h;obtain⟨a,p,ns,as,rows,rfl,rfl,h1,h2,h3,q⟩:=h;obtain⟨a1,r1⟩:=Dp.reads I _ _ v (rg h1) rx;obtain⟨a2,r2⟩:=Dp.reads I (.tuple (rows.map fS)) _ u (.tup h2 (Fp h3)) ry;refine SeqAt.notIn_tuple_reads r2 r1 (Gm rows) (Ap ns) ?_ ⟨.bl _,H,I,rfl,?_⟩
 ·rw[Ff];have:=Nat.min_le_right (zf (rows.map fS)) 1;omega
 ·have e:((rows.map fS).any fun y=>oN y (fS ns))=decide (ns∈rows):=by
   rw[vj];by_cases hm:ns∈rows
   ·rw[dT hm,ow];exact⟨ns,hm,by show oN (fS ns) (fS ns)=true; rw[wI]; simp⟩
   ·rw[dF hm,vi];intro r hr z;have z:oN (fS r) (fS ns)=true:=z;rw[wI,decide_eq_true_iff]at z;exact hm (z▸hr)
  rw[e];exact q
def Sx(K:aw):R2:=fun x y H Q=>∃a b xs,x=.ref a/\y=.ref b/\ak K H a xs/\ak K H b []/\Q (.bl (decide (xs=[]))) H
theorem Rw(hu:X.A.units+64<gn):dr X (fG .Eq) (Sx X.K):=by
 intro pins s σ H x y v u Q I rx ry h;obtain⟨a,b,xs,rfl,rfl,h1,h2,q⟩:=h;cases rx;cases ry;obtain⟨its,r,pl,hz⟩:=I.list h1;obtain⟨its2,r2,pl2,hz2⟩:=I.list h2;cases r2;by_cases e:xs=[]
 ·subst e;cases r;refine SeqAt.eq_listAt (e:=fun _=>true) pl.isList pl2.isList rfl (by omega) (fun j h1 h2=>absurd h1 (Nat.not_lt_zero _)) ?_
  ·exact⟨.bl _,H,I,rfl,by simpa using q⟩
 ·refine SeqAt.eq_list_lengthsAt pl.isList pl2.isList ?_ (by omega) ⟨.bl _,H,I,rfl,?_⟩
  ·have:=r.length;have h3:its.length≠0:=fun z=>e (mV.mp (by omega));simpa using h3
  ·rw[dF e]at q;exact q
def vf(K:aw)(vs:List V)(H:Hp)(Q:VK):Prop:=∃p ys,vs=[.ref p]/\(ak K H p ys\/bQ K H p ys)/\Q (.int ys.length) H
theorem EU:jq X (.builtin "len") (vf X.K):=Nd
end
section
variable{K:aw}{H:Hp}{Q:VK}{a b:aa}{xs:List V}
theorem cw(h:ak K H a xs)(q:Q (.int (xs.length:Nat)) H):vf K [.ref a] H Q:=⟨a,xs,rfl,.inl h,q⟩
theorem mP{ns ms:List Int}(h1:ak K H a (ns.map V.int))(h2:ak K H b (ms.map V.int))(q:Q (.bl (decide (ns=ms))) H):xC K (.ref a) (.ref b) H Q:=⟨a,b,ns,ms,rfl,rfl,h1,h2,q⟩
theorem CT{ns ms:List Int}(h1:ak K H a (ns.map V.int))(h2:ak K H b (ms.map V.int))(q:Q (.bl (!decide (ns=ms))) H):HR K (.ref a) (.ref b) H Q:=⟨a,b,ns,ms,rfl,rfl,h1,h2,q⟩
theorem yl{n:Bool}{x:V}(h:ak K H a xs)(f1:iK x=true)(f2:xs.all iK=true)(q:Q (.bl (if n then !gw x xs else gw x xs)) H):pU K n x (.ref a) H Q:=⟨a,xs,rfl,.inl h,f1,f2,q⟩
theorem WV{n:Bool}{x:V}(h:bQ K H a xs)(f1:iK x=true)(f2:xs.all iK=true)(q:Q (.bl (if n then !gw x xs else gw x xs)) H):pU K n x (.ref a) H Q:=⟨a,xs,rfl,.inr h,f1,f2,q⟩
theorem Lx{i:Int}(q:Q (.int (lN i:Nat)) H):HP (.int i) [] H Q:=⟨i,rfl,rfl,q⟩
end
section
variable{X:Cx}{e:aJ}{te:TE}{p pos:Pos}
theorem cL(hm:X.mg "len"=none)(he:PE X e te)(hg:Gl X "len":=by rfl)(h1:bN [e] X.env=[(false,bw e X.env)]:=by rfl):PE X (.Call (.Name "len" p) [e] [] pos) (xU (vf X.K) (uL te kD)):=jL EU hg hm zr (af he ao h1) (by decide) (by decide) h1 rfl
end
def top(i:Nat):aH:=WZ.main.body.getD i (.Pass ⟨0,0,0,0⟩)
abbrev Jm:aH:=top 13
abbrev Ja:aH:=top 14
abbrev Jb:aH:=top 15
abbrev IT:aH:=top 16
abbrev Jg:aH:=top 17
abbrev Ji:aH:=top 19
abbrev Jj:aH:=top 20
abbrev IS:aH:=top 21
abbrev BV:aH:=top 22
abbrev IU:aH:=top 23
abbrev Ij:aH:=inClass (top 27) 0
abbrev IR:aH:=top 28
abbrev Jn:aH:=top 29
abbrev Jk:aH:=top 30
abbrev IQ:aH:=top 31
abbrev JH:aH:=top 32
abbrev JG:aH:=top 33
abbrev IM:aH:=top 34
abbrev Jc:aH:=top 35
abbrev Ik:aH:=inClass (top 41) 0
abbrev Iu:aH:=inClass (top 42) 0
abbrev Iv:aH:=inClass (top 42) 1
abbrev Jo:aH:=top 43
abbrev Jt:aH:=top 44
abbrev Jq:aH:=top 45
abbrev JF:aH:=top 46
abbrev IP:aH:=top 47
abbrev Jy:aH:=top 49
abbrev Jx:aH:=top 50
abbrev JB:aH:=top 51
abbrev JC:aH:=top 52
abbrev Jw:aH:=top 53
abbrev Io:aH:=inClass (top 55) 0
abbrev Im:aH:=inClass (top 55) 1
abbrev Ir:aH:=inClass (top 55) 2
abbrev Il:aH:=inClass (top 55) 3
abbrev Ip:aH:=inClass (top 55) 4
abbrev Iq:aH:=inClass (top 55) 5
abbrev Ju:aH:=top 56
abbrev Iz:aH:=inClass (top 58) 0
abbrev Jv:aH:=top 59
abbrev Jl:aH:=top 60
abbrev IZ:aH:=top 61
abbrev Jp:aH:=top 62
abbrev JE:aH:=top 63
abbrev JA:aH:=top 64
abbrev Jz:aH:=top 65
abbrev Js:aH:=top 67
abbrev IV:aH:=top 68
abbrev Jh:aH:=top 69
abbrev JI:aH:=top 70
abbrev Jf:aH:=top 71
abbrev IX:aH:=top 77
abbrev IW:aH:=top 78
abbrev Jr:aH:=top 79
abbrev Je:aH:=top 80
abbrev Jd:aH:=top 81
abbrev Iw:aH:=inClass (top 87) 0
abbrev Iy:aH:=inClass (top 87) 1
abbrev JD:aH:=top 88
abbrev IY:aH:=top 89
abbrev IH:aH:=inClass (top 90) 0
abbrev IE:aH:=inClass (top 90) 1
abbrev IG:aH:=inClass (top 90) 2
abbrev II:aH:=inClass (top 90) 3
abbrev IF:aH:=inClass (top 90) 4
abbrev IJ:aH:=inClass (top 90) 5
abbrev IB:aH:=inClass (top 100) 0
abbrev IA:aH:=inClass (top 100) 1
abbrev IC:aH:=inClass (top 100) 2
abbrev ID:aH:=inClass (top 100) 3
abbrev IK:aH:=top 101
abbrev IL:aH:=top 102
structure Ad extends Cn where
 machine:aa
 pairs:aa
 pattern:aa
 plist:aa
 store:aa
 reader:aa
 fault:aa
structure ba(K:aw)(mg:Str->Option ae)(A:Ad):Prop where
 XO:cT mg "LINE_FEED" 10
 XZ:cT mg "BANG" 33
 ZH:cT mg "HASH" 35
 Xt:cT mg "STAR" 42
 Yb:cT mg "DASH" 45
 XG:cT mg "DOT" 46
 Xk:cT mg "SLASH" 47
 ZV:cT mg "QUESTION" 63
 ZU:cT mg "OPEN_BRACKET" 91
 XY:cT mg "BACKSLASH" 92
 Ya:cT mg "CLOSE_BRACKET" 93
 ZQ:cT mg "MOST_PATH_BYTES" 256
 Yc:cT mg "PART_BEGINS" 0
 ZT:cT mg "ONE_DOT" 1
 ZX:cT mg "TWO_DOTS" 2
 XB:cT mg "WITHIN_PART" 3
 ZL:cT mg "MOST_FITS_BYTES" 128
 ZM:cT mg "MOST_LEAST_BYTES" 64
 ZN:cT mg "MOST_LEAST_LINE_BYTES" 24
 ZO:cT mg "MOST_LEAST_PATTERNS" 2
 ZS:cT mg "MOST_TEXT_BYTES" 512
 ZP:cT mg "MOST_LISTS" 16
 ZR:cT mg "MOST_PATTERNS" 64
 ZK:cT mg "MOST_BYTES" 2048
 ZD:cT mg "ADD" 0
 ZF:cT mg "DROP" 1
 ZJ:cT mg "LISTS" 2
 ZE:cT mg "BECOMES" 3
 ZW:cT mg "RULE" 4
 ZG:cT mg "FITS" 5
 ZI:cT mg "LEAST" 6
 Xe:mg "len"=none
 Xo:mg "enumerate"=none
 XR:mg "range"=none
 Yd:mg "all"=none
 Ye:mg "any"=none
 XT:mg "sum"=none
 Yf:mg "max"=none
 XQ:mg "min"=none
 XS:mg "sorted"=none
 Yg:mg "set"=none
 Xp:dy K A.cell
 XI:cN K A.cell "stays"
 XH:cN K A.cell "moves"
 XU:cN K A.cell "optional"
 Xh:dy K A.machine
 Xx:cN K A.machine "starts"
 Xw:cN K A.machine "end"
 Xu:cN K A.machine "steps"
 Xj:dy K A.pairs
 Xz:cN K A.pairs "met"
 XA:cN K A.pairs "numbers"
 Xg:dy K A.mat
 Xv:cN K A.mat "cells"
 XJ:cN K A.mat "optional"
 Xy:cN K A.mat "steps"
 Xl:dy K A.pattern
 XE:cN K A.pattern "keeps"
 XM:cN K A.pattern "for_directories"
 XX:cN K A.pattern "anchored"
 XN:cN K A.pattern "matcher"
 Xm:dy K A.plist
 XC:cN K A.plist "directory"
 XW:cN K A.plist "size"
 XD:cN K A.plist "lines"
 Xi:dy K A.store
 Xn:cN K A.store "lists"
 Xf:dy K A.reader
 XF:cN K A.reader "calls"
 Xs:cN K A.reader "place"
 Xq:mg "LineFault"=some (.ref A.fault)
 Xr:PySem.W.excIn K A.fault [.type "ValueError",.type "Exception",.type "BaseException",.type "object"] "ValueError.__new__"=true
 YI:Df K mg "parted" Jm ["row","sign"]
 Yv:Df K mg "is_part" Ja ["part"]
 Yw:Df K mg "is_path" Jb ["row"]
 Yo:Df K mg "entry_ends" IT ["path"]
 YB:Df K mg "lies_below" Jg ["path","directory"]
 YE:Df K mg "matched_ends" Ji ["pattern","is_directory","rest"]
 YF:Df K mg "matches" Jj ["pattern","is_directory","path"]
 Yn:Df K mg "choose_lines" IS ["chosen","number","pattern_list","is_directory","path"]
 YC:Df K mg "lines_that_count" BV ["lists","is_directory","path"]
 Yp:Df K mg "fate" IU ["lists","is_directory","path"]
 Ym:Df K mg "bytes_between" IR ["low","high"]
 YJ:Df K mg "path_bytes" Jn []
 YG:Df K mg "part_bytes" Jk []
 Yl:Df K mg "byte_cell" IQ ["byte_set"]
 Zd:Df K mg "star_cell" JH []
 Zc:Df K mg "slash_cell" JG []
 Yj:Df K mg "any_parts_cell" IM []
 Yx:Df K mg "last_parts_cell" Jc []
 YK:Df K mg "path_machine" Jo []
 YP:Df K mg "places_in" Jt ["places"]
 YM:Df K mg "pattern_machine" Jq ["matcher"]
 Zb:Df K mg "shared_steps" JF ["first_steps","second_steps","pairs"]
 Yk:Df K mg "both" IP ["first","second"]
 YU:Df K mg "read_escaped" Jy ["part","place"]
 YT:Df K mg "read_class_byte" Jx ["part","place"]
 YX:Df K mg "read_stretch" JB ["part","place"]
 YY:Df K mg "read_stretches" JC ["part","place"]
 YS:Df K mg "read_class" Jw ["part","place"]
 YQ:Df K mg "places_of" Ju ["marks"]
 YR:Df K mg "read_cell" Jv ["part","place"]
 YH:Df K mg "part_cells" Jl ["part"]
 Yu:Df K mg "is_many_parts" IZ ["part"]
 YL:Df K mg "pattern_cells" Jp ["parts"]
 Za:Df K mg "says_nothing" JE ["line"]
 YW:Df K mg "read_pattern" JA ["line"]
 YV:Df K mg "read_line" Jz ["line"]
 YO:Df K mg "places_before" Js ["machine"]
 Yq:Df K mg "fewest_bytes_left" IV ["machine"]
 YD:Df K mg "lowest_byte" Jh ["byte_set"]
 Ze:Df K mg "steps_to" JI ["machine","places","left","many"]
 YA:Df K mg "least_row" Jf ["machine"]
 Ys:Df K mg "fits_pattern" IX ["line"]
 Yr:Df K mg "fits" IW ["is_directory","line","path"]
 YN:Df K mg "patterns_of" Jr ["lines"]
 Yz:Df K mg "least_patterns" Je ["text"]
 Yy:Df K mg "least" Jd ["text"]
 YZ:Df K mg "rule_number" JD ["pattern"]
 Yt:Df K mg "have_room" IY ["lists"]
 Yh:Df K mg "answer" IK ["store","reader"]
 Yi:Df K mg "answers" IL ["calls"]
 Zs:gA K A.pairs "number_of" "Pairs.number_of" Iv ["self","first","second"]
 Zo:gA K A.mat "entered" "Matcher.entered" Im ["self","fresh"]
 Zr:gA K A.mat "steps_of" "Matcher.steps_of" Ir ["self","byte"]
 Zn:gA K A.mat "after" "Matcher.after" Il ["self","places","byte"]
 Zp:gA K A.mat "is_through" "Matcher.is_through" Ip ["self","places"]
 Zq:gA K A.mat "matched_ends" "Matcher.matched_ends" Iq ["self","path"]
 Zt:gA K A.plist "pattern_count" "PatternList.pattern_count" Iy ["self"]
 Zx:gA K A.store "add" "Store.add" IE ["self","directory","text"]
 Zz:gA K A.store "drop" "Store.drop" IG ["self","number"]
 ZA:gA K A.store "list_count" "Store.list_count" II ["self"]
 Zy:gA K A.store "becomes" "Store.becomes" IF ["self","is_directory","path"]
 ZC:gA K A.store "rule" "Store.rule" IJ ["self","number","line"]
 Zu:gA K A.reader "at_end" "Reader.at_end" IA ["self"]
 Zv:gA K A.reader "number" "Reader.number" IC ["self"]
 Zw:gA K A.reader "row" "Reader.row" ID ["self"]
 Zf:kJ K mg A.cell "Cell" "Cell.__init__" Ij ["self","stays","moves","optional"]
 Zg:kJ K mg A.machine "Machine" "Machine.__init__" Ik ["self","starts","end","steps"]
 Zi:kJ K mg A.pairs "Pairs" "Pairs.__init__" Iu ["self"]
 Zh:kJ K mg A.mat "Matcher" "Matcher.__init__" Io ["self","cells"]
 Zj:kJ K mg A.pattern "Pattern" "Pattern.__init__" Iz ["self","keeps","for_directories","anchored","cells"]
 Zk:kJ K mg A.plist "PatternList" "PatternList.__init__" Iw ["self","directory","size","lines"]
 Zm:kJ K mg A.store "Store" "Store.__init__" IH ["self"]
 Zl:kJ K mg A.reader "Reader" "Reader.__init__" IB ["self","calls"]
section
variable{P:aO}{w:aN}{K:aw}{mg:Str->Option ae}{base:aC}
theorem Kn.of{x:Str}{st:aH}{N ps:List Str}{k:Nat}{sp:Sp}(D:Df K mg x st ps)(S:aW N ps (aI st))(len:∀vs H Q E,sp vs H Q E->vs.length=ps.length)
  (hbody:∀(f:aa)(cdv:ae)(A:bJ)(outer:List Env)(s:aj)(H:Hp)(vs:List V)(Q:VK)(E:XK),cy k (A.deeper (iJ x (aI st) s.heap.objs.size f cdv))->sp vs H Q E->
   ∃t,fo (iH aX P w K mg base N x (aI st) f cdv A outer s H E).nox (gE st) t/\t {nx:=fun _ H'=>Q .non H',rt:=Q} (start N vs) H):Kn P w K mg base aX x (k+1) ps sp:=by
 obtain⟨f,fd,F,hm,hb⟩:=D;exact⟨f,fd,F.ok S len (hbody f),hm,F.kp,hb⟩
theorem cM.of{C:aa}{m q:Str}{st:aH}{N ps:List Str}{k:Nat}{sp:Sp}(D:gA K C m q st ps)(S:aW N ps (aI st))(len:∀vs H Q E,sp vs H Q E->vs.length=ps.length)
  (hbody:∀(f:aa)(cdv:ae)(A:bJ)(outer:List Env)(s:aj)(H:Hp)(vs:List V)(Q:VK)(E:XK),cy k (A.deeper (iJ q (aI st) s.heap.objs.size f cdv))->sp vs H Q E->
   ∃t,fo (iH aX P w K mg base N q (aI st) f cdv A outer s H E).nox (gE st) t/\t {nx:=fun _ H'=>Q .non H',rt:=Q} (start N vs) H):cM P w K mg base aX C m (k+1) ps sp:=by
 obtain⟨f,fd,F,hm,hb⟩:=D;exact⟨f,fd,F.ok S len (hbody f),hm,hb⟩
theorem fA.of{C:aa}{x q:Str}{st:aH}{N ps:List Str}{k:Nat}{sp:Sp}(D:kJ K mg C x q st ps)(S:aW N ps (aI st))(len:∀vs H Q E,sp vs H Q E->vs.length=ps.length)
  (hbody:∀(f:aa)(cdv:ae)(A:bJ)(outer:List Env)(s:aj)(H:Hp)(vs:List V)(Q:VK)(E:XK),cy k (A.deeper (iJ q (aI st) s.heap.objs.size f cdv))->sp vs H Q E->
   ∃t,fo (iH aX P w K mg base N q (aI st) f cdv A outer s H E).nox (gE st) t/\t {nx:=fun _ H'=>Q .non H',rt:=Q} (start N vs) H):fA P w K mg base aX C x (k+1) ps sp:=by
 obtain⟨f,fd,F,hm,hx,hb⟩:=D;exact⟨f,fd,F.ok S len (hbody f),hm,hx,hb⟩
theorem Kn.ofF{C:aa}{x:Str}{st:aH}{N ps:List Str}{k:Nat}{sp:Sp}(D:Df K mg x st ps)(S:aW N ps (aI st))(len:∀vs H Q E,sp vs H Q E->vs.length=ps.length)
  (hbody:∀(f:aa)(cdv:ae)(A:bJ)(outer:List Env)(s:aj)(H:Hp)(vs:List V)(Q:VK)(E:XK),cy k (A.deeper (iJ x (aI st) s.heap.objs.size f cdv))->sp vs H Q E->
   ∃t,fo (iH (dv P w C) P w K mg base N x (aI st) f cdv A outer s H E) (gE st) t/\t {nx:=fun _ H'=>Q .non H',rt:=Q} (start N vs) H):Kn P w K mg base (dv P w C) x (k+1) ps sp:=by
 obtain⟨f,fd,F,hm,hb⟩:=D;exact⟨f,fd,F.okF S len (hbody f),hm,F.kp,hb⟩
end
end PP
local macro_rules| `(tactic|cb_eq)=> `(tactic|try simp only[PP.TU,PP.SM,PP.Tc,PP.TQ,PP.TR,PP.Tx,PP.Tn,PP.Tw,PP.Uc,PP.Ud,PP.SG,PP.TH,PP.Ub,PP.SJ,PP.SI,PP.SH,PP.HU,PP.Td,PP.Tv,PP.TZ,PP.TY,PP.SN,PP.SK,PP.TJ,PP.TC,PP.SL,PP.TK,PP.TF,PP.Tj,PP.HV,PP.Th,PP.Tg,PP.Tz,PP.SU,PP.Ua,PP.Ts,PP.SR,PP.Tt,PP.Tu,PP.SS,PP.TB,PP.TM,PP.To,PP.TX,PP.SO,PP.SQ,PP.Te,PP.TV,PP.Tf,PP.Ue,PP.Tp,PP.Ti,PP.Tq,PP.Tr,PP.HW,PP.Ug,PP.Uh,PP.SV,PP.SX,PP.Ta,PP.Tb,PP.SY,PP.SZ,PP.TN,L2.start,cV,sH,bG,vm,Ma,List.replicate_zero,oy,mW,cC,List.set_cons_zero,List.set_cons_succ,Nat.reduceAdd,Nat.reduceSub,sO,qD,true_and,and_true,aV,if_true,if_false,reduceIte])
namespace PP
open PySem PySem.Spec L2
open PyProof.Rows hiding St
open Pg PM
section
variable{P:aO}{w:aN}{K:aw}{mg:Str->Option ae}{base:aC}{A:Ad}
theorem upd_upd{H:Hp}{a:aa}{o o':HO}:ah (ah H a o) a o'=ah H a o':=by
 funext b
 unfold ah;split<;>rfl
theorem Step.mkI{A:Cn}{G H G1 H1:Hp}(w:Wd A G H)(s:Step A G H G1 H1){x dx:aa}{o:HO}(hx:H1 x=none)(hd:H1 dx=none)(hne:dx≠x)(nm:fP A o):Step A G H (ah G1 x o) (ah (ah H1 dx (.own x)) x o):=
 (s.new w hd).newI w (by rw[aM (bq hne)]; exact hx) nm
def cQ(A:Cn)(G H:Hp)(Q:VK)(post:Hp->V->Prop):Prop:=∀G' H' v,Step A G H G' H'->post G' v->Q v H'
def UZ:Sp:=fun vs H Q _=>∃lo hi:Nat,vs=[.int lo,.int hi]/\lo<=hi/\hi<=255/\Q (.int (jc lo hi:Nat)) H
theorem xk(T:ba K mg A):Kn P w K mg base aX "bytes_between" 1 ["low","high"] UZ:=by
 have sc:aW ["low","high"] ["low","high"] (aI IR):=bo;refine Kn.of T.Ym sc (fun vs H Q E h=>?_) (fun f cdv A0 outer s H vs Q E hr h=>?_)
 ·obtain⟨_,_,rfl,_⟩:=h; rfl
 obtain⟨lo,hi,rfl,h1,h2,q⟩:=h;refine⟨_,(au (aL (bb ji (bb rJ (bb ji aA (bb dP (bb rJ (pv 1) (pv 0)) aA)) aA) (pv 0)))),?_⟩
 cb_eq
 have e1:(hi:Int)-lo+1=((hi-lo+1:Nat):Int):=by omega
 have e2:(1:Int)=((1:Nat):Int):=rfl;rw[e1,fm,fm];have hp:0<2^(hi-lo+1):=Nat.two_pow_pos _
 have e3:(1:Int)*2^(hi-lo+1)-1=((2^(hi-lo+1)-1:Nat):Int):=by
  have:((2:Int)^(hi-lo+1))=((2^(hi-lo+1):Nat):Int):=by rw[Dj]; rfl
  rw[this]; omega
 rw[e3];refine⟨jf (m:=1) (n:=1) (by decide) (by omega),jf (n:=hi-lo+1) (by omega) (by omega),?_⟩
 have e4:((2^(hi-lo+1)-1:Nat):Int)*2^lo=((jc lo hi:Nat):Int):=by
  rw[xK,DC]; rfl
 rw[e4];exact q
def Vx:Sp:=fun vs H Q _=>vs=[]/\Q (.int (cu:Nat)) H
theorem xl(T:ba K mg A):Kn P w K mg base aX "path_bytes" 2 [] Vx:=by
 have sc:aW [] [] (aI Jn):=bo;refine Kn.of T.YJ sc (fun vs H Q E h=>?_) (fun f cdv A0 outer s H vs Q E hr h=>?_)
 ·obtain⟨rfl,_⟩:=h; rfl
 obtain⟨rfl,q⟩:=h;refine⟨_,(au (aL (cF (xk T) hr (af aA (af aA ao))))),?_⟩
 cb_eq
 exact⟨1,255,rfl,by decide,by decide,q⟩
def Vu:Sp:=fun vs H Q _=>vs=[]/\Q (.int (aR:Nat)) H
theorem xm(k:Nat):(1:Int)*2^((k:Int).toNat)=((2^k:Nat):Int):=by
 rw[fm];have:=xK 1 k;rw[DC,vC]at this;exact this
theorem xJ:(1:Int)*2^(fM 47)=((bY:Nat):Int):=by decide
theorem pM(T:ba K mg A):Kn P w K mg base aX "part_bytes" 3 [] Vu:=by
 have sc:aW [] [] (aI Jk):=bo;refine Kn.of T.YG sc (fun vs H Q E h=>?_) (fun f cdv A0 outer s H vs Q E hr h=>?_)
 ·obtain⟨rfl,_⟩:=h; rfl
 obtain⟨rfl,q⟩:=h;refine⟨_,(au (aL (bb Bj (hJ (xl T) (hr.mono (by decide)) bA rfl) (bb ji aA (bB T.Xk rfl))))),?_⟩
 cb_eq
 refine⟨rfl,?_⟩
 cb_eq
 refine⟨jf (m:=1) (k:=47) (n:=1) (by decide) (by decide),?_⟩;rw[xJ,zK];exact q
theorem lp{f:Str}{v:V}{fs:List (Str×V)}{n:Nat}(h:fs.length<n):(bT f v fs).length<n+1:=vy (Aq f v fs) (by omega)
theorem AB:([]:List (Str×V)).length<990:=by decide
theorem pG{f:Str}{v:V}:(bT f v []).length<1000:=qA (lp AB) (by decide)
theorem tU{f g:Str}{v u:V}:(bT g u (bT f v [])).length<1000:=qA (lp (lp AB)) (by decide)
theorem Pp{f g h:Str}{v u x:V}:(bT h x (bT g u (bT f v []))).length<1000:=qA (lp (lp (lp AB))) (by decide)
def Kd:Ad->Sp:=fun A vs H Q _=>∃(x dx:aa)(c:MC),vs=[.ref x,.int c.stays,.int c.moves,.bl c.opt]/\H x=some (.ins A.cell dx [])/\Q .non (ah H x (.ins A.cell dx (jE c)))
theorem uf(T:ba K mg A):fA P w K mg base aX A.cell "Cell" 1 ["self","stays","moves","optional"] (Kd A):=by
 have sc:aW ["self","stays","moves","optional"] ["self","stays","moves","optional"] (aI Ij):=bo;refine fA.of T.Zf sc (fun vs H Q E h=>?_) (fun f cdv A0 outer s H vs Q E hr h=>?_)
 ·obtain⟨_,_,_,rfl,_⟩:=h; rfl
 obtain⟨x,dx,c,rfl,h1,q⟩:=h
 refine⟨_,(aq (fe (pv 0) (pv 1) rfl)
   (aq (fe (pv 0) (pv 2) rfl)
   (au (fe (pv 0) (pv 3) rfl)))),?_⟩
 cb_eq
 refine fi h1 T.Xp T.XI (by decide) ?_
 cb_eq
 refine fi ax T.Xp T.XH pG ?_
 cb_eq
 refine fi ax T.Xp T.XU tU ?_;rw[upd_upd,upd_upd];exact q
theorem Qn{A:Cn}{C dx:aa}{c:MC}:fP A (.ins C dx (jE c)):=uc (by show some ("stays":Str)≠some "cells"; decide +kernel)
def xP(A:Ad)(c:MC):Sp:=fun vs H Q _=>∃G,vs=[]/\Wd A.toCn G H/\cQ A.toCn G H Q fun G' v=>∃p,v=.ref p/\CellAt A.toCn G' p c
theorem tM{G H:Hp}{Q:VK}{c:MC}(wd:Wd A.toCn G H)(q:cQ A.toCn G H Q fun G' v=>∃p,v=.ref p/\CellAt A.toCn G' p c):
  ∀x dx,H x=none->H dx=none->dx≠x->Kd A [.ref x,.int c.stays,.int c.moves,.bl c.opt] (ah (ah H dx (.own x)) x (.ins A.cell dx [])) (fun v H2=>v=.non/\Q (.ref x) H2) E0:=by
 intro x dx hx hd hne;refine⟨x,dx,c,rfl,ax,rfl,?_⟩;rw[upd_upd];exact q _ _ _ ((Step.refl wd).mkI wd hx hd hne Qn) ⟨x,rfl,dx,ax⟩
def UY:Ad->Sp:=fun A vs H Q _=>∃(G:Hp)(n:Nat),vs=[.int n]/\Wd A.toCn G H/\cQ A.toCn G H Q fun G' v=>∃p,v=.ref p/\CellAt A.toCn G' p ⟨0,n&&&aR,false⟩
theorem xj(T:ba K mg A):Kn P w K mg base aX "byte_cell" 4 ["byte_set"] (UY A):=by
 have sc:aW ["byte_set"] ["byte_set"] (aI IQ):=bo;refine Kn.of T.Yl sc (fun vs H Q E h=>?_) (fun f cdv A0 outer s H vs Q E hr h=>?_)
 ·obtain⟨_,_,rfl,_⟩:=h; rfl
 obtain⟨G,n,rfl,wd,q⟩:=h;refine⟨_,(au (aL (jM (uf T) (hr.mono (by decide)) bA rfl (af aA (af (bb jI (pv 0) (hJ (pM T) (hr.mono (by decide)) bA rfl)) (af pP ao)))))),?_⟩
 cb_eq
 refine⟨rfl,?_⟩
 cb_eq
 rw[ny];exact tM (c:=⟨0,n&&&aR,false⟩) wd q
theorem Ru(T:ba K mg A):Kn P w K mg base aX "star_cell" 4 [] (xP A ⟨aR,aR,true⟩):=by
 have sc:aW [] [] (aI JH):=bo;refine Kn.of T.Zd sc (fun vs H Q E h=>?_) (fun f cdv A0 outer s H vs Q E hr h=>?_)
 ·obtain⟨_,rfl,_⟩:=h; rfl
 obtain⟨G,rfl,wd,q⟩:=h;refine⟨_,(au (aL (jM (uf T) (hr.mono (by decide)) bA rfl (af (hJ (pM T) (hr.mono (by decide)) bA rfl) (af (hJ (pM T) (hr.mono (by decide)) bA rfl) (af pP ao)))))),?_⟩
 cb_eq
 refine⟨rfl,rfl,?_⟩
 cb_eq
 exact tM (c:=⟨aR,aR,true⟩) wd q
theorem Rt(T:ba K mg A):Kn P w K mg base aX "slash_cell" 4 [] (xP A ⟨0,bY,false⟩):=by
 have sc:aW [] [] (aI JG):=bo;refine Kn.of T.Zc sc (fun vs H Q E h=>?_) (fun f cdv A0 outer s H vs Q E hr h=>?_)
 ·obtain⟨_,rfl,_⟩:=h; rfl
 obtain⟨G,rfl,wd,q⟩:=h;refine⟨_,(au (aL (jM (uf T) (hr.mono (by decide)) bA rfl (af aA (af (bb ji aA (bB T.Xk rfl)) (af pP ao)))))),?_⟩
 cb_eq
 refine⟨jf (m:=1) (k:=47) (n:=1) (by decide) (by decide),?_⟩;rw[xJ];exact tM (c:=⟨0,bY,false⟩) wd q
theorem QN(T:ba K mg A):Kn P w K mg base aX "any_parts_cell" 4 [] (xP A ⟨cu,bY,true⟩):=by
 have sc:aW [] [] (aI IM):=bo;refine Kn.of T.Yj sc (fun vs H Q E h=>?_) (fun f cdv A0 outer s H vs Q E hr h=>?_)
 ·obtain⟨_,rfl,_⟩:=h; rfl
 obtain⟨G,rfl,wd,q⟩:=h;refine⟨_,(au (aL (jM (uf T) (hr.mono (by decide)) bA rfl (af (hJ (xl T) (hr.mono (by decide)) bA rfl) (af (bb ji aA (bB T.Xk rfl)) (af pP ao)))))),?_⟩
 cb_eq
 refine⟨rfl,?_⟩
 cb_eq
 refine⟨jf (m:=1) (k:=47) (n:=1) (by decide) (by decide),?_⟩;rw[xJ];exact tM (c:=⟨cu,bY,true⟩) wd q
theorem QX(T:ba K mg A):Kn P w K mg base aX "last_parts_cell" 4 [] (xP A ⟨cu,cu,false⟩):=by
 have sc:aW [] [] (aI Jc):=bo;refine Kn.of T.Yx sc (fun vs H Q E h=>?_) (fun f cdv A0 outer s H vs Q E hr h=>?_)
 ·obtain⟨_,rfl,_⟩:=h; rfl
 obtain⟨G,rfl,wd,q⟩:=h;refine⟨_,(au (aL (jM (uf T) (hr.mono (by decide)) bA rfl (af (hJ (xl T) (hr.mono (by decide)) bA rfl) (af (hJ (xl T) (hr.mono (by decide)) bA rfl) (af pP ao)))))),?_⟩
 cb_eq
 refine⟨rfl,rfl,?_⟩
 cb_eq
 exact tM (c:=⟨cu,cu,false⟩) wd q
end
theorem tH(xs:List V)(a b:Nat):dZ xs (some (a:Int)) (some (b:Int))=(xs.drop a).take (b-a):=by
 unfold dZ;rw[HT.sIx_nat,HT.sIx_nat];by_cases ha:a<=xs.length
 ·rw[lW ha];by_cases hb:b<=xs.length
  ·rw[lW hb]
  ·rw[DB (by omega),ka (by rw[cI]; omega),ka (by rw[cI]; omega)]
 ·rw[show min a xs.length=xs.length by omega,lT (aF _),lT (by omega),List.take_nil,List.take_nil]
theorem wD(xs:List V)(a:Nat):dZ xs (some (a:Int)) none=xs.drop a:=by
 unfold dZ;rw[HT.sIx_nat,HT.sIx_none];by_cases ha:a<=xs.length
 ·rw[lW ha,ka (by rw[cI]; omega)]
 ·rw[DB (by omega),lT (aF _),lT (by omega),List.take_nil]
theorem EX(xs:List V)(b:Nat):dZ xs none (some (b:Int))=xs.take b:=by
 unfold dZ;rw[HT.sIx_nat,HT.sIx_none,sD,Nat.sub_zero];by_cases hb:b<=xs.length
 ·rw[lW hb]
 ·rw[DB (by omega),ka (aF _),ka (by omega)]
section
variable{P:aO}{w:aN}{K:aw}{mg:Str->Option ae}{base:aC}{A:Ad}
theorem eF{G:Hp}{p:aa}{s:ag}(h:G p=some (.lst (bv s))):BL K G p s:=ak.of h
def Cd(K:aw)(A:Ad):Sp:=fun vs H Q _=>∃(G:Hp)(a:aa)(s:ag)(c:UInt8),vs=[.ref a,.int (c.toNat:Int)]/\Wd A.toCn G H/\BL K G a s/\s.length<=100000/\cQ A.toCn G H Q fun G' v=>∃p,v=.ref p/\DV K G' p (aG c s)
theorem VS{c:UInt8}{s:ag}{st i:Nat}(h1:st<=i)(h2:c∉(s.drop st).take (i-st))(h3:s[i]?=some c):aG c (s.drop st)=[(s.drop st).take (i-st)]++aG c (s.drop (i+1)):=by
 have e:s.drop st=(s.drop st).take (i-st)++c::s.drop (i+1):=by
  conv=>lhs; rw[<-oE (i-st) (s.drop st)]
  congr 1
  rw[fO,show st+(i-st)=i by omega];exact gr h3
 have:=mL c ((s.drop st).take (i-st)) (s.drop (i+1));rw[<-e,jQ h2]at this;exact this
theorem bZ{n m:Nat}(h:n<=m)(hm:m<aY):n<aY:=vy h hm
def DW(G:Hp)(a:aa)(rs:List ag):Prop:=∃as:List aa,G a=some (.lst (as.map V.ref))/\bH (fun p s=>G p=some (.lst (bv s))) as rs
def Vw(K:aw)(A:Ad):Sp:=fun vs H Q _=>∃(G:Hp)(a:aa)(s:ag)(c:UInt8),vs=[.ref a,.int (c.toNat:Int)]/\Wd A.toCn G H/\BL K G a s/\s.length<=100000/\cQ A.toCn G H Q fun G' v=>∃p,v=.ref p/\DW G' p (aG c s)
theorem Ba(T:ba K mg A):Kn P w K mg base aX "parted" 1 ["row","sign"] (Vw K A):=by
 have sc:aW ["row","sign","stretches","start","place","byte"] ["row","sign"] (aI Jm):=bo;refine Kn.of T.YI sc (fun vs H Q E h=>?_) (fun f cdv A0 outer s0 H vs Q E hr h=>?_)
 ·obtain⟨_,_,_,_,rfl,_⟩:=h; rfl
 obtain⟨G,a,s,c,rfl,wd,hs,hl,q⟩:=h
 refine⟨_,(aq (pS 2 sc.nd (br ao))
   (aq (pS 3 sc.nd aA)
   (aq (fX eZ rfl (nO rfl T.Xo (af (pv 0) ao)) (nM rfl (hW (gN 4 sc.nd) (hW (gN 5 sc.nd) nN)))
    (au (bz (bI eB (pv 5) (pv 1) (bp _))
     (aq (eC (eJ eQ gh gi fV (pv 2) (af (iM iN (pv 0) (fW (pv 3)) (fW (pv 4))) ao)))
     (au (pS 3 sc.nd (bb dP (pv 4) aA))))
     bE)))
   (aq (eC (eJ eQ gh gi fV (pv 2) (af (iM iN (pv 0) (fW (pv 3)) mI) ao)))
   (au (aL (pv 2))))))),?_⟩
 cb_eq
 refine⟨by decide,fun p hp=>?_⟩;have s1:Step A.toCn G H G (ah H p (.lst [])):=(Step.refl wd).new wd hp;have o1:ar A.toCn H G (ah H p (.lst [])) p (.lst []):=ar.make wd (Step.refl wd) hp
 refine qc (hs.mono s1.wd.sub) (fun i σ H'=>∃(G1:Hp)(st:Nat)(o4 o5:Option V)(as:List aa)(rows:List ag),σ=[some (.ref a),some (.int (c.toNat:Int)),some (.ref p),some (.int (st:Int)),o4,o5]/\Step A.toCn G H G1 H'/\ar A.toCn H G1 H' p (.lst (as.map V.ref))/\
   bH (fun p r=>G1 p=some (.lst (bv r))) as rows/\st<=i/\rows.length<=i/\rows++aG c (s.drop st)=aG c s/\c∉(s.drop st).take (i-st)) ?_ ?_ ?_ ?_
 ·exact⟨G,0,none,none,[],[],rfl,s1,o1,.nil,aF _,aF _,rfl,by simp⟩
 ·rintro i σ H' _ ⟨G1,_,_,_,_,_,_,s2,_⟩;exact(hs.mono (s2.same wd)).mono s2.wd.sub
 ·rintro i x σ H' T0 hx ⟨G1,st,o4,o5,as,rows,rfl,s2,o2,pr,hst,hrl,e1,e2⟩ hT;obtain⟨d,hd,rfl⟩:=zJ hx;have hi:i<s.length:=(aK.mp hd).1;have s3:=s2.new wd hT (o:=.tup [.int (i:Nat),.int (d.toNat:Int)]);have o3:=o2.new_ hT (o':=.tup [.int (i:Nat),.int (d.toNat:Int)])
  cb_eq
  simp only[decide_eq_true_eq];split
  ·next hdc=>
   have hdc:d=c:=by rw[iO]; exact iT hdc
   subst hdc;refine⟨eM (ak.of o3.at_),?_⟩;refine iP ((hs.mono (s3.same wd)).mono s3.wd.sub) fun p2 hp2=>?_;have o4':=o3.newI s3.wd hp2 (o':=.lst (dZ (bv s) (some (st:Int)) (some (i:Nat)))) aT;have s4:=s3.newI wd hp2 (o:=.lst (dZ (bv s) (some (st:Int)) (some (i:Nat)))) aT;refine fZ o4'.at_ (by rw[aE,bR pr]; exact bZ (m:=100000) (by omega) (by decide)) ?_
   cb_eq
   refine⟨_,i+1,_,_,as++[p2],rows++[(s.drop st).take (i-st)],by rw[Int.natCast_add]; rfl,s4.put wd o4',?_,?_,aF _,by rw[bt,dJ]; omega,?_,by simp⟩
   ·rw[cv];exact o4'.put_
   ·refine iZ (cO (fun _ _ z=>bu (s3.wd.noG hp2) _ _ z) pr) ?_;rw[ax,tH,wo]
   ·rw[dk,<-VS hst e2 hd];exact e1
  ·next hdc=>
   have hdc: ¬c=d:=fun z=>hdc (by rw[z]);refine⟨G1,st,_,_,as,rows,rfl,s3,o3,pr,by omega,by omega,e1,?_⟩;rw[show i+1-st=(i-st)+1 by omega];intro z;have hg:(s.drop st)[i-st]?=some d:=by rw[vk,show st+(i-st)=i by omega]; exact hd
   rw[PM.take_snoc hg]at z;rcases cj.mp z with z|z
   ·exact e2 z
   ·exact hdc (by simpa using z)
 ·rintro σ H' ⟨G1,st,o4,o5,as,rows,rfl,s2,o2,pr,hst,hrl,e1,e2⟩;rw[cU]at hst hrl e2
  cb_eq
  refine⟨eM (ak.of o2.at_),?_⟩;refine iP ((hs.mono (s2.same wd)).mono s2.wd.sub) fun p2 hp2=>?_;have o3:=o2.newI s2.wd hp2 (o':=.lst (dZ (bv s) (some (st:Int)) none)) aT;have s3:=s2.newI wd hp2 (o:=.lst (dZ (bv s) (some (st:Int)) none)) aT;refine fZ o3.at_ (by rw[aE,bR pr]; exact bZ (m:=100000) (by omega) (by decide)) ?_
  cb_eq
  have s4:=s3.put wd o3 (o':=.lst (as.map V.ref++[.ref p2]));have o4':=o3.put_ (o':=.lst (as.map V.ref++[.ref p2]));refine q _ _ _ (s4.sealO wd o4' aT) ⟨p,rfl,as++[p2],?_,?_⟩
  ·rw[ax,cv];rfl
  ·rw[ka (by rw[cI]; omega)]at e2;rw[jQ e2]at e1;rw[<-e1];have hne:p2≠p:=fun z=>by rw[z,o2.at_]at hp2; cases hp2
   refine iZ (cO (fun _ _ z=>bu o4'.g _ _ (bu (s2.wd.noG hp2) _ _ z)) pr) ?_;rw[aM hne,ax,wD];unfold bv;rw[yQ]
theorem Hf(T:ba K mg A):Kn P w K mg base aX "parted" 1 ["row","sign"] (Cd K A):=by
 obtain⟨f,fd,F,r⟩:=Ba (P:=P) (w:=w) (base:=base) T;refine⟨f,fd,F.imp fun vs H Q E h=>?_,r⟩;obtain⟨G,a,s,c,h1,wd,hs,hl,q⟩:=h;refine⟨G,a,s,c,h1,wd,hs,hl,fun G' H' v s1 hv=>q G' H' v s1 ?_⟩;obtain⟨p,e,as,h2,h3⟩:=hv;exact⟨p,e,as,h2,cO (fun _ _ z=>eF z) h3⟩
def bi(s:ag):List Int:=s.map fun c=>(c.toNat:Int)
theorem wm(s:ag):bv s=(bi s).map V.int:=by
 unfold bv bi;rw[gB];rfl
theorem jd{s t:ag}:bi s=bi t↔s=t:=by
 constructor
 ·intro h;refine(List.map_inj_right (fun a b(z:((a.toNat:Nat):Int)=(b.toNat:Nat))=>?_)).mp h;rw[iO];exact iT z
 ·intro h; rw[h]
theorem BL.ints{G:Hp}{a:aa}{s:ag}(h:BL K G a s):ak K G a ((bi s).map V.int):=by
 unfold BL at h;rw[wm]at h;exact h
theorem Ae(s:ag):(bv s).all iK=true:=by
 rw[ju];intro v hv;obtain⟨c,_,rfl⟩:=bP.mp hv;rfl
theorem wO(c:UInt8)(s:ag):gw (.int (c.toNat:Int)) (bv s)=decide (c∈s):=by
 unfold gw bv;rw[vj];by_cases h:c∈s
 ·rw[dT h,ow];exact⟨c,h,by show(((c.toNat:Nat):Int)==(c.toNat:Nat))=true; simp⟩
 ·rw[dF h,vi];intro d hd z;have z:(((d.toNat:Nat):Int)==(c.toNat:Nat))=true:=z;have z:d=c:=by rw[iO]; exact iT (eq_of_beq z)
  exact h (z▸hd)
theorem WY{H:Hp}{Q:VK}{a p:aa}{ns:List Int}{as:List aa}{rows:List (List Int)}(h1:ak K H a (ns.map V.int))(h2:bQ K H p (as.map V.ref))(h3:bH (fun p r=>ak K H p (r.map V.int)) as rows)(q:Q (.bl (!decide (ns∈rows))) H):HS K (.ref a) (.ref p) H Q:=
 ⟨a,p,ns,as,rows,rfl,rfl,h1,h2,h3,q⟩
def ly(s:ag):Bool:=decide (s≠[]/\s≠[46]/\s≠[46,46]/\(0:UInt8)∉s)
def Vj(K:aw)(A:Ad):Sp:=fun vs H Q _=>∃(G:Hp)(a:aa)(s:ag),vs=[.ref a]/\Wd A.toCn G H/\BL K G a s/\cQ A.toCn G H Q fun _ v=>v=.bl (ly s)
theorem QW(T:ba K mg A):Kn P w K mg base aX "is_part" 1 ["part"] (Vj K A):=by
 have sc:aW ["part"] ["part"] (aI Ja):=bo;refine Kn.of T.Yv sc (fun vs H Q E h=>?_) (fun f cdv A0 outer s0 H vs Q E hr h=>?_)
 ·obtain⟨_,_,_,rfl,_⟩:=h; rfl
 obtain⟨G,a,s,rfl,wd,hs,q⟩:=h;have hu64:=hr.units;refine⟨_,(au (aL (Bz (fJ (Rz hu64) (pv 0) (dQ (af (br ao) (af (br (af (bB T.XG rfl) ao)) (af (br (af (bB T.XG rfl) (af (bB T.XG rfl) ao))) ao)))) (by with_unfolding_all rfl)) (BC (fJ RA aA (pv 0) (by with_unfolding_all rfl)))))),?_⟩
 cb_eq
 refine⟨by decide,fun p1 h1=>⟨by decide,fun p2 h2=>⟨by decide,fun p3 h3=>⟨by decide,fun t h4=>?_⟩⟩⟩⟩;have s1:=(Step.refl wd).newI wd h1 (o:=.lst []) aT;have s2:=s1.newI wd h2 (o:=.lst [.int 46]) aT;have s3:=s2.newI wd h3 (o:=.lst [.int 46,.int 46]) aT;have s4:=s3.newI wd h4 (o:=.tup [.ref p1,.ref p2,.ref p3]) cZ;have n34:=bu (o:=.tup [.ref p1,.ref p2,.ref p3]) (s3.wd.noG h4);have n23:=bu (o:=.lst [.int 46,.int 46]) (s2.wd.noG h3);have n12:=bu (o:=.lst [.int 46]) (s1.wd.noG h2);have hs4:=(hs.mono (s4.same wd)).mono s4.wd.sub
 refine WY (ns:=bi s) (as:=[p1,p2,p3]) (rows:=[[],[46],[46,46]]) hs4.ints (bQ.of ax)
  (.cons (ak.of (s4.wd.sub _ _ (n34 _ _ (n23 _ _ (n12 _ _ ax))))) (.cons (ak.of (s4.wd.sub _ _ (n34 _ _ (n23 _ _ ax)))) (.cons (ak.of (s4.wd.sub _ _ (n34 _ _ ax))) .nil))) ?_
 have hmem:bi s∈ [[],[46],[46,46]]↔s=[]\/s=[46]\/s=[46,46]:=by
  have e1:bi s=[]↔s=[]:=jd (t:=[]);have e2:bi s=[46]↔s=[46]:=jd (t:=[46]);have e3:bi s=[46,46]↔s=[46,46]:=jd (t:=[46,46]);simp only[bg,iX,or_false,e1,e2,e3]
 cb_eq
 by_cases hm:bi s∈ [[],[46],[46,46]]
 ·rw[dT hm]
  cb_eq
  refine q _ _ _ s4 (congrArg V.bl ?_);refine(dF fun z=>?_).symm;rcases hmem.mp hm with e|e|e
  ·exact z.1 e
  ·exact z.2.1 e
  ·exact z.2.2.1 e
 ·rw[dF hm]
  cb_eq
  simp only[eD,if_true];refine yl hs4 rfl (Ae s) ?_;have e0:=wO 0 s;refine q _ _ _ s4 (congrArg V.bl ?_);show(!gw (.int 0) (bv s))=_;rw[show V.int 0=V.int ((0:UInt8).toNat:Int)from rfl,e0];unfold ly;have hm':=fun z=>hm (hmem.mpr z);by_cases h0:(0:UInt8)∈s
  ·rw[dT h0];exact(dF fun z=>z.2.2.2 h0).symm
  ·rw[dF h0];exact(dT ⟨fun z=>hm' (.inl z),fun z=>hm' (.inr (.inl z)),fun z=>hm' (.inr (.inr z)),h0⟩).symm
theorem Ga{s:ag}(h:(47:UInt8)∉s):ly s=gx s:=by
 have hb:ly s=true↔gx s=true:=by
  unfold ly gx;rw[decide_eq_true_iff];simp only[cA,uY,yP,sC,decide_eq_false_iff_not,bne_iff_ne,ne_eq];constructor
  ·rintro⟨a,b,c,d⟩; exact⟨a,d,h,b,c⟩
  ·rintro⟨a,d,_,b,c⟩; exact⟨a,b,c,d⟩
 cases e:ly s<;>cases e':gx s
 ·rfl
 ·rw[e,e']at hb; exact absurd (hb.mpr rfl) (by decide)
 ·rw[e,e']at hb; exact absurd (hb.mp rfl) (by decide)
 ·rfl
def Kj(K:aw)(A:Ad):Sp:=fun vs H Q _=>∃(G:Hp)(a:aa)(s:ag),vs=[.ref a]/\Wd A.toCn G H/\BL K G a s/\cQ A.toCn G H Q fun _ v=>v=.bl (gO s).isSome
theorem WS{H:Hp}{Q:VK}{a:aa}{bs:List Bool}(h:ak K H a (bs.map V.bl))(q:Q (.bl (bs.all id)) H):HN K [.ref a] H Q:=⟨a,bs,rfl,h,q⟩
theorem AY(T:ba K mg A):Kn P w K mg base aX "is_path" 2 ["row"] (Kj K A):=by
 have sc:aW ["row","part"] ["row"] (aI Jb):=bo;refine Kn.of T.Yw sc (fun vs H Q E h=>?_) (fun f cdv A0 outer s0 H vs Q E hr h=>?_)
 ·obtain⟨_,_,_,rfl,_⟩:=h; rfl
 obtain⟨G,a,s,rfl,wd,hs,q⟩:=h
 refine⟨_,(aq (bz (bI mG (cL T.Xe (pv 0)) (bB T.ZQ rfl) (bp _))
    (au (aL pP))
    bE)
   (au (aL (jL (Nr rfl) (by rfl) T.Yd boot_all (af (hO rfl sc.nd (dt (cF (Hf T) hr (af (pv 0) (af (bB T.Xk rfl) ao)))) (own:=[("part",1)]) (fE (by kernel_rfl)) (fun _ _ _ _ _=>by exact(gN 1 sc.nd)) (fun _ _ _ _ _=>by exact jN) (fun _ _ _ _ _=>by exact(cF (QW T) hr (af (pv 1) ao)))) ao))))),?_⟩
 cb_eq
 refine cw (hs.mono wd.sub) ?_
 cb_eq
 rw[cU];simp only[decide_eq_true_eq];split
 ·next hl=>
  refine q _ _ _ (Step.refl wd) (congrArg V.bl ?_);unfold gO;rw[if_neg (fun z=>by have:s.length<=256:=z.2; omega)];rfl
 ·next hl=>
  have hl:s.length<=256:=by omega
  refine⟨G,a,s,47,rfl,wd,hs,by omega,fun G1 H1 v s1 hv=>?_⟩;obtain⟨p,rfl,as,hp,pr⟩:=hv;refine gR (ak.of (s1.wd.sub _ _ hp)) (fun D i H'=>∃G2,Step A.toCn G H G2 H'/\bh G1 G2/\ar A.toCn H G2 H' D (.lst (((aG 47 s).take i).map fun r=>V.bl (ly r)))) ?_ ?_ ?_ ?_
  ·intro D hD;exact⟨G1,s1.new wd hD,bh.refl _,ar.make wd s1 hD⟩
  ·rintro D i H' _ ⟨G2,s2,e12,_⟩;exact ak.of (s2.wd.sub _ _ (e12 _ _ hp))
  ·rintro D i x H' hx ⟨G2,s2,e12,o2⟩;obtain⟨p2,hp2,rfl⟩:=eI hx;obtain⟨r,hr2,hb⟩:=dH pr hp2
   cb_eq
   refine⟨G2,p2,r,rfl,s2.wd,hb.mono e12,fun G3 H3 v s3 hv=>?_⟩;subst hv;have o3:=o2.call s3;have hi:i<(aG 47 s).length:=(aK.mp hr2).1;refine⟨_,o3.at_,?_,G3,(s2.trans wd s3).put wd o3,fun b o z=>s3.same s2.wd b o (e12 b o z),?_⟩
   ·rw[aE,cP];have:=split_len 47 s;exact bZ (m:=257) (by omega) (by decide)
   ·rw[PM.take_snoc hr2,cv];exact o3.put_
  ·rintro D H' ⟨G2,s2,e12,o2⟩;rw[aE,bR pr,cq]at o2
   cb_eq
   refine WS (bs:=(aG 47 s).map ly) (ak.of (by rw[gB]; exact o2.at_)) ?_;refine q _ _ _ s2 (congrArg V.bl ?_);rw[List.all_map]
   have e:(aG 47 s).all (id∘ly)=(aG 47 s).all gx:=by
    rw[mS,ju,ju];constructor
    ·intro z r hr3; rw[<-Ga (uI hr3)]; exact z r hr3
    ·intro z r hr3; show ly r=true; rw[Ga (uI hr3)]; exact z r hr3
   rw[e];unfold gO;by_cases z:(aG 47 s).all gx=true
   ·rw[if_pos ⟨z,hl⟩,z]; rfl
   ·rw[if_neg (fun y=>z y.1)];cases h:(aG 47 s).all gx
    ·rfl
    ·exact absurd h z
end
end PP
namespace PP
open PySem PySem.Spec L2
open PyProof.Rows hiding St
section
variable{X:Cx}{K:aw}{e o:aJ}{f:Str}{pos apos cpos tpos:Pos}{ta to te:TE}{t:TA}
theorem rL(hK:X.K=K)(he:PE X e ta)(hb:tj e f X.env (bw e X.env)=bw e X.env):PE X (.Attribute e f pos) (xV K ta f):=by subst hK; exact bK he hb
theorem wU(hK:X.K=K):ve X (BJ K):=by subst hK; exact dg
theorem zW(hK:X.K=K):jq X (.builtin "len") (vf K):=by subst hK; exact EU
theorem Si{es:List aJ}{k:Nat}{t:kj}{n:Nat}(hK:X.K=K)(hc:X.calm=true)(h:sR X es t)(hn:(qV es X.env).length=n:=by rfl)(hst:(qV es X.env).findIdx? (·.1)=none:=by rfl):PG X (.Tuple es k pos) (wK K n t):=by subst hK; exact nM hc h hn hst
end
end PP
namespace PP
open PySem PySem.Spec L2
open PyProof.Rows hiding St
open Pg PM
section
variable{P:aO}{w:aN}{K:aw}{mg:Str->Option ae}{base:aC}{A:Ad}
def iv(l:List Nat):List V:=l.map fun(n:Nat)=>V.int (n:Int)
theorem ik(l k:List Nat):iv l++iv k=iv (l++k):=by unfold iv; rw[cv]
theorem dG(l:List Nat):(iv l).length=l.length:=aE _
def Vd(K:aw)(A:Ad):Sp:=fun vs H Q _=>∃(G:Hp)(a:aa)(s:ag),vs=[.ref a]/\Wd A.toCn G H/\BL K G a s/\s.length<=256/\cQ A.toCn G H Q fun G' v=>∃p,v=.ref p/\G' p=some (.lst (iv (gG s)))
theorem JV{s:ag}{i:Nat}{c:UInt8}(h:s[i]?=some c):cE 0 (s.take (i+1))=cE 0 (s.take i)++if c=47 then [i]else []:=by
 have hi:=(aK.mp h).1;rw[PM.take_snoc h,uE,cP,lW (by omega),sO]
 congr 1
theorem uF:∀(s:ag)(n:Nat),(cE n s).length<=s.length
 | [],n=>aF _
 |c::s,n=>by
  have:=uF s (n+1);show(if c=47 then n::cE (n+1) s else cE (n+1) s).length<=_;split
  ·rw[bG,bG]; omega
  ·rw[bG]; omega
theorem QQ(T:ba K mg A):Kn P w K mg base aX "entry_ends" 1 ["path"] (Vd K A):=by
 have sc:aW ["path","place","byte"] ["path"] (aI IT):=bo;refine Kn.of T.Yo sc (fun vs H Q E h=>?_) (fun f cdv A0 outer s0 H vs Q E hr h=>?_)
 ·obtain⟨_,_,_,rfl,_⟩:=h; rfl
 obtain⟨G,a,s,rfl,wd,hs,hl,q⟩:=h;refine⟨_,(au (aL (bb rH (hO rfl sc.nd (nO rfl T.Xo (af (pv 0) ao)) (own:=[("place",1),("byte",2)]) (fE (by kernel_rfl)) (fun _ _ _ _ _=>by exact(Si (K:=K) (n:=2) rfl rfl (hW (gN 1 sc.nd) (hW (gN 2 sc.nd) nN)))) (fun _ _ _ _ _=>by exact(nQ (bI eB (pv 2) (bB T.Xk rfl) (bp _)))) (fun _ _ _ _ _=>by exact(pv 1))) (br (af (cL T.Xe (pv 0)) ao))))),?_⟩
 cb_eq
 refine WW (hs.mono wd.sub) (fun D i H'=>∃G2,Step A.toCn G H G2 H'/\ar A.toCn H G2 H' D (.lst (iv (cE 0 (s.take i))))) ?_ ?_ ?_ ?_
 ·intro D hD;exact⟨G,(Step.refl wd).new wd hD,ar.make wd (Step.refl wd) hD⟩
 ·rintro D i H' _ ⟨G2,s2,o2⟩;exact(hs.mono (s2.same wd)).mono s2.wd.sub
 ·rintro D i x H' T0 hx ⟨G2,s2,o2⟩ hT;obtain⟨c,hc,rfl⟩:=zJ hx;have hi:=(aK.mp hc).1;have s3:=s2.new wd hT (o:=.tup [.int (i:Nat),.int (c.toNat:Int)]);have o3:=o2.new_ hT (o':=.tup [.int (i:Nat),.int (c.toNat:Int)])
  cb_eq
  simp only[decide_eq_true_eq];split
  ·next h47=>
   have h47:c=47:=by rw[iO]; exact iT h47
   refine⟨_,o3.at_,?_,G2,s3.put wd o3,?_⟩
   ·rw[dG];have:=uF (s.take i) 0;rw[cP]at this;exact bZ (m:=256) (by omega) (by decide)
   ·rw[JV hc,if_pos h47,<-ik];exact o3.put_
  ·next h47=>
   have h47: ¬c=47:=fun z=>h47 (by rw[z]; rfl);refine⟨G2,s3,?_⟩;rw[JV hc,if_neg h47,cC];exact o3
 ·rintro D H' ⟨G2,s2,o2⟩;rw[cU,cq]at o2
  cb_eq
  refine cw ((hs.mono (s2.same wd)).mono s2.wd.sub) ?_;rw[cU];refine⟨by decide,fun p hp=>?_⟩;have s3:=s2.new wd hp (o:=.lst [.int (s.length:Nat)]);have o3:=o2.new_ hp (o':=.lst [.int (s.length:Nat)]);refine sj o3.at_ ax ?_ fun p2 hp2=>?_
  ·rw[dG];have:=uF s 0;have h1:([V.int (s.length:Nat)]:List V).length=1:=rfl;rw[h1];exact jx (bZ (m:=257) (by omega) (by decide))
  ·refine q _ _ _ (s3.newI wd hp2 aT) ⟨p2,rfl,?_⟩;rw[ax];show _=some (HO.lst (iv (cE 0 s++[s.length])));rw[<-ik];rfl
def Vo(K:aw)(A:Ad):Sp:=fun vs H Q _=>∃(G:Hp)(a b:aa)(s d:ag),vs=[.ref a,.ref b]/\Wd A.toCn G H/\BL K G a s/\G b=some (.lst (bv d))/\d.length<=256/\cQ A.toCn G H Q fun _ v=>v=.bl (decide (d=[]\/s.take (d.length+1)=d++[47]))
theorem Rb(T:ba K mg A):Kn P w K mg base aX "lies_below" 1 ["path","directory"] (Vo K A):=by
 have sc:aW ["path","directory"] ["path","directory"] (aI Jg):=bo;refine Kn.of T.YB sc (fun vs H Q E h=>?_) (fun f cdv A0 outer s0 H vs Q E hr h=>?_)
 ·obtain⟨_,_,_,_,_,rfl,_⟩:=h; rfl
 obtain⟨G,a,b,s,d,rfl,wd,hs,hd,hl,q⟩:=h;have hu64:=hr.units
 refine⟨_,(aq (bz (bI (mF hu64) (pv 1) (br ao) (bp _))
    (au (aL pP))
    bE)
   (au (aL (fJ (mF hu64) (iM iN (pv 0) mI (fW (bb dP (cL T.Xe (pv 1)) aA))) (bb rH (pv 1) (br (af (bB T.Xk rfl) ao))) (bp _))))),?_⟩
 cb_eq
 refine⟨by decide,fun p hp=>?_⟩;have s1:=(Step.refl wd).new wd hp (o:=.lst []);have hd1:BL K (ah H p (.lst [])) b d:=eF (s1.wd.sub _ _ hd);refine mP (ns:=bi d) (ms:=[]) hd1.ints (ak.of ax) ?_
 cb_eq
 simp only[decide_eq_true_eq];split
 ·next hdn=>
  have hdn:d=[]:=(jd (t:=[])).mp hdn;exact q _ _ _ s1 (congrArg V.bl (dT (.inl hdn)).symm)
 ·next hdn=>
  have hdn: ¬d=[]:=fun z=>hdn (by rw[z]; rfl);refine cw hd1 ?_
  cb_eq
  rw[cU,show((d.length:Nat):Int)+1=((d.length+1:Nat):Int) by omega];refine iP (hs.mono s1.wd.sub) fun p2 hp2=>?_;have s2:=s1.newI wd hp2 (o:=.lst (dZ (bv s) none (some ((d.length+1:Nat):Int)))) aT;refine⟨by decide,fun p3 hp3=>?_⟩;have s3:=s2.newI wd hp3 (o:=.lst [.int 47]) aT;refine sj (s3.wd.sub _ _ (s3.same wd _ _ hd)) ax ?_ fun p4 hp4=>?_
  ·rw[cU];exact jx (bZ (m:=257) (by show d.length+1<=257; omega) (by decide))
  ·have s4:=s3.newI wd hp4 (o:=.lst (bv d++[.int 47])) aT;have h2:ak K _ p2 ((bi (s.take (d.length+1))).map V.int):=ak.of (s4.wd.sub _ _ (bu (s3.wd.noG hp4) _ _ (bu (s2.wd.noG hp3) _ _ (by rw[ax,EX,<-wm]; unfold bv; rw[vq]))));have h4:ak K (ah (ah (ah (ah H p (.lst [])) p2 (.lst (dZ (bv s) none (some ((d.length+1:Nat):Int))))) p3 (.lst [.int 47])) p4 (.lst (bv d++[.int 47]))) p4 ((bi (d++[47])).map V.int):=ak.of (by rw[ax,<-wm,<-MY]; rfl);refine mP h2 h4 (q _ _ _ s4 (congrArg V.bl ?_))
   have e:(bi (s.take (d.length+1))=bi (d++[47]))↔(d=[]\/s.take (d.length+1)=d++[47]):=by
    rw[jd];exact⟨.inr,fun z=>z.elim (fun y=>absurd y hdn) id⟩
   exact decide_eq_decide.mpr e
theorem ak.keep{A:Cn}{G H G1 H1:Hp}(wd:Wd A G H)(s:Step A G H G1 H1){a:aa}{xs:List V}(h:ak K H a xs):ak K H1 a xs:=by
 rcases h with(h|⟨o,h⟩)|h
 ·exact .inl (.inl (s.keep a _ h (wd.notL h fun _ z=>by cases z)))
 ·exact .inl (.inr ⟨o,s.keep a _ h (wd.notL h fun _ z=>by cases z)⟩)
 ·exact .inr h
def gf(A:Cn)(G:Hp)(m:aa)(cs:List MC):Prop:=∃dx lc opt dd,G m=some (.ins A.mat dx (dw lc opt dd))/\gS A G lc cs/\ib cs (·.opt) opt
theorem gf.mono{A:Cn}{G G':Hp}{a:aa}{cs:List MC}(e:bh G G')(h:gf A G a cs):gf A G' a cs:=by
 obtain⟨dx,lc,opt,dd,h1,h2,h3⟩:=h;exact⟨dx,lc,opt,dd,e _ _ h1,h2.mono e,h3⟩
theorem tZ{lc dd:aa}{opt:Nat}:(dw lc opt dd).lookup ("cells":Str)=some (.ref lc):=by rfl
theorem GH{lc dd:aa}{opt:Nat}:(dw lc opt dd).lookup ("optional":Str)=some (.int opt):=by rfl
theorem xc{lc dd:aa}{opt:Nat}:(dw lc opt dd).lookup ("steps":Str)=some (.ref dd):=by rfl
theorem EM{c:MC}:(jE c).lookup ("stays":Str)=some (.int c.stays):=by rfl
theorem EL{c:MC}:(jE c).lookup ("moves":Str)=some (.int c.moves):=by rfl
theorem Nf{c:MC}:(jE c).lookup ("optional":Str)=some (.bl c.opt):=by rfl
theorem tw(m k:Nat):decide (vb ((m:Int) / 2^((k:Int)).toNat) 1=1)=m.testBit k:=by
 rw[fm,UD,show(1:Int)=((1:Nat):Int)from rfl,ny];exact MR m k
def VE(K:aw)(A:Ad):Sp:=fun vs H Q _=>∃(G:Hp)(a:aa)(bs:List Bool),vs=[.ref a]/\Wd A.toCn G H/\ak K H a (bs.map V.bl)/\bs.length<=100000/\cQ A.toCn G H Q fun _ v=>∃n:Nat,v=.int n/\∀k,n.testBit k=true↔bs[k]?=some true
theorem MP(n i k:Nat):(n|||2^i).testBit k=true↔n.testBit k=true\/k=i:=by
 rw[zc,qi,oH,decide_eq_true_iff];exact⟨fun h=>h.imp id fun z=>z.symm,fun h=>h.imp id fun z=>z.symm⟩
theorem Bb(T:ba K mg A):Kn P w K mg base aX "places_of" 1 ["marks"] (VE K A):=by
 have sc:aW ["marks","places","place","mark"] ["marks"] (aI Ju):=bo;refine Kn.of T.YQ sc (fun vs H Q E h=>?_) (fun f cdv A0 outer s0 H vs Q E hr h=>?_)
 ·obtain⟨_,_,_,rfl,_⟩:=h; rfl
 obtain⟨G,a,bs,rfl,wd,hs,hl,q⟩:=h
 refine⟨_,(aq (pS 1 sc.nd aA)
   (aq (fX eZ rfl (nO rfl T.Xo (af (pv 0) ao)) (nM rfl (hW (gN 2 sc.nd) (hW (gN 3 sc.nd) nN)))
    (au (bz (dR (pv 3))
     (au (pS 1 sc.nd (bb xp (pv 1) (bb ji aA (pv 2)))))
     bE)))
   (au (aL (pv 1))))),?_⟩
 cb_eq
 refine qc hs (fun i σ H'=>∃(G1:Hp)(n:Nat)(o2 o3:Option V),σ=[some (.ref a),some (.int (n:Int)),o2,o3]/\Step A.toCn G H G1 H'/\n<2^i/\∀k,n.testBit k=true↔k<i/\bs[k]?=some true) ?_ ?_ ?_ ?_
 ·exact⟨G,0,none,none,rfl,Step.refl wd,by decide,fun k=>by simp⟩
 ·rintro i σ H' _ ⟨G1,n,_,_,_,s1,_⟩;exact ak.keep wd s1 hs
 ·rintro i x σ H' T0 hx ⟨G1,n,o2,o3,rfl,s1,hn,hb⟩ hT;obtain⟨b,hbi,rfl⟩:=eI hx;have hi:i<bs.length:=(aK.mp hbi).1;have s2:=s1.new wd hT (o:=.tup [.int (i:Nat),.bl b])
  cb_eq
  cases b with
  |true=>
   simp only[if_true];refine⟨jf (m:=1) (n:=1) (by decide) (by omega),?_⟩;rw[xm,tD];refine⟨G1,n|||2^i,_,_,rfl,s2,?_,fun k=>?_⟩
   ·exact Nat.or_lt_two_pow (qA hn (oG (by decide) (by omega))) (oG (by decide) (by omega))
   ·rw[MP,hb];constructor
    ·rintro(⟨h1,h2⟩|rfl)
     ·exact⟨by omega,h2⟩
     ·exact⟨by omega,hbi⟩
    ·rintro⟨h1,h2⟩;by_cases e:k=i
     ·exact .inr e
     ·exact .inl ⟨by omega,h2⟩
  |false=>
   simp only[aV,if_false];refine⟨G1,n,_,_,rfl,s2,qA hn (oG (by decide) (by omega)),fun k=>?_⟩;rw[hb];constructor
   ·rintro⟨h1,h2⟩; exact⟨by omega,h2⟩
   ·rintro⟨h1,h2⟩;refine⟨?_,h2⟩;by_cases e:k=i
    ·subst e; rw[hbi]at h2; cases h2
    ·omega
 ·rintro σ H' ⟨G1,n,o2,o3,rfl,s1,hn,hb⟩
  cb_eq
  refine q _ _ _ s1 ⟨n,rfl,fun k=>?_⟩;rw[hb,aE];exact⟨fun h=>h.2,fun h=>⟨(aK.mp h).1,h⟩⟩
theorem tY{cs:List MC}{f:MC->Bool}{n:Nat}(h:∀k,n.testBit k=true↔(cs.map f)[k]?=some true):ib cs f n:=fun k=>by
 rw[h k,cH];constructor
 ·intro e;obtain⟨c,h1,h2⟩:=vH.mp e;exact⟨c,h1,h2⟩
 ·rintro⟨c,h1,h2⟩;rw[h1];exact congrArg some h2
theorem Step.mat{A:Cn}{G H G1 H1:Hp}(wd:Wd A G H)(s:Step A G H G1 H1){x dx lc dd:aa}{opt:Nat}{cs:List MC}(ox:ar A H G1 H1 x (.ins A.mat dx (dw lc opt dd)))(od:ar A H G1 H1 dd (.dK []))(hc:gS A G1 lc cs):
  Step A G H (ah G1 x (.ins A.mat dx (dw lc opt dd))) H1:=by
 have sm:bh G1 (ah G1 x (.ins A.mat dx (dw lc opt dd))):=bu ox.g
 have hne:dd≠x:=fun z=>by
  have h1:=od.at_;rw[z,ox.at_]at h1;cases h1
 have cases_:∀m dx' lc' opt' dd',ah G1 x (.ins A.mat dx (dw lc opt dd)) m=some (.ins A.mat dx' (dw lc' opt' dd'))->(m=x/\lc'=lc/\dd'=dd)\/(m≠x/\G1 m=some (.ins A.mat dx' (dw lc' opt' dd'))):=fun m dx' lc' opt' dd' e=>by
  by_cases z:m=x
  ·subst z;rw[ax]at e;injection e with e;injection e with _ _ e;unfold dw at e;simp only[yJ,qH,V.ref.injEq,true_and,and_true]at e;exact .inl ⟨rfl,e.1.symm,e.2.2.symm⟩
  ·rw[aM z]at e;exact .inr ⟨z,e⟩
 refine⟨⟨fun b o e=>?_,fun m dx' lc' opt' dd' e=>?_,fun m dx1 lc1 opt1 m' dx2 lc2 opt2 dd' e e'=>?_,?_⟩,fun b h=>?_,s.keep,fun b h=>?_⟩
 ·by_cases z:b=x
  ·subst z; rw[ax]at e; cases e; exact ox.at_
  ·rw[aM z]at e; exact s.wd.sub b o e
 ·rcases cases_ m dx' lc' opt' dd' e with⟨_,rfl,rfl⟩|⟨_,e⟩
  ·exact⟨by rw[aM hne]; exact od.g,[],cs,od.at_,hc.mono sm,⟨by simp,fun k v z=>by cases z⟩⟩
  ·obtain⟨h1,kvs,cs',h2,h3,h4⟩:=s.wd.cach m dx' lc' opt' dd' e
   have:dd'≠x:=fun z=>by
    rw[z,ox.at_]at h2;cases h2
   exact⟨by rw[aM this]; exact h1,kvs,cs',h2,h3.mono sm,h4.mono sm⟩
 ·rcases cases_ m dx1 lc1 opt1 dd' e with⟨h1,_,h2⟩|⟨z,e1⟩<;>rcases cases_ m' dx2 lc2 opt2 dd' e' with⟨h3,_,h4⟩|⟨z',e2⟩
  ·rw[h1,h3]
  ·rw[h2]at e2; exact absurd (.inr ⟨m',dx2,lc2,opt2,e2⟩) od.nc
  ·rw[h4]at e1; exact absurd (.inr ⟨m,dx1,lc1,opt1,e1⟩) od.nc
  ·exact s.wd.inj _ _ _ _ _ _ _ _ _ e1 e2
 ·obtain⟨h1,ps,h2,h3⟩:=s.wd.tab;exact⟨by rw[aM (fun z=>ox.nc (.inl z.symm))]; exact h1,ps,h2,h3.mono sm⟩
 ·have:b≠x:=fun z=>h (by rw[z]; exact ox.new);rw[aM this]; exact s.grow b h
 ·rcases h with h|⟨m,dx',lc',opt',e⟩
  ·exact s.newc b (.inl h)
  rcases cases_ m dx' lc' opt' b e with⟨_,_,rfl⟩|⟨_,e⟩
  ·exact .inr od.new
  ·exact s.newc b (.inr ⟨m,dx',lc',opt',e⟩)
def UQ(A:Ad):Sp:=fun vs H Q _=>∃(G H1:Hp)(x dx lc:aa)(cs:List MC),vs=[.ref x,.ref lc]/\H=ah (ah H1 dx (.own x)) x (.ins A.mat dx [])/\H1 x=none/\H1 dx=none/\dx≠x/\Wd A.toCn G H1/\gS A.toCn G lc cs/\cs.length<=100000/\
 ∀G' H',Step A.toCn G H1 G' H'->gf A.toCn G' x cs->Q .non H'
theorem Qu(T:ba K mg A):fA P w K mg base aX A.mat "Matcher" 2 ["self","cells"] (UQ A):=by
 have sc:aW ["self","cells","cell"] ["self","cells"] (aI Io):=bo;refine fA.of T.Zh sc (fun vs H Q E h=>?_) (fun f cdv A0 outer s0 H vs Q E hr h=>?_)
 ·obtain⟨_,_,_,_,_,_,rfl,_⟩:=h; rfl
 obtain⟨G,H1,x,dx,lc,cs,rfl,rfl,hx,hdx,hne,wd,hc,hl,q⟩:=h;have hu:=mr hr;have s1:Step A.toCn G H1 G (ah H1 dx (.own x)):=(Step.refl wd).new wd hdx;have hx1:ah H1 dx (.own x) x=none:=by rw[aM (bq hne)]; exact hx
 have s2:=s1.new wd hx1 (o:=.ins A.mat dx []);have o2:=ar.make wd s1 hx1 (o:=.ins A.mat dx [])
 refine⟨_,(aq (fe (pv 0) (pv 1) rfl)
   (aq (fe (pv 0) (cF (Bb T) hr (af (hO rfl sc.nd (dt (pv 1)) (own:=[("cell",2)]) (fE (by kernel_rfl)) (fun _ _ _ _ _=>by exact(gN 2 sc.nd)) (fun _ _ _ _ _=>by exact jN) (fun _ _ _ _ _=>by exact(rL (K:=K) rfl (pv 2) rfl))) ao)) rfl)
   (au (fe (pv 0) HH rfl)))),?_⟩
 cb_eq
 refine fi o2.at_ T.Xg T.Xv (by decide) ?_;have s3:=s2.put wd o2 (o':=.ins A.mat dx (bT "cells" (.ref lc) []));have o3:=o2.put_ (o':=.ins A.mat dx (bT "cells" (.ref lc) []));obtain⟨as,ha,pr⟩:=hc;have hc:gS A.toCn G lc cs:=⟨as,ha,pr⟩
 cb_eq
 refine gR (ak.of (s3.wd.sub _ _ ha)) (fun D i H'=>Step A.toCn G H1 G H'/\ar A.toCn H1 G H' x (.ins A.mat dx (bT "cells" (.ref lc) []))/\ar A.toCn H1 G H' D (.lst ((cs.take i).map fun c=>V.bl c.opt))) ?_ ?_ ?_ ?_
 ·intro D hD;exact⟨s3.new wd hD,o3.new_ hD,ar.make wd s3 hD⟩
 ·rintro D i H' _ ⟨s4,_⟩;exact ak.of (s4.wd.sub _ _ ha)
 ·rintro D i v H' hv ⟨s4,o4,od⟩;obtain⟨p2,hp2,rfl⟩:=eI hv;obtain⟨c,hc2,dc,hb⟩:=dH pr hp2
  cb_eq
  refine bx (s4.wd.sub _ _ hb) T.Xp T.XU Nf ?_;have hi:i<cs.length:=(aK.mp hc2).1;have hxD:x≠D:=mD o4.at_ od.at_ (by intro z; cases z);refine⟨_,od.at_,?_,s4.put wd od,o4.other hxD,?_⟩
  ·rw[aE,cP];exact bZ (m:=100000) (by omega) (by decide)
  ·rw[PM.take_snoc hc2,cv];exact od.put_
 ·rintro D H' ⟨s4,o4,od⟩;rw[aE,bR pr,cq]at od
  cb_eq
  refine⟨G,D,cs.map (·.opt),rfl,s4.wd,ak.of (by rw[od.at_,gB]; rfl),by rw[aE]; exact hl,fun G5 H5 v s5 hv=>?_⟩;obtain⟨n,rfl,hn⟩:=hv;have s6:=s4.trans wd s5;have o6:=o4.call s5;refine fi o6.at_ T.Xg T.XJ pG ?_;have s7:=s6.put wd o6 (o':=.ins A.mat dx (bT "optional" (.int (n:Int)) (bT "cells" (.ref lc) [])));have o7:=o6.put_ (o':=.ins A.mat dx (bT "optional" (.int (n:Int)) (bT "cells" (.ref lc) [])))
  cb_eq
  intro dd hdd;have s8:=s7.new wd hdd (o:=.dK []);have o8:=o7.new_ hdd (o':=.dK []);have od8:=ar.make wd s7 hdd (o:=.dK []);refine fi o8.at_ T.Xg T.Xy tU ?_;have hxd:x≠dd:=mD o8.at_ od8.at_ (by intro z; cases z);have s9:=s8.put wd o8 (o':=.ins A.mat dx (dw lc n dd));have o9:=o8.put_ (o':=.ins A.mat dx (dw lc n dd));have od9:=od8.other (bq hxd) (o':=.ins A.mat dx (dw lc n dd));have hc9:=hc.mono (s9.same wd);refine q _ _ (s9.mat wd o9 od9 hc9) ⟨dx,lc,n,dd,ax,hc9.mono (bu o9.g),tY hn⟩
theorem tX{cs:List MC}{f:MC->Bool}{n:Nat}(h:ib cs f n):n<2^cs.length:=by
 refine zb n fun i hi=>?_;cases e:n.testBit i with
 |false=>rfl
 |true=>
  obtain⟨c,hc,_⟩:=(h i).mp e;have:=(aK.mp hc).1;omega
theorem Ei{m n k:Nat}(h:n<2^k):m&&&n<2^k:=vy Nat.and_le_right h
def Vc(A:Ad):Sp:=fun vs H Q _=>∃(G:Hp)(m:aa)(cs:List MC)(f:Nat),vs=[.ref m,.int f]/\Wd A.toCn G H/\gf A.toCn G m cs/\cs.length<=100000/\∀opt r:Nat,ib cs (·.opt) opt->oo opt f r->Q (.int r) H
theorem xi(T:ba K mg A):cM P w K mg base aX A.mat "entered" 1 ["self","fresh"] (Vc A):=by
 have sc:aW ["self","fresh","reached"] ["self","fresh"] (aI Im):=bo;refine cM.of T.Zo sc (fun vs H Q E h=>?_) (fun f cdv A0 outer s0 H vs Q E hr h=>?_)
 ·obtain⟨_,_,_,_,rfl,_⟩:=h; rfl
 obtain⟨G,m,cs,fr,rfl,wd,⟨dx,lc,opt,dd,hm,hc,ho⟩,hl,q⟩:=h;have hm1:=wd.sub _ _ hm
 refine⟨_,(aq (pS 2 sc.nd (pv 1))
   (aq (pT eZ (bI uj (bb jI (pv 1) (bK (pv 0) rfl)) aA (bp _))
    (aq (pS 1 sc.nd (bb ji (bb jI (pv 1) (bK (pv 0) rfl)) aA))
    (au (pS 2 sc.nd (bb xp (pv 2) (pv 1))))))
   (au (aL (pv 2))))),?_⟩
 cb_eq
 refine qd (fun mm σ H'=>∃t,mm=cs.length-t/\σ=[some (.ref m),some (.int (gI opt fr t:Nat)),some (.int (ux opt fr t:Nat))]/\H'=H) ⟨_,0,rfl,rfl,rfl⟩ ?_;rintro mm σ H' ⟨t,rfl,rfl,rfl⟩
 cb_eq
 refine bx hm1 T.Xg T.XJ GH ?_
 cb_eq
 rw[ny];by_cases hz:gI opt fr t&&&opt=0
 ·rw[hz];rw[show decide (((0:Nat):Int)=0)=true from rfl];simp only[eX,aV,if_false]
  cb_eq
  exact q _ _ ho (Ul hz)
 ·rw[show decide (((gI opt fr t&&&opt:Nat):Int)=0)=false from dF (by omega)];simp only[eD,if_true];refine⟨_,fun _ _ z=>z,?_⟩;refine bx hm1 T.Xg T.XJ GH ?_
  cb_eq
  rw[ny];refine⟨jf (k:=1) (n:=cs.length) (Ei (tX ho)) (by omega),?_⟩;have ht:=Om (tX ho) hz;have e:((gI opt fr t&&&opt:Nat):Int)*2^(fM 1)=((gI opt fr (t+1):Nat):Int):=xK _ 1;rw[e,tD];exact⟨cs.length-(t+1),by omega,t+1,rfl,rfl⟩
def Vk(A:Ad):Sp:=fun vs H Q _=>∃(G:Hp)(m:aa)(cs:List MC)(st:Nat),vs=[.ref m,.int st]/\Wd A.toCn G H/\gf A.toCn G m cs/\Q (.bl (st.testBit cs.length)) H
theorem GZ(T:ba K mg A):cM P w K mg base aX A.mat "is_through" 1 ["self","places"] (Vk A):=by
 have sc:aW ["self","places"] ["self","places"] (aI Ip):=bo;refine cM.of T.Zp sc (fun vs H Q E h=>?_) (fun f cdv A0 outer s0 H vs Q E hr h=>?_)
 ·obtain⟨_,_,_,_,rfl,_⟩:=h; rfl
 obtain⟨G,m,cs,st,rfl,wd,⟨dx,lc,opt,dd,hm,⟨as,ha,pr⟩,ho⟩,q⟩:=h;refine⟨_,(au (aL (fJ eB (bb jI (bb uk (pv 1) (cL T.Xe (bK (pv 0) rfl))) aA) aA (bp _)))),?_⟩
 cb_eq
 refine bx (wd.sub _ _ hm) T.Xg T.Xv tZ ?_;refine cw (ak.of (wd.sub _ _ ha)) ?_
 cb_eq
 rw[aE,bR pr];refine⟨by omega,?_⟩;rw[tw];exact q
theorem Step.cacheW{A:Cn}{G H G1 H1:Hp}(wd:Wd A G H)(s:Step A G H G1 H1){m dx lc dd:aa}{opt:Nat}{cs:List MC}{kvs:List (aP×V)}(hm:G m=some (.ins A.mat dx (dw lc opt dd)))(hc:gS A G1 lc cs)(hv:kZ G1 cs kvs):Step A G H G1 (ah H1 dd (.dK kvs)):=by
 have hm1:=s.same wd _ _ hm;refine⟨⟨fun b o e=>?_,fun m' dx' lc' opt' dd' e=>?_,s.wd.inj,?_⟩,s.grow,fun b o h q=>?_,s.newc⟩
 ·have:b≠dd:=fun z=>by rw[z,(s.wd.cach _ _ _ _ _ hm1).1]at e; cases e
  rw[aM this]; exact s.wd.sub b o e
 ·obtain⟨h1,kvs',cs',h2,h3,h4⟩:=s.wd.cach m' dx' lc' opt' dd' e;by_cases z:dd'=dd
  ·subst z;have:=s.wd.inj _ _ _ _ _ _ _ _ _ e hm1;subst this;rw[e]at hm1;injection hm1 with hm1;injection hm1 with _ _ hm1;unfold dw at hm1;simp only[yJ,qH,V.ref.injEq,true_and,and_true]at hm1;rw[hm1.1]at h3⊢;exact⟨h1,kvs,cs,ax,hc,hv⟩
  ·exact⟨h1,kvs',cs',by rw[aM z]; exact h2,h3,h4⟩
 ·obtain⟨h1,ps,h2,h3⟩:=s.wd.tab
  have:A.tab≠dd:=fun z=>by
   obtain⟨_,_,_,y,_⟩:=s.wd.cach _ _ _ _ _ hm1;rw[<-z,h2]at y;cases y
  exact⟨h1,ps,by rw[aM this]; exact h2,h3⟩
 ·have:b≠dd:=fun z=>q (.inr ⟨m,dx,lc,opt,by rw[z]; exact hm⟩);rw[aM this]; exact s.keep b o h q
theorem kZ.len{G:Hp}{cs:List MC}{kvs:List (aP×V)}(h:kZ G cs kvs):kvs.length<=256:=by
 have h1:∀k∈kvs.map (·.1),∃c:UInt8,k=bW (c.toNat:Int):=fun k hk=>by
  cases e:cf kvs k with
  |none=>exact absurd hk (CJ e)
  |some v=>
   obtain⟨c,_,_,_,h1,_⟩:=h.at_ k v e;exact⟨c,h1⟩
 have h2:=lC 256 ((kvs.map (·.1)).map fun(k:aP)=>match k with|.inl i=>i.toNat|.inr _=>0) ?_ ?_
 ·rw[aE,aE]at h2;exact h2
 ·refine kQ.mpr (sA ?_ h.nd);intro a b ha hb hne q;obtain⟨c,rfl⟩:=h1 a ha;obtain⟨d,rfl⟩:=h1 b hb;have q:((c.toNat:Int)).toNat=((d.toNat:Int)).toNat:=q;rw[fm,fm]at q;exact hne (by rw[q])
 ·intro x hx;obtain⟨k,hk,rfl⟩:=bP.mp hx;obtain⟨c,rfl⟩:=h1 k hk;exact kG c
theorem GR{kvs:List (aP×V)}{k:aP}(v:V)(hn:(kvs.map (·.1)).Nodup):((dj kvs k v).map (·.1)).Nodup:=by
 cases e:cf kvs k with
 |none=>exact PV v hn e
 |some u=>
  have:(dj kvs k v).map (·.1)=kvs.map (·.1):=by
   unfold dj;have h1:(kvs.any fun kv=>decide (kv.1=k))=true:=by rw[nX,e]; rfl
   rw[if_pos h1,gB];refine vp fun p _=>?_;show(if p.1=k then(p.1,v)else p).1=p.1;split<;>rfl
  rw[this]; exact hn
theorem kZ.put{G:Hp}{cs:List MC}{kvs:List (aP×V)}(h:kZ G cs kvs){c:UInt8}{t:aa}{sm mm:Nat}(ht:G t=some (.tup [.int sm,.int mm]))(h1:ib cs (fun x=>bF x.stays c) sm)(h2:ib cs (fun x=>bF x.moves c) mm):kZ G cs (dj kvs (bW (c.toNat:Int)) (.ref t)) where
 nd:=GR _ h.nd
 at_ k v e:=by
  rw[yc]at e;split at e
  ·next z=>cases e; exact⟨c,t,sm,mm,z,rfl,ht,h1,h2⟩
  ·exact h.at_ k v e
def VQ(A:Ad):Sp:=fun vs H Q _=>∃(G:Hp)(m:aa)(cs:List MC)(c:UInt8),vs=[.ref m,.int (c.toNat:Int)]/\Wd A.toCn G H/\gf A.toCn G m cs/\cs.length<=100000/\
 cQ A.toCn G H Q fun G' v=>∃(t:aa)(sm mm:Nat),v=.ref t/\G' t=some (.tup [.int sm,.int mm])/\ib cs (fun x=>bF x.stays c) sm/\ib cs (fun x=>bF x.moves c) mm
theorem Qx(T:ba K mg A):cM P w K mg base aX A.mat "steps_of" 2 ["self","byte"] (VQ A):=by
 have sc:aW ["self","byte","stays","cell","moves"] ["self","byte"] (aI Ir):=bo;refine cM.of T.Zr sc (fun vs H Q E h=>?_) (fun f cdv A0 outer s0 H vs Q E hr h=>?_)
 ·obtain⟨_,_,_,_,rfl,_⟩:=h; rfl
 obtain⟨G,m,cs,c,rfl,wd,⟨dx,lc,opt,dd,hm,hc,ho⟩,hl,q⟩:=h;have hu:=mr hr;have hm1:=wd.sub _ _ hm;obtain⟨as,ha,pr⟩:=hc;have hc:gS A.toCn G lc cs:=⟨as,ha,pr⟩
 have marks:∀(G1 H1:Hp)(fld:MC->Nat)(te:TE)(Qk:VK)(σ:St),Step A.toCn G H G1 H1->(∀(σ2:St)(p:aa)(H2:Hp)(Q:VK)(d:MC)(dc:aa),H2 p=some (.ins A.cell dc (jE d))->σ2[0]?=some (some (.ref m))->σ2[1]?=some (some (.int (c.toNat:Int)))->σ2[3]?=some (some (.ref p))->Q (.bl ((fld d).testBit c.toNat)) H2->te σ2 H2 Q)->
   σ.length=5->σ[0]?=some (some (.ref m))->σ[1]?=some (some (.int (c.toNat:Int)))->(∀D H2,Step A.toCn G H G1 H2->ar A.toCn H G1 H2 D (.lst (cs.map fun d=>V.bl ((fld d).testBit c.toNat)))->Qk (.ref D) H2)->
   vd K (.ref lc) H1 fun J H=>sv J (lr 3) CA te [3] σ H Qk:=by
  intro G1 H1 fld te Qk σ s1 hte hσ hσ0 hσ1 hQ;have ha1:=s1.same wd _ _ ha;refine gR (ak.of (s1.wd.sub _ _ ha1)) (fun D i H'=>Step A.toCn G H G1 H'/\ar A.toCn H G1 H' D (.lst ((cs.take i).map fun d=>V.bl ((fld d).testBit c.toNat)))) ?_ ?_ ?_ ?_
  ·intro D hD;exact⟨s1.new wd hD,ar.make wd s1 hD⟩
  ·rintro D i H' _ ⟨s4,_⟩;exact ak.of (s4.wd.sub _ _ ha1)
  ·rintro D i v H' hv ⟨s4,od⟩;obtain⟨p2,hp2,rfl⟩:=eI hv;obtain⟨d,hc2,dc,hb⟩:=dH pr hp2;have hi:i<cs.length:=(aK.mp hc2).1;simp only[HV,HW,if_true];refine⟨?_,?_⟩
   ·show((cn σ [3]).set 3 (some (V.ref p2))).set 3 none=_;rw[vv];show((σ.set 3 none).set 3 none)=_;rw[vv];rfl
   refine hte _ p2 _ _ d dc (s4.wd.sub _ _ (s1.same wd _ _ hb)) ?_ ?_ ?_ ⟨_,od.at_,?_,s4.put wd od,?_⟩
   ·show((σ.set 3 none).set 3 (some (V.ref p2)))[0]?=_;rw[vv,qv (by decide)]; exact hσ0
   ·show((σ.set 3 none).set 3 (some (V.ref p2)))[1]?=_;rw[vv,qv (by decide)]; exact hσ1
   ·show((σ.set 3 none).set 3 (some (V.ref p2)))[3]?=_;rw[vv,sG (by omega)]
   ·rw[aE,cP];exact bZ (m:=100000) (by omega) (by decide)
   ·rw[PM.take_snoc hc2,cv];exact od.put_
  ·rintro D H' ⟨s4,od⟩;rw[aE,bR pr,cq]at od;exact hQ D H' s4 od
 have tv:∀{σ:St}{n:Nat}{v:V}{H:Hp}{Q:VK},σ[n]?=some (some v)->Q v H->jT n σ H Q:=fun h q=>⟨_,h,q⟩
 refine⟨_,(aq (bz (rN (By hu (pv 1) (bK (pv 0) rfl)))
    (aq (pS 2 sc.nd (cF (Bb T) hr (af (hO rfl sc.nd (dt (bK (pv 0) rfl)) (own:=[("cell",3)]) (fE (by kernel_rfl)) (fun _ _ _ _ _=>by exact(gN 3 sc.nd)) (fun _ _ _ _ _=>by exact jN) (fun _ _ _ _ _=>by exact(fJ eB (bb jI (bb uk (rL (K:=K) rfl (pv 3) rfl) (pv 1)) aA) aA (bp _)))) ao)))
    (aq (pS 4 sc.nd (cF (Bb T) hr (af (hO rfl sc.nd (dt (bK (pv 0) rfl)) (own:=[("cell",3)]) (fE (by kernel_rfl)) (fun _ _ _ _ _=>by exact(gN 3 sc.nd)) (fun _ _ _ _ _=>by exact jN) (fun _ _ _ _ _=>by exact(fJ eB (bb jI (bb uk (rL (K:=K) rfl (pv 3) rfl) (pv 1)) aA) aA (bp _)))) ao)))
    (au (xx hu (bK (pv 0) rfl) (pv 1) (dQ (af (pv 2) (af (pv 4) ao))) rfl))))
    bE)
   (au (aL (mH hu (bK (pv 0) rfl) (pv 1) (fun _ _=>rfl))))),?_⟩
 cb_eq
 obtain⟨hdd,kvs,cs',hk,hcs,hv⟩:=wd.cach _ _ _ _ _ hm;have:=hcs.inj hc;subst this;refine bx hm1 T.Xg T.Xy xc ?_;refine uW (k:=bW (c.toNat:Int)) hk ?_
 cb_eq
 cases e:cf kvs (bW (c.toNat:Int))with
 |some v=>
  simp only[mZ,Bool.xor_true,eX,aV,if_false,qj];refine bx hm1 T.Xg T.Xy xc ?_;refine mO (k:=bW (c.toNat:Int)) hk e ?_;obtain⟨d,t,sm,mm,h1,rfl,h3,h4,h5⟩:=hv.at_ _ _ e;have:c=d:=by rw[iO]; injection h1 with h1; exact iT h1
  subst this;exact q _ _ _ (Step.refl wd) ⟨t,sm,mm,rfl,h3,h4,h5⟩
 |none=>
  simp only[qF,Bool.xor_false,if_true,qj,eD];refine bx hm1 T.Xg T.Xv tZ ?_;refine marks G H MC.stays _ _ _ (Step.refl wd) ?_ rfl rfl rfl fun D H2 s2 od=>?_
  ·intro σ2 p H2 Q2 d dc hp h0 h1 h3 q2
   cb_eq
   refine tv h3 ?_;refine bx hp T.Xp T.XI EM ?_;refine tv h1 ?_
   cb_eq
   refine⟨by omega,?_⟩;rw[tw];exact q2
  cb_eq
  refine⟨G,D,cs'.map fun d=>d.stays.testBit c.toNat,rfl,s2.wd,ak.of (by rw[od.at_,gB]; rfl),by rw[aE]; exact hl,fun G3 H3 v s3 hv3=>?_⟩;obtain⟨sm,rfl,hsm⟩:=hv3;have s23:=s2.trans wd s3;refine bx (s23.wd.sub _ _ (s23.same wd _ _ hm)) T.Xg T.Xv tZ ?_;refine marks G3 H3 MC.moves _ _ _ s23 ?_ rfl rfl rfl fun D2 H4 s4 od2=>?_
  ·intro σ2 p H2 Q2 d dc hp h0 h1 h3 q2
   cb_eq
   refine tv h3 ?_;refine bx hp T.Xp T.XH EL ?_;refine tv h1 ?_
   cb_eq
   refine⟨by omega,?_⟩;rw[tw];exact q2
  cb_eq
  refine⟨G3,D2,cs'.map fun d=>d.moves.testBit c.toNat,rfl,s4.wd,ak.of (by rw[od2.at_,gB]; rfl),by rw[aE]; exact hl,fun G5 H5 v s5 hv5=>?_⟩;obtain⟨mm,rfl,hmm⟩:=hv5;have s45:=s4.trans wd s5
  cb_eq
  refine⟨by decide,fun t ht=>?_⟩;have s6:=s45.newI wd ht (o:=.tup [.int (sm:Int),.int (mm:Int)]) cZ;have hm6:=s6.same wd _ _ hm;refine bx (s6.wd.sub _ _ hm6) T.Xg T.Xy xc ?_;obtain⟨_,kvs6,cs6,hk6,hcs6,hv6⟩:=s6.wd.cach _ _ _ _ _ hm6;have:=hcs6.inj (hcs.mono (s6.same wd));subst this;refine CS (k:=bW (c.toNat:Int)) hk6 (bZ hv6.len (by decide)) ?_;have hv7:=hv6.put (c:=c) (t:=t) (sm:=sm) (mm:=mm) ax (tY hsm) (tY hmm);have s7:=s6.cacheW wd hm hcs6 hv7
  cb_eq
  refine bx (s7.wd.sub _ _ hm6) T.Xg T.Xy xc ?_;refine mO (k:=bW (c.toNat:Int)) ax (by rw[yc,if_pos rfl]) ?_;exact q _ _ _ s7 ⟨t,sm,mm,rfl,ax,tY hsm,tY hmm⟩
theorem Py{lc dd:aa}{opt:Nat}:(dw lc opt dd).lookup ("steps_of":Str)=none:=by rfl
theorem xb{lc dd:aa}{opt:Nat}:(dw lc opt dd).lookup ("entered":Str)=none:=by rfl
theorem AF{lc dd:aa}{opt:Nat}:(dw lc opt dd).lookup ("after":Str)=none:=by rfl
theorem GG{lc dd:aa}{opt:Nat}:(dw lc opt dd).lookup ("is_through":Str)=none:=by rfl
theorem Pz{lc dd:aa}{opt:Nat}:(dw lc opt dd).lookup ("matched_ends":Str)=none:=by rfl
theorem Step.matAt{A:Cn}{G H G1 H1:Hp}(wd:Wd A G H)(s:Step A G H G1 H1){m:aa}{cs:List MC}(h:gf A G m cs):gf A G1 m cs:=h.mono (s.same wd)
def Kf(A:Ad):Sp:=fun vs H Q _=>∃(G:Hp)(m:aa)(cs:List MC)(c:UInt8)(st:Nat),vs=[.ref m,.int st,.int (c.toNat:Int)]/\Wd A.toCn G H/\gf A.toCn G m cs/\cs.length<=100000/\st<2^(cs.length+1)/\
 cQ A.toCn G H Q fun _ v=>∃r:Nat,v=.int r/\∀x,State cs x st->State cs (x++[c]) r
theorem Qv(T:ba K mg A):cM P w K mg base aX A.mat "after" 3 ["self","places","byte"] (Kf A):=by
 have sc:aW ["self","places","byte","steps"] ["self","places","byte"] (aI Il):=bo;refine cM.of T.Zn sc (fun vs H Q E h=>?_) (fun f cdv A0 outer s0 H vs Q E hr h=>?_)
 ·obtain⟨_,_,_,_,_,rfl,_⟩:=h; rfl
 obtain⟨G,m,cs,c,st,rfl,wd,hM,hl,hst,q⟩:=h;obtain⟨dx,lc,opt,dd,hm,hc,ho⟩:=hM;have hM:gf A.toCn G m cs:=⟨dx,lc,opt,dd,hm,hc,ho⟩
 refine⟨_,(aq (pS 3 sc.nd (hU (pv 0) T.Xg (Qx T) (hr.mono (by decide)) bA (af (pv 2) ao)))
   (au (aL (bb xp (bb jI (pv 1) (bM dg (pv 3) aA (fun _ _=>rfl))) (hU (pv 0) T.Xg (xi T) (hr.mono (by decide)) bA (af (bb ji (bb jI (pv 1) (bM dg (pv 3) aA (fun _ _=>rfl))) aA) ao)))))),?_⟩
 cb_eq
 refine eK (wd.sub _ _ hm) Py ?_;refine⟨G,m,cs,c,rfl,wd,hM,hl,fun G1 H1 v s1 hv=>?_⟩;obtain⟨t,sm,mm,rfl,ht,h1,h2⟩:=hv
 cb_eq
 refine cG (k:=0) (bQ.of (s1.wd.sub _ _ ht)) rfl ?_
 cb_eq
 rw[ny];refine eK (s1.wd.sub _ _ (s1.same wd _ _ hm)) xb ?_
 cb_eq
 refine cG (k:=1) (bQ.of (s1.wd.sub _ _ ht)) rfl ?_
 cb_eq
 rw[ny];refine⟨jf (k:=1) (n:=cs.length) (Ei (tX h2)) (by omega),?_⟩;have e:((st&&&mm:Nat):Int)*(2:Int)^(fM 1)=(((st&&&mm)<<<1:Nat):Int):=xK _ 1;rw[e];refine⟨G1,m,cs,_,rfl,s1.wd,s1.matAt wd hM,hl,fun opt' r ho' he=>?_⟩
 cb_eq
 rw[tD];exact q _ _ _ s1 ⟨_,rfl,fun x hx=>VZ ho' h1 h2 hx he⟩
theorem UH(l:List Seg)(p:bj):gK (ff l) p=gK l p:=by
 rw[mS,AI,AI];unfold ff;rw[BX,rV]
theorem BY(l:List Seg)(s:ag):gZ (ff l) s=gZ l s:=by
 unfold gZ;refine congrArg (fun f=>List.filter f (gG s)) ?_
 funext e
 exact UH l _
theorem FE(segs:List Seg)(s:ag)(i:Nat):(fI segs s i).length<=s.length:=by
 unfold fI;have h1:=oB (fun e=>gK segs (aG 47 (s.take e))) (cE 0 (s.take i));have h2:=uF (s.take i) 0;rw[cP]at h2;omega
def Vr(K:aw)(A:Ad):Sp:=fun vs H Q _=>∃(G:Hp)(m:aa)(cs:List MC)(l:List Seg)(a:aa)(s:ag),vs=[.ref m,.ref a]/\Wd A.toCn G H/\gf A.toCn G m cs/\cs.length<=100000/\iR l cs/\BL K G a s/\s.length<=256/\nF s/\
 cQ A.toCn G H Q fun G' v=>∃p,v=.ref p/\G' p=some (.lst (iv (gZ l s)))
theorem Qw(T:ba K mg A):cM P w K mg base aX A.mat "matched_ends" 4 ["self","path"] (Vr K A):=by
 have sc:aW ["self","path","ends","places","place","byte"] ["self","path"] (aI Iq):=bo;refine cM.of T.Zq sc (fun vs H Q E h=>?_) (fun f cdv A0 outer s0 H vs Q E hr h=>?_)
 ·obtain⟨_,_,_,_,_,_,rfl,_⟩:=h; rfl
 obtain⟨G,m,cs,l,a,s,rfl,wd,hM,hl,hco,hs,hsl,hg,q⟩:=h;obtain⟨dx,lc,opt,dd,hm,hc,ho⟩:=hM;have hM:gf A.toCn G m cs:=⟨dx,lc,opt,dd,hm,hc,ho⟩;have hco':iu cu aR bY (ff l) cs:=hco
 refine⟨_,(aq (pS 2 sc.nd (br ao))
   (aq (pS 3 sc.nd (hU (pv 0) T.Xg (xi T) (hr.mono (by decide)) bA (af aA ao)))
   (aq (fX eZ rfl (nO rfl T.Xo (af (pv 1) ao)) (nM rfl (hW (gN 4 sc.nd) (hW (gN 5 sc.nd) nN)))
    (aq (bz (bI eB (pv 3) aA (bp _))
     (au (aL (pv 2)))
     bE)
    (aq (bz (PW.pt (ur (bI eB (pv 5) (bB T.Xk rfl) (bp _)) (uu (dR (hU (pv 0) T.Xg (GZ T) (hr.mono (by decide)) bA (af (pv 3) ao))))))
     (au (eC (eJ eQ gh gi fV (pv 2) (af (pv 4) ao))))
     bE)
    (au (pS 3 sc.nd (hU (pv 0) T.Xg (Qv T) (hr.mono (by decide)) bA (af (pv 3) (af (pv 5) ao))))))))
   (aq (bz (dR (hU (pv 0) T.Xg (GZ T) (hr.mono (by decide)) bA (af (pv 3) ao)))
    (au (eC (eJ eQ gh gi fV (pv 2) (af (cL T.Xe (pv 1)) ao))))
    bE)
   (au (aL (pv 2))))))),?_⟩
 cb_eq
 refine⟨by decide,fun p hp=>?_⟩;have s1:=(Step.refl wd).new wd hp (o:=.lst []);have o1:=ar.make wd (Step.refl wd) hp (o:=.lst []);refine eK (s1.wd.sub _ _ hm) xb ?_;refine⟨G,m,cs,1,rfl,s1.wd,hM,hl,fun opt' r ho' he=>?_⟩
 cb_eq
 refine qc (hs.mono s1.wd.sub) (fun i σ H'=>∃(G1:Hp)(st:Nat)(o4 o5:Option V),σ=[some (.ref m),some (.ref a),some (.ref p),some (.int (st:Int)),o4,o5]/\Step A.toCn G H G1 H'/\ar A.toCn H G1 H' p (.lst (iv (fI (ff l) s i)))/\State cs (s.take i) st) ?_ ?_ ?_ ?_
 ·exact⟨G,r,none,none,rfl,s1,o1,VY ho' he⟩
 ·rintro i σ H' _ ⟨G1,_,_,_,_,s2,_⟩;exact(hs.mono (s2.same wd)).mono s2.wd.sub
 ·rintro i x σ H' T0 hx ⟨G1,st,o4,o5,rfl,s2,o2,hst⟩ hT;obtain⟨c,hcx,rfl⟩:=zJ hx;have hi:i<s.length:=(aK.mp hcx).1;have s3:=s2.new wd hT (o:=.tup [.int (i:Nat),.int (c.toNat:Int)]);have o3:=o2.new_ hT (o':=.tup [.int (i:Nat),.int (c.toNat:Int)]);have hM3:=s3.matAt wd hM;have hm3:=s3.wd.sub _ _ (s3.same wd _ _ hm)
  cb_eq
  simp only[decide_eq_true_eq];split
  ·next hz=>
   have hz:st=0:=by omega
   subst hz;refine q _ _ _ (s3.sealO wd o3 aT) ⟨p,rfl,?_⟩;rw[ax,<-BY,PJ mB hco' hg (by omega) hst]
  ·next hz=>
   have go:∀(H4:Hp),Step A.toCn G H G1 H4->ar A.toCn H G1 H4 p (.lst (iv (fI (ff l) s (i+1))))->
     Kf A [.ref m,.int (st:Int),.int (c.toNat:Int)] H4 (fun x H1=>∃(G1:Hp)(st:Nat)(o4 o5:Option V),[some (V.ref m),some (.ref a),some (.ref p),some x,some (.int (i:Nat)),some (.int (c.toNat:Int))]=[some (.ref m),some (.ref a),some (.ref p),some (.int (st:Int)),o4,o5]/\Step A.toCn G H G1 H1/\ar A.toCn H G1 H1 p (.lst (iv (fI (ff l) s (i+1))))/\State cs (s.take (i+1)) st) E0:=by
    intro H4 s4 o4;refine⟨G1,m,cs,c,st,rfl,s4.wd,s4.matAt wd hM,hl,VX hst,fun G5 H5 v s5 hv=>?_⟩;obtain⟨r5,rfl,hr5⟩:=hv;refine⟨G5,r5,_,_,rfl,s4.trans wd s5,o4.call s5,?_⟩;rw[PM.take_snoc hcx];exact hr5 _ hst
   have hm4:∀(H4:Hp),Step A.toCn G H G1 H4->H4 m=some (.ins A.mat dx (dw lc opt dd)):=fun H4 s4=>s4.wd.sub _ _ (s4.same wd _ _ hm);by_cases h47:c=47
   ·subst h47;rw[if_pos (by rfl)];refine eK hm3 GG ⟨G1,m,cs,st,rfl,s3.wd,hM3,?_⟩
    cb_eq
    have hth:st.testBit cs.length=true↔gK (ff l) (aG 47 (s.take i))=true:=by
     rw[hst.through,AD mB hco' hg];unfold gG;exact dn _ (xM.mpr ⟨i,by omega,hcx⟩)
    by_cases hb:st.testBit cs.length=true
    ·rw[if_pos hb];refine⟨eM (ak.of o3.at_),fZ o3.at_ ?_ ?_⟩
     ·rw[dG];exact bZ (FE _ _ _) (by show s.length<aY; exact bZ hsl (by decide))
     ·cb_eq
      have o5':=o3.put_ (o':=.lst (iv (fI (ff l) s i)++[.int (i:Nat)]))
      have e:iv (fI (ff l) s i)++[.int (i:Nat)]=iv (fI (ff l) s (i+1)):=by
       rw[Ah hcx,if_pos ⟨rfl,hth.mp hb⟩,<-ik];rfl
      rw[e]at o5';rw[e];exact eK (hm4 _ (s3.put wd o3)) AF (go _ (s3.put wd o3) o5')
    ·rw[if_neg hb]
     have e:fI (ff l) s (i+1)=fI (ff l) s i:=by
      rw[Ah hcx,if_neg (fun z=>hb (hth.mpr z.2)),cC]
     exact eK hm3 AF (go _ s3 (by rw[e]; exact o3))
   ·have h47': ¬((c.toNat:Int)=47):=fun z=>h47 (by rw[iO]; exact iT z);rw[if_neg h47']
    cb_eq
    have e:fI (ff l) s (i+1)=fI (ff l) s i:=by
     rw[Ah hcx,if_neg (fun z=>h47 z.1),cC]
    exact eK hm3 AF (go _ s3 (by rw[e]; exact o3))
 ·rintro σ H' ⟨G1,st,o4,o5,rfl,s2,o2,hst⟩;rw[cU]at o2 hst;rw[cq]at hst;have hm3:=s2.wd.sub _ _ (s2.same wd _ _ hm)
  cb_eq
  refine eK hm3 GG ⟨G1,m,cs,st,rfl,s2.wd,s2.matAt wd hM,?_⟩
  cb_eq
  have hth:st.testBit cs.length=true↔gK (ff l) (aG 47 s)=true:=by
   have:=AD mB hco' hg (e:=s.length) (by unfold gG; exact dC _ (by simp));rw[cq]at this;rw[hst.through,this]
  by_cases hb:st.testBit cs.length=true
  ·rw[if_pos hb];refine⟨eM (ak.of o2.at_),cw ((hs.mono (s2.same wd)).mono s2.wd.sub) ?_⟩;rw[cU];refine fZ o2.at_ ?_ ?_
   ·rw[dG];exact bZ (FE _ _ _) (by show s.length<aY; exact bZ hsl (by decide))
   ·cb_eq
    have o3:=o2.put_ (o':=.lst (iv (fI (ff l) s s.length)++[.int (s.length:Nat)]));refine q _ _ _ ((s2.put wd o2).sealO wd o3 aT) ⟨p,rfl,?_⟩;rw[ax,<-BY,GI,if_pos (hth.mp hb),<-ik];rfl
  ·rw[if_neg hb];refine q _ _ _ (s2.sealO wd o2 aT) ⟨p,rfl,?_⟩;rw[ax,<-BY,GI,if_neg (fun z=>hb (hth.mpr z)),cC]
theorem tL:ExcBaseFacts "ValueError" "ValueError.__new__" "ValueError.__init__" [.type "ValueError",.type "Exception",.type "BaseException",.type "object"]:=F.excBase_ValueError
def jY(A:Ad)(G H:Hp)(E:XK):Prop:=∀G' H',Step A.toCn G H G' H'->E (.ref A.fault) none H'
theorem jH(i:Nat):((i:Nat):Int)+1=((i+1:Nat):Int):=rfl
theorem GQ(i:Nat):((i:Nat):Int)+2=((i+2:Nat):Int):=rfl
def VI(K:aw)(A:Ad):Sp:=fun vs H Q E=>∃(G:Hp)(a:aa)(s:ag)(i:Nat),vs=[.ref a,.int i]/\Wd A.toCn G H/\BL K G a s/\
 (∀d,s[i+1]?=some d->cQ A.toCn G H Q fun G' v=>∃t,v=.ref t/\G' t=some (.tup [.int (d.toNat:Int),.int ((i+2:Nat):Int)]))/\(s[i+1]?=none->jY A G H E)
theorem Hi(T:ba K mg A):Kn P w K mg base (dv P w A.fault) "read_escaped" 1 ["part","place"] (VI K A):=by
 have sc:aW ["part","place"] ["part","place"] (aI Jy):=bo;refine Kn.ofF T.YU sc (fun vs H Q E h=>?_) (fun f cdv A0 outer s0 H vs Q E hr h=>?_)
 ·obtain⟨_,_,_,_,rfl,_⟩:=h; rfl
 obtain⟨G,a,s,i,rfl,wd,hs,q,qf⟩:=h
 refine⟨_,(aq (bz (bI ui (bb dP (pv 1) aA) (cL T.Xe (pv 0)) (bp _))
    (au (uq fU rfl rfl T.Xq T.Xr tL (af um ao)))
    bE)
   (au (aL (dQ (af (bM eT (pv 0) (bb dP (pv 1) aA) (fun _ _=>rfl)) (af (bb dP (pv 1) aA) ao)))))),?_⟩
 cb_eq
 refine cw (hs.mono wd.sub) ?_
 cb_eq
 rw[cU,jH];simp only[decide_eq_true_eq];split
 ·next h=>
  exact⟨by decide,qf (gT (by omega)) _ _ (Step.refl wd)⟩
 ·next h=>
  have hi:i+1<s.length:=by omega
  have e:s[i+1]?=some s[i+1]:=bL hi;refine fw (hs.mono wd.sub) (nA e) ?_;refine⟨by decide,fun t ht=>?_⟩;exact q _ e _ _ _ ((Step.refl wd).newI wd ht cZ) ⟨t,rfl,ax⟩
def VH(K:aw)(A:Ad):Sp:=fun vs H Q E=>∃(G:Hp)(a:aa)(s:ag)(i:Nat),vs=[.ref a,.int i]/\Wd A.toCn G H/\BL K G a s/\
 (∀c r j,inClass (s.drop i)=some (c,r)->At s i r j->cQ A.toCn G H Q fun G' v=>∃t,v=.ref t/\G' t=some (.tup [.int (c.toNat:Int),.int (j:Int)]))/\(inClass (s.drop i)=none->jY A G H E)
theorem Ow{c a b:UInt8}:gw (.int (c.toNat:Int)) [.int (a.toNat:Int),.int (b.toNat:Int)]=decide (c=a\/c=b):=by
 have:=wO c [a,b];rw[show bv [a,b]=[.int (a.toNat:Int),.int (b.toNat:Int)]from rfl]at this;rw[this];exact decide_eq_decide.mpr (by simp)
theorem Hh(T:ba K mg A):Kn P w K mg base (dv P w A.fault) "read_class_byte" 2 ["part","place"] (VH K A):=by
 have sc:aW ["part","place"] ["part","place"] (aI Jx):=bo;refine Kn.ofF T.YT sc (fun vs H Q E h=>?_) (fun f cdv A0 outer s0 H vs Q E hr h=>?_)
 ·obtain⟨_,_,_,_,rfl,_⟩:=h; rfl
 obtain⟨G,a,s,i,rfl,wd,hs,q,qf⟩:=h
 refine⟨_,(aq (bz (PW.pt (xA (bI ui (pv 1) (cL T.Xe (pv 0)) (bp _)) (xB (bI xo (bM eT (pv 0) (pv 1) (fun _ _=>rfl)) (dQ (af (bB T.Ya rfl) (af (bB T.Yb rfl) ao))) (by with_unfolding_all rfl)))))
    (au (uq fU rfl rfl T.Xq T.Xr tL (af um ao)))
    bE)
   (aq (bz (bI eB (bM eT (pv 0) (pv 1) (fun _ _=>rfl)) (bB T.XY rfl) (bp _))
    (au (aL (il (Hi T) (hr.mono (by decide)) (jj fU) rfl (af (pv 0) (af (pv 1) ao)))))
    bE)
   (au (aL (dQ (af (bM eT (pv 0) (pv 1) (fun _ _=>rfl)) (af (bb dP (pv 1) aA) ao))))))),?_⟩
 cb_eq
 refine cw (hs.mono wd.sub) ?_
 cb_eq
 rw[cU];by_cases hi:i<s.length
 ·have e:s[i]?=some s[i]:=bL hi;rw[dF (by omega)];simp only[aV,if_false];refine fw (hs.mono wd.sub) (nA e) ?_;refine⟨by decide,fun t ht=>?_⟩;have s1:=(Step.refl wd).new wd ht (o:=.tup [.int 93,.int 45]);refine WV (bQ.of ax) rfl rfl ?_
  cb_eq
  rw[show([V.int 93,.int 45]:List V)=[.int ((93:UInt8).toNat:Int),.int ((45:UInt8).toNat:Int)]from rfl,Ow];simp only[decide_eq_true_eq];split
  ·next h=>exact⟨by decide,qf (wN e h) _ _ s1⟩
  ·next h=>
   have h93:s[i]≠93:=fun z=>h (.inl z);have h45:s[i]≠45:=fun z=>h (.inr z);refine fw (hs.mono s1.wd.sub) (nA e) ?_
   cb_eq
   simp only[decide_eq_true_eq];split
   ·next h2=>
    have h2:s[i]=92:=by rw[iO]; exact iT h2
    have e2:=FV (by rw[e,h2]);refine⟨G,a,s,i,rfl,s1.wd,hs,fun d hd G2 H2 v s2 hv=>?_,fun hd G2 H2 s2=>?_⟩
    ·rw[hd]at e2;have hlt:=(aK.mp hd).1;exact q d (s.drop (i+2)) (i+2) e2 ⟨by omega,by omega,rfl⟩ _ _ _ (s1.trans wd s2) hv
    ·rw[hd]at e2;exact qf e2 _ _ (s1.trans wd s2)
   ·next h2=>
    have h2:s[i]≠92:=fun z=>h2 (by rw[z]; rfl);refine fw (hs.mono s1.wd.sub) (nA e) ?_;refine⟨by decide,fun t2 ht2=>?_⟩;exact q s[i] (s.drop (i+1)) (i+1) (FT e h93 h45 h2) ⟨by omega,by omega,rfl⟩ _ _ _ (s1.newI wd ht2 cZ) ⟨t2,rfl,by rw[ax]; rfl⟩
 ·rw[dT (by omega)];simp only[if_true];exact⟨by decide,qf (FU (by omega)) _ _ (Step.refl wd)⟩
def VL(K:aw)(A:Ad):Sp:=fun vs H Q E=>∃(G:Hp)(a:aa)(s:ag)(i:Nat),vs=[.ref a,.int i]/\Wd A.toCn G H/\BL K G a s/\
 (∀ab r j,fh (s.drop i)=some (ab,r)->At s i r j->ab.1<=ab.2->cQ A.toCn G H Q fun G' v=>∃t,v=.ref t/\G' t=some (.tup [.int (jc ab.1.toNat ab.2.toNat:Nat),.int (j:Int)]))/\(fh (s.drop i)=none->jY A G H E)
theorem nW(s:ag)(j:Nat)(c:UInt8):(s.drop j).take (j+1-j)=[c]↔(s.drop j).head?=some c:=by
 rw[show j+1-j=1 by omega];cases e:s.drop j with
 |nil=>simp
 |cons x r=>simp
theorem Hj(T:ba K mg A):Kn P w K mg base (dv P w A.fault) "read_stretch" 3 ["part","place"] (VL K A):=by
 have sc:aW ["part","place","first","low","behind","second","high"] ["part","place"] (aI JB):=bo;refine Kn.ofF T.YX sc (fun vs H Q E h=>?_) (fun f cdv A0 outer s0 H vs Q E hr h=>?_)
 ·obtain⟨_,_,_,_,rfl,_⟩:=h; rfl
 obtain⟨G,a,s,i,rfl,wd,hs,q,qf⟩:=h;have hu64:=hr.units
 refine⟨_,(aq (pS 2 sc.nd (il (Hh T) (hr.mono (by decide)) (jj fU) rfl (af (pv 0) (af (pv 1) ao))))
   (aq (pS 3 sc.nd (bM dg (pv 2) aA (fun _ _=>rfl)))
   (aq (pS 4 sc.nd (bM dg (pv 2) aA (fun _ _=>rfl)))
   (aq (bz (bI (Bh hu64) (iM iN (pv 0) (fW (pv 4)) (fW (bb dP (pv 4) aA))) (br (af (bB T.Yb rfl) ao)) (bp _))
    (au (aL (dQ (af (cF (xk T) hr (af (pv 3) (af (pv 3) ao))) (af (pv 4) ao)))))
    bE)
   (aq (pS 5 sc.nd (il (Hh T) (hr.mono (by decide)) (jj fU) rfl (af (pv 0) (af (bb dP (pv 4) aA) ao))))
   (aq (pS 6 sc.nd (bM dg (pv 5) aA (fun _ _=>rfl)))
   (aq (bz (bI pN (pv 6) (pv 3) (bp _))
    (au (uq fU rfl rfl T.Xq T.Xr tL (af um ao)))
    bE)
   (au (aL (dQ (af (cF (xk T) hr (af (pv 3) (af (pv 6) ao))) (af (bM dg (pv 5) aA (fun _ _=>rfl)) ao)))))))))))),?_⟩
 cb_eq
 refine⟨G,a,s,i,rfl,wd,hs,fun c r j hc hat G1 H1 v s1 hv=>?_,fun hc G1 H1 s1=>qf ?_ _ _ s1⟩
 ·obtain⟨t,rfl,ht⟩:=hv;obtain⟨hij,hjl,rfl⟩:=hat
  cb_eq
  refine cG (k:=0) (bQ.of (s1.wd.sub _ _ ht)) rfl ?_
  cb_eq
  refine cG (k:=1) (bQ.of (s1.wd.sub _ _ ht)) rfl ?_
  cb_eq
  rw[jH];refine iP ((hs.mono (s1.same wd)).mono s1.wd.sub) fun p2 hp2=>?_;rw[tH,wo];have s2:=s1.newI wd hp2 (o:=.lst (bv ((s.drop j).take (j+1-j)))) aT;refine⟨by decide,fun p3 hp3=>?_⟩;have s3:=s2.newI wd hp3 (o:=.lst [.int 45]) aT;have hb2:BL K (ah (ah H1 p2 (.lst (bv ((s.drop j).take (j+1-j))))) p3 (.lst [.int 45])) p2 ((s.drop j).take (j+1-j)):=eF (s3.wd.sub _ _ (bu (s2.wd.noG hp3) _ _ ax));have hb3:BL K (ah (ah H1 p2 (.lst (bv ((s.drop j).take (j+1-j))))) p3 (.lst [.int 45])) p3 [45]:=eF ax;refine CT hb2.ints hb3.ints ?_
  cb_eq
  have hd:(bi ((s.drop j).take (j+1-j))=bi [45])↔(s.drop j).head?=some 45:=by rw[jd,nW]
  by_cases h45:(s.drop j).head?=some 45
  ·rw[dT (hd.mpr h45)];simp only[eX,aV,if_false];refine⟨_,a,s,j+1,rfl,s3.wd,hs.mono (s3.same wd),fun c2 r2 j2 hc2 hat2 G4 H4 v s4 hv4=>?_,fun hc2 G4 H4 s4=>qf ?_ _ _ (s3.trans wd s4)⟩
   ·obtain⟨t4,rfl,ht4⟩:=hv4;obtain⟨hij2,hjl2,rfl⟩:=hat2;have s34:=s3.trans wd s4
    have est:fh (s.drop i)=if c<=c2 then some ((c,c2),s.drop j2)else none:=by
     unfold fh;rw[hc];simp only;rw[if_pos h45,fO,hc2]
    cb_eq
    refine cG (k:=0) (bQ.of (s34.wd.sub _ _ ht4)) rfl ?_
    cb_eq
    by_cases hle:c<=c2
    ·have hle':c.toNat<=c2.toNat:=sY.mp hle;rw[if_pos hle]at est;rw[dF (by omega)];simp only[aV,if_false];refine⟨c.toNat,c2.toNat,rfl,hle',by have:=kG c2; omega,?_⟩;refine cG (k:=1) (bQ.of (s34.wd.sub _ _ ht4)) rfl ?_;refine⟨by decide,fun t5 ht5=>?_⟩;exact q (c,c2) _ j2 est ⟨by omega,hjl2,rfl⟩ hle _ _ _ (s34.newI wd ht5 cZ) ⟨t5,rfl,ax⟩
    ·have hle': ¬c.toNat<=c2.toNat:=fun z=>hle (sY.mpr z);rw[if_neg hle]at est;rw[dT (by omega)];simp only[if_true];exact⟨by decide,qf est _ _ s34⟩
   ·unfold fh;rw[hc];simp only;rw[if_pos h45,fO,hc2]
  ·rw[dF (fun z=>h45 (hd.mp z))];simp only[eD,if_true]
   have est:fh (s.drop i)=some ((c,c),s.drop j):=by
    unfold fh;rw[hc];simp only;rw[if_neg h45]
   refine⟨c.toNat,c.toNat,rfl,aF _,by have:=kG c; omega,?_⟩;refine⟨by decide,fun t5 ht5=>?_⟩;exact q (c,c) _ j est ⟨by omega,hjl,rfl⟩ (sY.mpr (aF _)) _ _ _ (s3.newI wd ht5 cZ) ⟨t5,rfl,ax⟩
 ·unfold fh;rw[hc]
theorem tQ(s:ag)(i:Nat):(s.drop i).head?=s[i]?:=by
 rw[List.head?_drop]
theorem Wi{s:ag}{i:Nat}{x:(UInt8×UInt8)×ag}(h:fh (s.drop i)=some x):(s.drop i).head?≠some 93:=fun z=>by
 rw[tQ]at z;unfold fh at h;rw[wN z (.inl rfl)]at h;cases h
def Cf(K:aw)(A:Ad):Sp:=fun vs H Q E=>∃(G:Hp)(a:aa)(s:ag)(i:Nat),vs=[.ref a,.int i]/\Wd A.toCn G H/\BL K G a s/\
 (∀(rs:List (UInt8×UInt8))(n j:Nat),rs≠[]->jB (s.drop i) rs (s.drop j)->SetOf rs n->i<j->j<=s.length->(j=s.length\/(s.drop j).head?=some 93)->cQ A.toCn G H Q fun G' v=>∃t,v=.ref t/\G' t=some (.tup [.int (n:Int),.int (j:Int)]))/\
 ((s.drop i).head?=some 93\/PM.gz (s.drop i)=none->jY A G H E)
theorem Ro(T:ba K mg A):Kn P w K mg base (dv P w A.fault) "read_stretches" 4 ["part","place"] (Cf K A):=by
 have sc:aW ["part","place","stretch","byte_set"] ["part","place"] (aI JC):=bo;refine Kn.ofF T.YY sc (fun vs H Q E h=>?_) (fun f cdv A0 outer s0 H vs Q E hr h=>?_)
 ·obtain⟨_,_,_,_,rfl,_⟩:=h; rfl
 obtain⟨G,a,s,i,rfl,wd,hs,q,qf⟩:=h
 refine⟨_,(aq (pS 2 sc.nd (il (Hj T) (hr.mono (by decide)) (jj fU) rfl (af (pv 0) (af (pv 1) ao))))
   (aq (pS 3 sc.nd (bM dg (pv 2) aA (fun _ _=>rfl)))
   (aq (pS 1 sc.nd (bM dg (pv 2) aA (fun _ _=>rfl)))
   (aq (pT DK (PW.pt (ur (bI pN (pv 1) (cL T.Xe (pv 0)) (bp _)) (uu (bI uj (bM eT (pv 0) (pv 1) (fun _ _=>rfl)) (bB T.Ya rfl) (bp _)))))
    (aq (pS 2 sc.nd (il (Hj T) (hr.mono (by decide)) (jj fU) rfl (af (pv 0) (af (pv 1) ao))))
    (aq (pS 3 sc.nd (bb xp (pv 3) (bM dg (pv 2) aA (fun _ _=>rfl))))
    (au (pS 1 sc.nd (bM dg (pv 2) aA (fun _ _=>rfl)))))))
   (au (aL (dQ (af (pv 3) (af (pv 1) ao))))))))),?_⟩
 cb_eq
 refine⟨G,a,s,i,rfl,wd,hs,fun ab r j hab hat hle G1 H1 v s1 hv=>?_,fun hc G1 H1 s1=>qf ?_ _ _ s1⟩
 ·obtain⟨t,rfl,ht⟩:=hv;obtain⟨hij,hjl,rfl⟩:=hat
  cb_eq
  refine cG (k:=0) (bQ.of (s1.wd.sub _ _ ht)) rfl ?_
  cb_eq
  refine cG (k:=1) (bQ.of (s1.wd.sub _ _ ht)) rfl ?_
  cb_eq
  refine qd (fun mm σ H'=>∃(G2:Hp)(rs:List (UInt8×UInt8))(n j:Nat)(o2:Option V),mm=s.length-j/\σ=[some (.ref a),some (.int (j:Int)),o2,some (.int (n:Int))]/\Step A.toCn G H G2 H'/\rs≠[]/\jB (s.drop i) rs (s.drop j)/\SetOf rs n/\i<j/\j<=s.length)
   ⟨_,G1,[ab],_,j,_,rfl,rfl,s1,by simp,Kw (Ku _) (Wi hab) hab,Uw hle,hij,hjl⟩ ?_
  rintro mm σ H' ⟨G2,rs,n,j2,o2,rfl,rfl,s2,hrs,hst,hset,hij2,hjl2⟩;have hs2:=(hs.mono (s2.same wd)).mono s2.wd.sub
  cb_eq
  refine cw hs2 ?_
  cb_eq
  rw[cU];by_cases hlt:j2<s.length
  ·have e:s[j2]?=some s[j2]:=bL hlt;rw[dT (by omega)];simp only[if_true];refine fw hs2 (nA e) ?_
   cb_eq
   by_cases h93:s[j2]=93
   ·rw[dT (by rw[h93]; rfl)];simp only[eX,aV,if_false];refine⟨by decide,fun t5 ht5=>?_⟩;exact q rs n j2 hrs hst hset hij2 hjl2 (.inr (by rw[tQ,e,h93])) _ _ _ (s2.newI wd ht5 cZ) ⟨t5,rfl,ax⟩
   ·rw[dF (fun z=>h93 (by rw[iO]; exact iT z))];simp only[eD,if_true];have hh:(s.drop j2).head?≠some 93:=by rw[tQ,e]; exact fun z=>h93 (eE z)
    refine⟨_,fun _ _ z=>z,?_⟩;refine⟨G2,a,s,j2,rfl,s2.wd,hs.mono (s2.same wd),fun ab3 r3 j3 hab3 hat3 hle3 G3 H3 v s3 hv3=>?_,fun hc G3 H3 s3=>qf (.inr (Kt hst hh hc)) _ _ (s2.trans wd s3)⟩;obtain⟨t3,rfl,ht3⟩:=hv3;obtain⟨hij3,hjl3,rfl⟩:=hat3;have s23:=s2.trans wd s3
    cb_eq
    refine cG (k:=0) (bQ.of (s23.wd.sub _ _ ht3)) rfl ?_
    cb_eq
    rw[tD];refine cG (k:=1) (bQ.of (s23.wd.sub _ _ ht3)) rfl ?_
    cb_eq
    exact⟨s.length-j3,by omega,G3,rs++[ab3],_,j3,_,rfl,rfl,s23,by simp,Kw hst hh hab3,Ux hset hle3,by omega,hjl3⟩
  ·rw[dF (by omega)];simp only[aV,if_false];refine⟨by decide,fun t5 ht5=>?_⟩;exact q rs n j2 hrs hst hset hij2 hjl2 (.inl (by omega)) _ _ _ (s2.newI wd ht5 cZ) ⟨t5,rfl,ax⟩
 ·by_cases h93:(s.drop i).head?=some 93
  ·exact .inl h93
  ·exact .inr (Kt (Ku _) h93 hc)
def VG(K:aw)(A:Ad):Sp:=fun vs H Q E=>∃(G:Hp)(a:aa)(s:ag)(i:Nat),vs=[.ref a,.int i]/\Wd A.toCn G H/\BL K G a s/\s[i]?=some 91/\
 (∀at_ r n j,eA (s.drop i)=some (at_,r)->at_≠.star->ki at_.takes n->At s i r j->cQ A.toCn G H Q fun G' v=>∃t,v=.ref t/\G' t=some (.tup [.int (n:Nat),.int (j:Int)]))/\(eA (s.drop i)=none->jY A G H E)
theorem Qc{s:ag}{i:Nat}(h:s[i]?=some 91):eA (s.drop i)=match PM.gz (s.drop (if(s.drop (i+1)).head?=some 33 then i+2 else i+1))with
  |none=>none
  |some (rs,r)=>if rs.isEmpty=true then none else some (.cls ((s.drop (i+1)).head?==some 33) rs,r):=by
 rw[gr h];unfold eA;rw[if_neg (by decide),if_neg (by decide),if_neg (by decide),if_pos rfl];by_cases h33:(s.drop (i+1)).head?=some 33
 ·rw[if_pos h33,if_pos h33,fO]<;>rfl
 ·rw[if_neg h33,if_neg h33]<;>rfl
theorem ES{neg:Bool}{rs:List (UInt8×UInt8)}{n:Nat}(h:SetOf rs n):ki (bc.cls neg rs).takes (if neg=true then jc 0 255^^^n else n):=by
 cases neg with
 |true=>
  rw[if_pos rfl];have:=Uz h;exact⟨this.1,fun c=>by rw[this.2 c]; show(!(rs.any fun r=>decide (r.1<=c)&&decide (c<=r.2)))=(true != (rs.any fun r=>decide (r.1<=c)&&decide (c<=r.2))); generalize(rs.any fun r=>decide (r.1<=c)&&decide (c<=r.2))=b; cases b<;>rfl⟩
 |false=>
  rw[if_neg (by decide)];exact⟨h.1,fun c=>by rw[h.2 c]; show(rs.any fun r=>decide (r.1<=c)&&decide (c<=r.2))=(false != (rs.any fun r=>decide (r.1<=c)&&decide (c<=r.2))); generalize(rs.any fun r=>decide (r.1<=c)&&decide (c<=r.2))=b; cases b<;>rfl⟩
theorem Rm(T:ba K mg A):Kn P w K mg base (dv P w A.fault) "read_class" 5 ["part","place"] (VG K A):=by
 have sc:aW ["part","place","negated","stretches","byte_set","end"] ["part","place"] (aI Jw):=bo;refine Kn.ofF T.YS sc (fun vs H Q E h=>?_) (fun f cdv A0 outer s0 H vs Q E hr h=>?_)
 ·obtain⟨_,_,_,_,rfl,_⟩:=h; rfl
 obtain⟨G,a,s,i,rfl,wd,hs,h91,q,qf⟩:=h;have hu64:=hr.units;have hna:=Qc h91
 refine⟨_,(aq (pS 2 sc.nd (fJ (mF hu64) (iM iN (pv 0) (fW (bb dP (pv 1) aA)) (fW (bb dP (pv 1) aA))) (br (af (bB T.XZ rfl) ao)) (bp _)))
   (aq (pS 3 sc.nd (il (Ro T) (hr.mono (by decide)) (jj fU) rfl (af (pv 0) (af (BB (dR (pv 2)) (bb dP (pv 1) aA) (bb dP (pv 1) aA)) ao))))
   (aq (pS 4 sc.nd (bM dg (pv 3) aA (fun _ _=>rfl)))
   (aq (pS 5 sc.nd (bM dg (pv 3) aA (fun _ _=>rfl)))
   (aq (bz (bI eB (pv 5) (cL T.Xe (pv 0)) (bp _))
    (au (uq fU rfl rfl T.Xq T.Xr tL (af um ao)))
    bE)
   (aq (bz (dR (pv 2))
    (au (pS 4 sc.nd (bb Bj (cF (xk T) hr (af aA (af aA ao))) (pv 4))))
    bE)
   (au (aL (dQ (af (pv 4) (af (bb dP (pv 5) aA) ao))))))))))),?_⟩
 cb_eq
 rw[jH,GQ];refine iP (hs.mono wd.sub) fun p2 hp2=>?_;rw[tH,wo];have s2:=(Step.refl wd).newI wd hp2 (o:=.lst (bv ((s.drop (i+1)).take (i+2-(i+1))))) aT;refine⟨by decide,fun p3 hp3=>?_⟩;have s3:=s2.newI wd hp3 (o:=.lst [.int 33]) aT;have hb2:BL K (ah (ah H p2 (.lst (bv ((s.drop (i+1)).take (i+2-(i+1)))))) p3 (.lst [.int 33])) p2 ((s.drop (i+1)).take (i+2-(i+1))):=eF (s3.wd.sub _ _ (bu (s2.wd.noG hp3) _ _ ax));have hb3:BL K (ah (ah H p2 (.lst (bv ((s.drop (i+1)).take (i+2-(i+1)))))) p3 (.lst [.int 33])) p3 [33]:=eF ax;refine mP hb2.ints hb3.ints ?_;have hd:(bi ((s.drop (i+1)).take (i+2-(i+1)))=bi [33])↔(s.drop (i+1)).head?=some 33:=by rw[jd]; exact nW s (i+1) 33
 rw[decide_eq_decide.mpr hd]
 cb_eq
 have rest:∀k:Nat,k=(if(s.drop (i+1)).head?=some 33 then i+2 else i+1)->Cf K A [.ref a,.int (k:Int)] (ah (ah H p2 (.lst (bv ((s.drop (i+1)).take (i+2-(i+1)))))) p3 (.lst [.int 33])) (fun v H'=>∃(G4:Hp)(t:aa)(rs:List (UInt8×UInt8))(n j:Nat),v=.ref t/\Step A.toCn G H G4 H'/\G4 t=some (.tup [.int (n:Int),.int (j:Int)])/\rs≠[]/\jB (s.drop k) rs (s.drop j)/\SetOf rs n/\k<j/\j<=s.length/\(j=s.length\/(s.drop j).head?=some 93)) E:=by
  intro k hk;refine⟨_,a,s,k,rfl,s3.wd,hs.mono (s3.same wd),fun rs n j h1 h2 h3 h4 h5 h6 G4 H4 v s4 hv=>?_,fun hf G4 H4 s4=>qf ?_ _ _ (s3.trans wd s4)⟩
  ·obtain⟨t,rfl,ht⟩:=hv;exact⟨G4,t,rs,n,j,rfl,s3.trans wd s4,ht,h1,h2,h3,h4,h5,h6⟩
  ·rw[hna,<-hk];rcases hf with hf|hf
   ·rw[KC hf]; rfl
   ·rw[hf]
 have hgo:∀(k:Nat),k=(if(s.drop (i+1)).head?=some 33 then i+2 else i+1)->∀(Q':VK),(∀v H',(∃(G4:Hp)(t:aa)(rs:List (UInt8×UInt8))(n j:Nat),v=.ref t/\Step A.toCn G H G4 H'/\G4 t=some (.tup [.int (n:Int),.int (j:Int)])/\rs≠[]/\jB (s.drop k) rs (s.drop j)/\SetOf rs n/\k<j/\j<=s.length/\(j=s.length\/(s.drop j).head?=some 93))->Q' v H')->
   Cf K A [.ref a,.int (k:Int)] (ah (ah H p2 (.lst (bv ((s.drop (i+1)).take (i+2-(i+1)))))) p3 (.lst [.int 33])) Q' E:=by
  intro k hk Q' hQ;obtain⟨G0,a0,s0',i0,e1,e2,e3,e4,e5⟩:=rest k hk;exact⟨G0,a0,s0',i0,e1,e2,e3,fun rs n j h1 h2 h3 h4 h5 h6 G4 H4 v s4 hv=>hQ _ _ (e4 rs n j h1 h2 h3 h4 h5 h6 G4 H4 v s4 hv),e5⟩
 by_cases h33:(s.drop (i+1)).head?=some 33
 ·rw[dT h33];simp only[if_true];refine hgo (i+2) (by rw[if_pos h33]) _ ?_;rintro v H' ⟨G4,t,rs,n,j,rfl,s4,ht,h1,h2,h3,h4,h5,h6⟩
  cb_eq
  refine cG (k:=0) (bQ.of (s4.wd.sub _ _ ht)) rfl ?_
  cb_eq
  refine cG (k:=1) (bQ.of (s4.wd.sub _ _ ht)) rfl ?_
  cb_eq
  refine cw ((hs.mono (s4.same wd)).mono s4.wd.sub) ?_
  cb_eq
  rw[cU];rw[if_pos h33]at hna;by_cases hj:j=s.length
  ·rw[dT (by omega)];simp only[if_true];refine⟨by decide,qf ?_ _ _ s4⟩;rw[hj,lT (aF _)]at h2;rw[hna,Kv h2]
  ·rw[dF (by omega)];simp only[aV,if_false,if_true];refine⟨0,255,rfl,by decide,by decide,?_⟩
   cb_eq
   rw[zK,jH];refine⟨by decide,fun t5 ht5=>?_⟩;have h7:=h6.resolve_left hj;rw[Kx h2 h7,fO]at hna;have hne: ¬rs.isEmpty=true:=by cases rs with|nil=>exact absurd rfl h1|cons x r=>simp
   simp only at hna;rw[if_neg hne,h33]at hna;have hct:=ES (neg:=true) h3;rw[if_pos rfl]at hct;exact q _ _ _ (j+1) hna (by simp) hct ⟨by omega,by omega,rfl⟩ _ _ _ (s4.newI wd ht5 cZ) ⟨t5,rfl,ax⟩
 ·rw[dF h33];simp only[aV,if_false];refine hgo (i+1) (by rw[if_neg h33]) _ ?_;rintro v H' ⟨G4,t,rs,n,j,rfl,s4,ht,h1,h2,h3,h4,h5,h6⟩
  cb_eq
  refine cG (k:=0) (bQ.of (s4.wd.sub _ _ ht)) rfl ?_
  cb_eq
  refine cG (k:=1) (bQ.of (s4.wd.sub _ _ ht)) rfl ?_
  cb_eq
  refine cw ((hs.mono (s4.same wd)).mono s4.wd.sub) ?_
  cb_eq
  rw[cU];rw[if_neg h33]at hna;by_cases hj:j=s.length
  ·rw[dT (by omega)];simp only[if_true];refine⟨by decide,qf ?_ _ _ s4⟩;rw[hj,lT (aF _)]at h2;rw[hna,Kv h2]
  ·rw[dF (by omega)];simp only[aV,if_false,if_true];rw[jH];refine⟨by decide,fun t5 ht5=>?_⟩;have h7:=h6.resolve_left hj;rw[Kx h2 h7,fO]at hna;have hne: ¬rs.isEmpty=true:=by cases rs with|nil=>exact absurd rfl h1|cons x r=>simp
   simp only at hna;rw[if_neg hne,show((s.drop (i+1)).head?==some 33)=false from beq_eq_false_iff_ne.mpr h33]at hna;have hct:=ES (neg:=false) h3;rw[if_neg (by decide)]at hct;exact q _ _ _ (j+1) hna (by simp) hct ⟨by omega,by omega,rfl⟩ _ _ _ (s4.newI wd ht5 cZ) ⟨t5,rfl,ax⟩
theorem AO{s:ag}{i:Nat}(h:s[i]?=some 42):eA (s.drop i)=some (.star,s.drop (i+1)):=by
 rw[gr h]; rfl
theorem Qa{s:ag}{i:Nat}(h:s[i]?=some 63):eA (s.drop i)=some (.any,s.drop (i+1)):=by
 rw[gr h]; rfl
theorem Qe{s:ag}{i:Nat}(h:s[i]?=some 92):eA (s.drop i)=match s[i+1]? with
  |none=>none
  |some d=>some (.byte d,s.drop (i+2)):=by
 rw[gr h];unfold eA;rw[if_neg (by decide),if_neg (by decide),if_pos rfl];cases e:s[i+1]? with
 |none=>
  rw[lT (Dt.mp e)]
 |some d=>rw[gr e]
theorem Qb{s:ag}{i:Nat}{c:UInt8}(h:s[i]?=some c)(h1:c≠42)(h2:c≠63)(h3:c≠92)(h4:c≠91):eA (s.drop i)=some (.byte c,s.drop (i+1)):=by
 rw[gr h];unfold eA;rw[if_neg h1,if_neg h2,if_neg h3,if_neg h4]
theorem Qg{s:ag}{i:Nat}{a:bc}{r:ag}(h:eA (s.drop i)=some (a,r)):a=.star↔(s.drop i).head?=some 42:=by
 cases e:s.drop i with
 |nil=>rw[e]at h; cases h
 |cons c t=>
  rw[e]at h;show _↔some c=some 42;unfold eA at h;by_cases h1:c=42
  ·rw[if_pos h1]at h; cases h; simp[h1]
  ·rw[if_neg h1]at h;have hn: ¬some c=some (42:UInt8):=fun z=>h1 (eE z);refine⟨fun z=>?_,fun z=>absurd z hn⟩;subst z;split at h
   ·cases h
   ·split at h
    ·split at h
     ·cases h
     ·cases h
    ·split at h
     ·split at h
      ·cases h
      ·split at h
       ·cases h
       ·cases h
     ·cases h
theorem tE{c:UInt8}{k:Nat}(hk:k<256):((c.toNat:Int)=(k:Int))↔c=kl k:=by
 rw[iO,vW,vA hk];exact⟨fun z=>iT z,fun z=>by rw[z]⟩
def VF(K:aw)(A:Ad):Sp:=fun vs H Q E=>∃(G:Hp)(a:aa)(s:ag)(i:Nat),vs=[.ref a,.int i]/\Wd A.toCn G H/\BL K G a s/\i<s.length/\
 (∀at_ r j,eA (s.drop i)=some (at_,r)->At s i r j->cQ A.toCn G H Q fun G' v=>∃(t pc:aa)(c:MC),v=.ref t/\G' t=some (.tup [.ref pc,.int (j:Int)])/\CellAt A.toCn G' pc c/\og aR at_ c)/\(eA (s.drop i)=none->jY A G H E)
theorem Rk(T:ba K mg A):Kn P w K mg base (dv P w A.fault) "read_cell" 6 ["part","place"] (VF K A):=by
 have sc:aW ["part","place","byte","found","escaped"] ["part","place"] (aI Jv):=bo;refine Kn.ofF T.YR sc (fun vs H Q E h=>?_) (fun f cdv A0 outer s0 H vs Q E hr h=>?_)
 ·obtain⟨_,_,_,_,rfl,_⟩:=h; rfl
 obtain⟨G,a,s,i,rfl,wd,hs,hi,q,qf⟩:=h;have e:s[i]?=some s[i]:=bL hi
 have fin:∀(at_:bc)(j:Nat)(G1 H1:Hp)(pc:aa)(c:MC),Step A.toCn G H G1 H1->eA (s.drop i)=some (at_,s.drop j)->i<j->j<=s.length->CellAt A.toCn G1 pc c->og aR at_ c->([V.ref pc,.int (j:Int)]:List V).length<=aY/\∀t,H1 t=none->Q (.ref t) (ah H1 t (.tup [.ref pc,.int (j:Int)])):=by
  intro at_ j G1 H1 pc c s1 hn h1 h2 hc ha;refine⟨by show 2<=aY; decide,fun t ht=>?_⟩;exact q at_ _ j hn ⟨h1,h2,rfl⟩ _ _ _ (s1.newI wd ht cZ) ⟨t,pc,c,rfl,ax,hc.mono (bu (s1.wd.noG ht)),ha⟩
 refine⟨_,(aq (pS 2 sc.nd (bM eT (pv 0) (pv 1) (fun _ _=>rfl)))
   (aq (bz (bI eB (pv 2) (bB T.Xt rfl) (bp _))
    (au (aL (dQ (af (hJ (Ru T) (hr.mono (by decide)) bA rfl) (af (bb dP (pv 1) aA) ao)))))
    bE)
   (aq (bz (bI eB (pv 2) (bB T.ZV rfl) (bp _))
    (au (aL (dQ (af (cF (xj T) hr (af (hJ (pM T) (hr.mono (by decide)) bA rfl) ao)) (af (bb dP (pv 1) aA) ao)))))
    bE)
   (aq (bz (bI eB (pv 2) (bB T.ZU rfl) (bp _))
    (aq (pS 3 sc.nd (il (Rm T) (hr.mono (by decide)) (jj fU) rfl (af (pv 0) (af (pv 1) ao))))
    (au (aL (dQ (af (cF (xj T) hr (af (bM dg (pv 3) aA (fun _ _=>rfl)) ao)) (af (bM dg (pv 3) aA (fun _ _=>rfl)) ao))))))
    bE)
   (aq (bz (bI eB (pv 2) (bB T.XY rfl) (bp _))
    (aq (pS 4 sc.nd (il (Hi T) (hr.mono (by decide)) (jj fU) rfl (af (pv 0) (af (pv 1) ao))))
    (au (aL (dQ (af (cF (xj T) hr (af (bb ji aA (bM dg (pv 4) aA (fun _ _=>rfl))) ao)) (af (bM dg (pv 4) aA (fun _ _=>rfl)) ao))))))
    bE)
   (au (aL (dQ (af (cF (xj T) hr (af (bb ji aA (pv 2)) ao)) (af (bb dP (pv 1) aA) ao)))))))))),?_⟩
 cb_eq
 refine fw (hs.mono wd.sub) (nA e) ?_
 cb_eq
 have b42:((s[i].toNat:Int)=42)↔s[i]=42:=tE (k:=42) (by decide);have b63:((s[i].toNat:Int)=63)↔s[i]=63:=tE (k:=63) (by decide);have b91:((s[i].toNat:Int)=91)↔s[i]=91:=tE (k:=91) (by decide);have b92:((s[i].toNat:Int)=92)↔s[i]=92:=tE (k:=92) (by decide);simp only[decide_eq_true_eq,b42,b63,b91,b92];split
 ·next h=>
  refine⟨G,rfl,wd,fun G1 H1 v s1 hv=>?_⟩;obtain⟨pc,rfl,hc⟩:=hv
  cb_eq
  rw[jH];exact fin .star (i+1) G1 H1 pc _ s1 (AO (by rw[e,h])) (by omega) (by omega) hc rfl
 ·next h42=>
  split
  ·next h=>
   refine⟨rfl,?_⟩;refine⟨G,aR,rfl,wd,fun G1 H1 v s1 hv=>?_⟩;obtain⟨pc,rfl,hc⟩:=hv
   cb_eq
   rw[jH];exact fin .any (i+1) G1 H1 pc _ s1 (Qa (by rw[e,h])) (by omega) (by omega) hc Ng
  ·next h63=>
   split
   ·next h=>
    refine⟨G,a,s,i,rfl,wd,hs,by rw[e,h],fun at_ r n j hn hns hset hat G1 H1 v s1 hv=>?_,qf⟩;obtain⟨t1,rfl,ht1⟩:=hv;obtain⟨hij,hjl,rfl⟩:=hat
    cb_eq
    refine cG (k:=0) (bQ.of (s1.wd.sub _ _ ht1)) rfl ?_
    cb_eq
    refine⟨G1,n,rfl,s1.wd,fun G2 H2 v s2 hv2=>?_⟩;obtain⟨pc,rfl,hc⟩:=hv2;have s12:=s1.trans wd s2
    cb_eq
    refine cG (k:=1) (bQ.of (s2.wd.sub _ _ (s2.same s1.wd _ _ ht1))) rfl ?_;exact fin at_ j G2 H2 pc _ s12 hn hij hjl hc (zM hns hset)
   ·next h91=>
    split
    ·next h=>
     have hesc:=Qe (by rw[e,h]);refine⟨G,a,s,i,rfl,wd,hs,fun d hd G1 H1 v s1 hv=>?_,fun hd=>qf (by rw[hesc,hd])⟩;obtain⟨t1,rfl,ht1⟩:=hv;rw[hd]at hesc;have hlt:=(aK.mp hd).1
     cb_eq
     refine cG (k:=0) (bQ.of (s1.wd.sub _ _ ht1)) rfl ?_
     cb_eq
     refine⟨jf (m:=1) (n:=1) (by decide) (by have:=kG d; omega),?_⟩;rw[xm];refine⟨G1,_,rfl,s1.wd,fun G2 H2 v s2 hv2=>?_⟩;obtain⟨pc,rfl,hc⟩:=hv2;have s12:=s1.trans wd s2
     cb_eq
     refine cG (k:=1) (bQ.of (s2.wd.sub _ _ (s2.same s1.wd _ _ ht1))) rfl ?_;exact fin (.byte d) (i+2) G2 H2 pc _ s12 hesc (by omega) (by omega) hc (zM (by simp) (JS d))
    ·next h92=>
     refine⟨jf (m:=1) (n:=1) (by decide) (by have:=kG s[i]; omega),?_⟩;rw[xm];refine⟨G,_,rfl,wd,fun G2 H2 v s2 hv2=>?_⟩;obtain⟨pc,rfl,hc⟩:=hv2
     cb_eq
     rw[jH];exact fin (.byte s[i]) (i+1) G2 H2 pc _ s2 (Qb e h42 h63 h92 h91) (by omega) (by omega) hc (zM (by simp) (JS _))
def Vv(K:aw)(A:Ad):Sp:=fun vs H Q E=>∃(G:Hp)(a:aa)(s:ag),vs=[.ref a]/\Wd A.toCn G H/\BL K G a s/\s.length<=50000/\
 (∀as,s≠[]->ats s=some as->cQ A.toCn G H Q fun G' v=>∃(p:aa)(cs:List MC),v=.ref p/\gS A.toCn G' p cs/\jr aR (slim as) cs/\cs.length<=s.length)/\(s=[]\/ats s=none->jY A G H E)
theorem Wq(s:ag)(j:Nat):(s.drop j).take (j+2-j)=[42,42]↔(s.drop j).head?=some 42/\(s.drop (j+1)).head?=some 42:=by
 rw[show j+2-j=2 by omega,<-fO (i:=1) (j:=j)];cases e:s.drop j with
 |nil=>simp
 |cons x r=>
  cases r with
  |nil=>simp
  |cons y t=>simp
theorem Hd(T:ba K mg A):Kn P w K mg base (dv P w A.fault) "part_cells" 7 ["part"] (Vv K A):=by
 have sc:aW ["part","cells","place","found"] ["part"] (aI Jl):=bo;refine Kn.ofF T.YH sc (fun vs H Q E h=>?_) (fun f cdv A0 outer s0 H vs Q E hr h=>?_)
 ·obtain⟨_,_,_,rfl,_⟩:=h; rfl
 obtain⟨G,a,s,rfl,wd,hs,hl,q,qf⟩:=h;have hu64:=hr.units
 refine⟨_,(aq (bz (bI (mF hu64) (pv 0) (br ao) (bp _))
    (au (uq fU rfl rfl T.Xq T.Xr tL (af um ao)))
    bE)
   (aq (pS 1 sc.nd (br ao))
   (aq (pS 2 sc.nd aA)
   (aq (pT DK (bI pN (pv 2) (cL T.Xe (pv 0)) (bp _))
    (aq (pS 3 sc.nd (il (Rk T) (hr.mono (by decide)) (jj fU) rfl (af (pv 0) (af (pv 2) ao))))
    (aq (bz (bI (Bh hu64) (iM iN (pv 0) (fW (pv 2)) (fW (bb dP (pv 2) aA))) (br (af (bB T.Xt rfl) (af (bB T.Xt rfl) ao))) (bp _))
     (au (eC (eJ eQ gh gi fV (pv 1) (af (bM dg (pv 3) aA (fun _ _=>rfl)) ao))))
     bE)
    (au (pS 2 sc.nd (bM dg (pv 3) aA (fun _ _=>rfl)))))))
   (au (aL (pv 1))))))),?_⟩
 cb_eq
 refine⟨by decide,fun p0 hp0=>?_⟩;have s1:=(Step.refl wd).new wd hp0 (o:=.lst []);refine mP (ns:=bi s) (ms:=[]) (hs.mono s1.wd.sub).ints (ak.of ax) ?_
 cb_eq
 by_cases hne:s=[]
 ·rw[dT (by rw[hne]; rfl)];simp only[if_true];exact⟨by decide,qf (.inl hne) _ _ s1⟩
 ·rw[show decide (bi s=[])=false from dF (fun z=>hne ((jd (t:=[])).mp z))];simp only[aV,if_false];refine⟨by decide,fun p hp=>?_⟩;have s2:=s1.new wd hp (o:=.lst []);have o2:=ar.make wd s1 hp (o:=.lst [])
  refine qd (fun mm σ H'=>∃(G2:Hp)(as r:List bc)(cs:List MC)(ad:List aa)(j:Nat)(o3:Option V),mm=s.length-j/\σ=[some (.ref a),some (.ref p),some (.int (j:Int)),o3]/\Step A.toCn G H G2 H'/\ar A.toCn H G2 H' p (.lst (ad.map V.ref))/\
   bH (fun x c=>CellAt A.toCn G2 x c) ad cs/\mR s as (s.drop j)/\me as r (decide ((s.drop j).head?=some 42))/\jr aR r cs/\j<=s.length/\cs.length<=j)
   ⟨_,G,[],[],[],[],0,_,rfl,rfl,s2,o2,.nil,MI s,UK _,.nil,bC _,bC _⟩ ?_
  rintro mm σ H' ⟨G2,as,r,cs,ad,j,o3,rfl,rfl,s3,o,pr,hat,hsl,hca,hjl,hcl⟩;have hs3:=(hs.mono (s3.same wd)).mono s3.wd.sub
  cb_eq
  refine cw hs3 ?_
  cb_eq
  rw[cU];by_cases hlt:j<s.length
  ·rw[dT (by omega)];simp only[if_true];refine⟨_,fun _ _ z=>z,?_⟩;have hdn:s.drop j≠[]:=fun z=>by have:=List.drop_eq_nil_iff.mp z; omega
   refine⟨G2,a,s,j,rfl,s3.wd,hs.mono (s3.same wd),hlt,fun at_ r4 j4 hn hat4 G4 H4 v s4 hv=>?_,fun hn G4 H4 s4=>qf (.inr (MH hat hdn hn)) _ _ (s3.trans wd s4)⟩;obtain⟨t4,pc,c,rfl,ht4,hc,hca4⟩:=hv;obtain⟨hjj,hjl4,rfl⟩:=hat4;have s34:=s3.trans wd s4;have o4:=o.call s4;have pr4:=cO (fun _ _ z=>z.mono (s4.same s3.wd)) pr
   cb_eq
   rw[GQ];refine iP ((hs.mono (s34.same wd)).mono s34.wd.sub) fun p5 hp5=>?_;rw[tH,wo];have s5:=s34.newI wd hp5 (o:=.lst (bv ((s.drop j).take (j+2-j)))) aT;have o5:=o4.newI s34.wd hp5 (o':=.lst (bv ((s.drop j).take (j+2-j)))) aT;refine⟨by decide,fun p6 hp6=>?_⟩;have s6:=s5.newI wd hp6 (o:=.lst [.int 42,.int 42]) aT;have o6:=o5.newI s5.wd hp6 (o':=.lst [.int 42,.int 42]) aT;have n46:bh G4 (ah (ah G4 p5 (.lst (bv ((s.drop j).take (j+2-j))))) p6 (.lst [.int 42,.int 42])):=(bu (s34.wd.noG hp5)).trans (bu (s5.wd.noG hp6));have hb5:BL K (ah (ah H4 p5 (.lst (bv ((s.drop j).take (j+2-j))))) p6 (.lst [.int 42,.int 42])) p5 ((s.drop j).take (j+2-j)):=eF (s6.wd.sub _ _ (bu (s5.wd.noG hp6) _ _ ax));have hb6:BL K (ah (ah H4 p5 (.lst (bv ((s.drop j).take (j+2-j))))) p6 (.lst [.int 42,.int 42])) p6 [42,42]:=eF ax;refine CT hb5.ints hb6.ints ?_;have hd:(bi ((s.drop j).take (j+2-j))=bi [42,42])↔(s.drop j).head?=some 42/\(s.drop (j+1)).head?=some 42:=by rw[jd]; exact Wq s j
   have hst:=Qg hn;have pr6:=cO (fun _ _ z=>z.mono n46) pr4;have hat':=MJ hat hdn hn
   cb_eq
   by_cases htwo:(s.drop j).head?=some 42/\(s.drop (j+1)).head?=some 42
   ·rw[dT (hd.mpr htwo)];simp only[eX,aV,if_false];refine cG (k:=1) (bQ.of (s6.wd.sub _ _ (n46 _ _ ht4))) rfl ?_;have e1:at_=.star:=hst.mpr htwo.1;subst e1
    have hj4:j4=j+1:=by
     have h1:=AO (s:=s) (i:=j) (by rw[<-tQ]; exact htwo.1);rw[hn]at h1;have h2:s.drop j4=s.drop (j+1):=by injection h1 with h1; injection h1
     have:=congrArg dS h2;rw[cI,cI]at this;omega
    subst hj4;rw[dT htwo.1]at hsl;refine⟨s.length-(j+1),by omega,_,_,_,cs,ad,j+1,_,rfl,rfl,s6,o6,pr6,hat',?_,hca,hjl4,by omega⟩;rw[dT htwo.2];exact UJ hsl
   ·rw[dF (fun z=>htwo (hd.mp z))];simp only[eD,if_true];refine⟨eM (ak.of o6.at_),?_⟩;refine cG (k:=0) (bQ.of (s6.wd.sub _ _ (n46 _ _ ht4))) rfl ?_;have hal:=bR pr;refine fZ o6.at_ (by rw[aE,hal]; exact bZ (m:=50000) (by omega) (by decide)) ?_
    cb_eq
    have s7:=s6.put wd o6 (o':=.lst (ad.map V.ref++[.ref pc]));have o7:=o6.put_ (o':=.lst (ad.map V.ref++[.ref pc]));refine cG (k:=1) (bQ.of (s7.wd.sub _ _ (n46 _ _ ht4))) rfl ?_;refine⟨s.length-j4,by omega,_,as++[at_],r++[at_],cs++[c],ad++[pc],j4,_,rfl,rfl,s7,by rw[cv]; exact o7,iZ pr6 (hc.mono n46),hat',?_,EO hca hca4,hjl4,by rw[bt,dJ]; omega⟩;by_cases e1:at_=.star
    ·subst e1;have h42:=hst.mp rfl
     have hj4:j4=j+1:=by
      have h1:=AO (s:=s) (i:=j) (by rw[<-tQ]; exact h42);rw[hn]at h1;have h2:s.drop j4=s.drop (j+1):=by injection h1 with h1; injection h1
      have:=congrArg dS h2;rw[cI,cI]at this;omega
     subst hj4;rw[dT h42]at hsl;rw[dF (fun z=>htwo ⟨h42,z⟩)];exact UM hsl
    ·rw[dF (fun z=>e1 (hst.mpr z))]at hsl;exact UL e1 hsl
  ·rw[dF (by omega)];simp only[aV,if_false];have hj:j=s.length:=by omega
   rw[hj,lT (aF _)]at hat hsl;rw[dF (by simp)]at hsl;refine q as hne (MG hat) _ _ _ (s3.sealO wd o aT) ⟨p,cs,rfl,⟨ad,ax,cO (fun _ _ z=>z.mono (bu o.g)) pr⟩,?_,by omega⟩;rw[UI hsl];exact hca
theorem Ii(n d:Nat):HT.sIx n d (some (-1))=n-1:=by
 show(if(-1:Int)<0 then((-1:Int)+(n:Int)).toNat else min (-1:Int).toNat n)=n-1;rw[if_pos (by decide)];omega
theorem EY(xs:List V):dZ xs none (some (-1))=xs.take (xs.length-1):=by
 unfold dZ;rw[HT.sIx_none,sD,Nat.sub_zero,Ii]
theorem Nz(xs:List V):dZ xs (some (-1)) none=xs.drop (xs.length-1):=by
 unfold dZ;rw[HT.sIx_none,Ii,ka (by rw[cI]; omega)]
theorem En{α:Type}{xs:List α}{v:α}(h:xs[xs.length-1]?=some v):nv xs (-1)=some v:=by
 have hl:=(aK.mp h).1;unfold nv pC;rw[if_neg (by decide),if_pos (by omega)];show xs[(-1+(xs.length:Int)).toNat]?=some v;rw[show(-1+(xs.length:Int)).toNat=xs.length-1 by omega];exact h
def Vi(K:aw)(A:Ad):Sp:=fun vs H Q _=>∃(G:Hp)(a:aa)(s:ag),vs=[.ref a]/\Wd A.toCn G H/\BL K G a s/\cQ A.toCn G H Q fun _ v=>v=.bl (decide (s=[42,42]))
theorem AX(T:ba K mg A):Kn P w K mg base aX "is_many_parts" 1 ["part"] (Vi K A):=by
 have sc:aW ["part"] ["part"] (aI IZ):=bo;refine Kn.of T.Yu sc (fun vs H Q E h=>?_) (fun f cdv A0 outer s0 H vs Q E hr h=>?_)
 ·obtain⟨_,_,_,rfl,_⟩:=h; rfl
 obtain⟨G,a,s,rfl,wd,hs,q⟩:=h;have hu64:=hr.units;refine⟨_,(au (aL (fJ (mF hu64) (pv 0) (br (af (bB T.Xt rfl) (af (bB T.Xt rfl) ao))) (bp _)))),?_⟩
 cb_eq
 refine⟨by decide,fun p hp=>?_⟩;have s1:=(Step.refl wd).new wd hp (o:=.lst [.int 42,.int 42]);have hb:BL K (ah H p (.lst [.int 42,.int 42])) p [42,42]:=eF ax;refine mP (hs.mono s1.wd.sub).ints hb.ints (q _ _ _ s1 (congrArg V.bl ?_));exact decide_eq_decide.mpr jd
def Ce(K:aw)(A:Ad):Sp:=fun vs H Q E=>∃(G:Hp)(a:aa)(ps:List ag),vs=[.ref a]/\Wd A.toCn G H/\DV K G a ps/\ps≠[]/\(ps.map dS).sum+ps.length<=50000/\
 (∀l,dI ps=some l->cQ A.toCn G H Q fun G' v=>∃(p:aa)(cs:List MC),v=.ref p/\gS A.toCn G' p cs/\iR l cs/\cs.length<=50000)/\(dI ps=none->jY A G H E)
theorem uJ(l:List ag)(s:ag):((l++[s]).map dS).sum=(l.map dS).sum+s.length:=by
 rw[cv,List.sum_append];simp
theorem xH{ps:List ag}{l:List Seg}{s:ag}{x:Seg}(h:dI ps=some l)(hx:hX s=some x):dI (ps++[s])=some (l++[x]):=by
 rw[JO,h,pW,hx];rfl
theorem Wm(ps:List ag)(i:Nat):((ps.take i).map dS).sum<=(ps.map dS).sum:=by
 have:(ps.map dS).sum=((ps.take i).map dS).sum+((ps.drop i).map dS).sum:=by
  rw[<-List.sum_append,<-cv,oE]
 omega
theorem Rg(T:ba K mg A):Kn P w K mg base (dv P w A.fault) "pattern_cells" 8 ["parts"] (Ce K A):=by
 have sc:aW ["parts","cells","place","part"] ["parts"] (aI Jp):=bo;refine Kn.ofF T.YL sc (fun vs H Q E h=>?_) (fun f cdv A0 outer s0 H vs Q E hr h=>?_)
 ·obtain⟨_,_,_,rfl,_⟩:=h; rfl
 obtain⟨G,a,ps,rfl,wd,⟨as,ha,pr⟩,hne,hl,q,qf⟩:=h;have hal:=bR pr;have hpos:0<ps.length:=fC.mpr hne
 refine⟨_,(aq (pS 1 sc.nd (br ao))
   (aq (fX DK rfl (nO rfl T.Xo (af (iM iN (pv 0) mI (fW (gP gQ aA))) ao)) (nM rfl (hW (gN 2 sc.nd) (hW (gN 3 sc.nd) nN)))
    (au (bz (lG (dR (cF (AX T) hr (af (pv 3) ao))))
     (aq (eC (eJ eQ zj zk xg (pv 1) (af (il (Hd T) (hr.mono (by decide)) (jj fU) rfl (af (pv 3) ao)) ao)))
     (au (eC (eJ eQ gh gi fV (pv 1) (af (hJ (Rt T) (hr.mono (by decide)) bA rfl) ao)))))
     (au (bz (lG (dR (cF (AX T) hr (af (bM eT (pv 0) (bb dP (pv 2) aA) (fun _ _=>rfl)) ao))))
      (au (eC (eJ eQ gh gi fV (pv 1) (af (hJ (QN T) (hr.mono (by decide)) bA rfl) ao))))
      bE)))))
   (aq (bz (dR (cF (AX T) hr (af (bM eT (pv 0) (gP gQ aA) (fun _ _=>rfl)) ao)))
    (au (eC (eJ eQ gh gi fV (pv 1) (af (hJ (QX T) (hr.mono (by decide)) bA rfl) ao))))
    (au (eC (eJ eQ zj zk xg (pv 1) (af (il (Hd T) (hr.mono (by decide)) (jj fU) rfl (af (bM eT (pv 0) (gP gQ aA) (fun _ _=>rfl)) ao)) ao)))))
   (au (aL (pv 1)))))),?_⟩
 cb_eq
 refine⟨by decide,fun p hp=>?_⟩;have s1:=(Step.refl wd).new wd hp (o:=.lst []);have o1:=ar.make wd (Step.refl wd) hp (o:=.lst []);refine iP (ak.of (s1.wd.sub _ _ ha)) fun p1 hp1=>?_;rw[show dZ (as.map V.ref) none (some (-1))=(as.take (ps.length-1)).map V.ref by rw[EY,aE,hal,vq]];have s2:=s1.newI wd hp1 (o:=.lst ((as.take (ps.length-1)).map V.ref)) aT;have o2:=o1.newI s1.wd hp1 (o':=.lst ((as.take (ps.length-1)).map V.ref)) aT;have n12:bh G (ah G p1 (.lst ((as.take (ps.length-1)).map V.ref))):=bu (s1.wd.noG hp1)
 let Inv:=fun(i:Nat)(H':Hp)=>∃(G1:Hp)(l r:List Seg)(cs:List MC)(ad:List aa),Step A.toCn G H G1 H'/\bh (ah G p1 (.lst ((as.take (ps.length-1)).map V.ref))) G1/\ar A.toCn H G1 H' p (.lst (ad.map V.ref))/\
   bH (fun x c=>CellAt A.toCn G1 x c) ad cs/\dI (ps.take i)=some l/\mT (l.map fg) r (decide (ps[i]?=some [42,42]))/\oh r cs/\cs.length<=((ps.take i).map dS).sum+i
 refine qc (ak.of ax) (fun i σ H'=>∃(o2 o3:Option V),σ=[some (.ref a),some (.ref p),o2,o3]/\Inv i H') ?_ ?_ ?_ ?_
 ·exact⟨none,none,rfl,_,[],[],[],[],s2,bh.refl _,o2,.nil,rfl,NJ _,.nil,bC _⟩
 ·rintro i σ H' _ ⟨_,_,_,G1,_,_,_,_,s3,e3,_⟩;exact ak.of (s3.wd.sub _ _ (e3 _ _ ax))
 ·rintro i x σ H' T0 hx ⟨q2,q3,rfl,G1,l,r,cs,ad,s3,e3,o3,pc,hseg,hdt,hcp,hcl⟩ hT;obtain⟨pa,hpa,rfl⟩:=eI hx;have hi':i<(as.take (ps.length-1)).length:=(aK.mp hpa).1;rw[cP]at hi'
  have hpa':as[i]?=some pa:=by
   rw[LQ (by omega)]at hpa;exact hpa
  obtain⟨s,hsi,hb⟩:=dH pr hpa';have eG:bh G G1:=n12.trans e3;have s4:=s3.new wd hT (o:=.tup [.int (i:Nat),.ref pa]);have o4:=o3.new_ hT (o':=.tup [.int (i:Nat),.ref pa]);have hti:ps.take (i+1)=ps.take i++[s]:=PM.take_snoc hsi;have hsum:=Wm ps (i+1);rw[hti,uJ]at hsum
  cb_eq
  refine⟨G1,pa,s,rfl,s4.wd,hb.mono eG,fun G5 H5 v s5 hv=>?_⟩;subst hv;have s45:=s4.trans wd s5;have o5:=o4.call s5;have e15:=s5.same s4.wd;have pc5:=cO (fun _ _ z=>z.mono e15) pc;have hpl:=bR pc
  cb_eq
  by_cases hm:s=[42,42]
  ·rw[dT hm];simp only[eX,aV,if_false];rw[dT (by rw[hsi,hm])]at hdt;have hseg':dI (ps.take (i+1))=some (l++[.deep]):=by rw[hti]; exact xH hseg (by rw[hm]; exact uB)
   have hi1:i+1<ps.length:=by omega
   have hn:ps[i+1]?=some ps[i+1]:=bL hi1;obtain⟨pn,hpn,hbn⟩:=jK pr hn;rw[jH];refine fw (ak.of (s45.wd.sub _ _ (s45.same wd _ _ ha))) (by rw[cH,hpn]; rfl) ?_;refine⟨G5,pn,_,rfl,s45.wd,hbn.mono (s45.same wd),fun G6 H6 v s6 hv=>?_⟩;subst hv;have s56:=s45.trans wd s6;have o6:=o5.call s6;have e16:bh G1 G6:=e15.trans (s6.same s45.wd)
   cb_eq
   by_cases hm2:ps[i+1]=[42,42]
   ·rw[dT hm2];simp only[eX,aV,if_false];refine⟨_,_,rfl,G6,l++[.deep],r,cs,ad,s56,e3.trans e16,o6,cO (fun _ _ z=>z.mono e16) pc,hseg',?_,hcp,by rw[hti,uJ]; omega⟩;rw[dT (by rw[hn,hm2]),cv];exact NI hdt
   ·rw[dF hm2];simp only[eD,if_true];refine⟨eM (ak.of o6.at_),G6,rfl,s56.wd,fun G7 H7 v s7 hv7=>?_⟩;obtain⟨pc7,rfl,hc7⟩:=hv7;have s67:=s56.trans wd s7;have o7:=o6.call s7;have e17:bh G1 G7:=e16.trans (s7.same s56.wd)
    cb_eq
    refine fZ o7.at_ (by rw[aE,hpl]; exact bZ (m:=50000) (by omega) (by decide)) ?_;refine⟨_,_,rfl,G7,l++[.deep],r++[.deep],cs++[⟨cu,bY,true⟩],ad++[pc7],s67.put wd o7,e3.trans e17,by rw[cv]; exact o7.put_,iZ (cO (fun _ _ z=>z.mono e17) pc) hc7,hseg',?_,.deep hcp,by rw[hti,uJ,bt,dJ]; omega⟩;rw[dF (by rw[hn]; exact fun z=>hm2 (eE z)),cv];exact NL hdt
  ·rw[dF hm];simp only[eD,if_true];rw[dF (by rw[hsi]; exact fun z=>hm (eE z))]at hdt;have hsl:s.length<=50000:=by omega
   refine⟨eM (ak.of o5.at_),G5,pa,s,rfl,s45.wd,hb.mono (s45.same wd),hsl,fun sa hsn hats G6 H6 v s6 hv6=>?_,fun hf=>?_⟩
   ·obtain⟨p6,ds,rfl,⟨ad6,hp6,pc6⟩,hca,hdl⟩:=hv6;have s56:=s45.trans wd s6;have o6:=o5.call s6;have e16:bh G1 G6:=e15.trans (s6.same s45.wd);have hpl6:=bR pc6
    cb_eq
    refine yk o6.at_ (s56.wd.sub _ _ hp6) (by rw[aE,aE,hpl,hpl6]; exact jx (bZ (m:=50000) (by omega) (by decide))) ?_;have s7:=s56.put wd o6 (o':=.lst (ad.map V.ref++ad6.map V.ref));have o7:=o6.put_ (o':=.lst (ad.map V.ref++ad6.map V.ref))
    cb_eq
    refine⟨eM (ak.of o7.at_),G6,rfl,s7.wd,fun G8 H8 v s8 hv8=>?_⟩;obtain⟨pc8,rfl,hc8⟩:=hv8;have s78:=s7.trans wd s8;have o8:=o7.call s8;have e68:bh G6 G8:=s8.same s7.wd
    cb_eq
    refine fZ o8.at_ (by rw[bt,aE,aE,hpl,hpl6]; exact bZ (m:=50000) (by omega) (by decide)) ?_;have hsegs:hX s=some (.one sa):=by rw[uD hsn hm,hats]; rfl
    refine⟨_,_,rfl,G8,l++[.one sa],r++[.one (slim sa)],(cs++ds)++[⟨0,bY,false⟩],(ad++ad6)++[pc8],s78.put wd o8,e3.trans (e16.trans e68),by rw[cv,cv]; exact o8.put_,?_,?_,?_,.one hcp hca,?_⟩
    ·exact iZ (jJ (cO (fun _ _ z=>z.mono (e16.trans e68)) pc) (cO (fun _ _ z=>z.mono e68) pc6)) hc8
    ·rw[hti]; exact xH hseg hsegs
    ·rw[cv];exact NK hdt
    ·rw[hti,uJ,bt,bt,dJ];omega
   ·intro G6 H6 s6;refine qf (JP hsi ?_) _ _ (s45.trans wd s6);rcases hf with hf|hf
    ·rw[hf]; exact uC
    ·by_cases hsn:s=[]
     ·rw[hsn]; exact uC
     ·rw[uD hsn hm,hf]; rfl
 ·rintro σ H' ⟨q2,q3,rfl,G1,l,r,cs,ad,s3,e3,o3,pc,hseg,hdt,hcp,hcl⟩;rw[aE,cP,hal,lW (by omega)]at hseg hdt hcl;have hlast:ps[ps.length-1]?=some ps[ps.length-1]:=bL (by omega);generalize ps[ps.length-1]=s at hlast;obtain⟨pa,hpa,hb⟩:=jK pr hlast
  have hti:ps=ps.take (ps.length-1)++[s]:=by
   have:=PM.take_snoc hlast;rw[show ps.length-1+1=ps.length by omega,cq]at this;exact this
  have hsum:(ps.map dS).sum=((ps.take (ps.length-1)).map dS).sum+s.length:=by
   conv=>lhs; rw[hti]
   exact uJ _ _
  have eG:bh G G1:=n12.trans e3;have hpl:=bR pc
  cb_eq
  refine⟨a,_,-1,_,rfl,rfl,ak.of (s3.wd.sub _ _ (eG _ _ ha)),En (by rw[aE,hal,cH,hpa]; rfl),?_⟩;refine⟨G1,pa,s,rfl,s3.wd,hb.mono eG,fun G5 H5 v s5 hv=>?_⟩;subst hv;have s45:=s3.trans wd s5;have o5:=o3.call s5;have e15:=s5.same s3.wd;have pc5:=cO (fun _ _ z=>z.mono e15) pc
  cb_eq
  by_cases hm:s=[42,42]
  ·rw[dT hm];simp only[if_true];rw[dT (by rw[hlast,hm])]at hdt;refine⟨eM (ak.of o5.at_),G5,rfl,s45.wd,fun G7 H7 v s7 hv7=>?_⟩;obtain⟨pc7,rfl,hc7⟩:=hv7;have s67:=s45.trans wd s7;have o7:=o5.call s7;have e57:=s7.same s45.wd
   cb_eq
   refine fZ o7.at_ (by rw[aE,hpl]; exact bZ (m:=50000) (by omega) (by decide)) ?_
   cb_eq
   have s8:=s67.put wd o7 (o':=.lst (ad.map V.ref++[.ref pc7]));have o8:=o7.put_ (o':=.lst (ad.map V.ref++[.ref pc7]))
   have hseg':dI ps=some (l++[.deep]):=by
    rw[hti];exact xH hseg (by rw[hm]; exact uB)
   refine q _ hseg' _ _ _ (s8.sealO wd o8 aT) ⟨p,cs++[⟨cu,cu,false⟩],rfl,⟨ad++[pc7],by rw[ax,cv]; rfl,iZ (cO (fun _ _ z=>(z.mono e57).mono (bu o8.g)) pc5) (hc7.mono (bu o8.g))⟩,?_,by rw[bt,dJ]; omega⟩;unfold iR ff;rw[cv];have:=hdt [.deep] (by simp[fc]);rw[show(l.map fg++[Seg.deep].map fg)=l.map fg++[.deep]from rfl,this];exact wz hcp .lastDeep
  ·rw[dF hm];simp only[aV,if_false];rw[dF (by rw[hlast]; exact fun z=>hm (eE z))]at hdt;refine⟨eM (ak.of o5.at_),?_⟩;refine⟨a,_,-1,_,rfl,rfl,ak.of (s45.wd.sub _ _ (s45.same wd _ _ ha)),En (by rw[aE,hal,cH,hpa]; rfl),?_⟩;refine⟨G5,pa,s,rfl,s45.wd,hb.mono (s45.same wd),by omega,fun sa hsn hats G6 H6 v s6 hv6=>?_,fun hf G6 H6 s6=>?_⟩
   ·obtain⟨p6,ds,rfl,⟨ad6,hp6,pc6⟩,hca,hdl⟩:=hv6;have s56:=s45.trans wd s6;have o6:=o5.call s6;have e56:=s6.same s45.wd;have hpl6:=bR pc6
    cb_eq
    refine yk o6.at_ (s56.wd.sub _ _ hp6) (by rw[aE,aE,hpl,hpl6]; exact jx (bZ (m:=50000) (by omega) (by decide))) ?_;have s7:=s56.put wd o6 (o':=.lst (ad.map V.ref++ad6.map V.ref));have o7:=o6.put_ (o':=.lst (ad.map V.ref++ad6.map V.ref))
    cb_eq
    have hsegs:hX s=some (.one sa):=by rw[uD hsn hm,hats]; rfl
    have hseg':dI ps=some (l++[.one sa]):=by
     rw[hti];exact xH hseg hsegs
    refine q _ hseg' _ _ _ (s7.sealO wd o7 aT) ⟨p,cs++ds,rfl,⟨ad++ad6,by rw[ax,cv],jJ (cO (fun _ _ z=>(z.mono e56).mono (bu o7.g)) pc5) (cO (fun _ _ z=>z.mono (bu o7.g)) pc6)⟩,?_,by rw[bt]; omega⟩;unfold iR ff;rw[cv];have:=hdt [.one (slim sa)] (by simp[fc]);rw[show(l.map fg++[Seg.one sa].map fg)=l.map fg++[.one (slim sa)]from rfl,this];exact wz hcp (.lastOne hca)
   ·refine qf (JP hlast ?_) _ _ (s45.trans wd s6);rcases hf with hf|hf
    ·rw[hf]; exact uC
    ·by_cases hsn:s=[]
     ·rw[hsn]; exact uC
     ·rw[uD hsn hm,hf]; rfl
def lE(keeps dirs anch:Bool)(m:aa):List (Str×V):=[("keeps",.bl keeps),("for_directories",.bl dirs),("anchored",.bl anch),("matcher",.ref m)]
def ja(A:Ad)(G:Hp)(p:aa)(r:cX):Prop:=∃dx m cs,G p=some (.ins A.pattern dx (lE r.neg r.dirs r.anchored m))/\gf A.toCn G m cs/\iR r.segs cs/\cs.length<=50000
theorem ja.mono{G G':Hp}{p:aa}{r:cX}(e:bh G G')(h:ja A G p r):ja A G' p r:=by
 obtain⟨dx,m,cs,h1,h2,h3⟩:=h;exact⟨dx,m,cs,e _ _ h1,h2.mono e,h3⟩
theorem Qq{A:Cn}{C dx:aa}{a b c:Bool}{m:aa}:fP A (.ins C dx (lE a b c m)):=uc (by show some ("keeps":Str)≠some "cells"; decide +kernel)
def Cb(A:Ad):Sp:=fun vs H Q _=>∃(G H1:Hp)(x dx lc:aa)(a b c:Bool)(cs:List MC),vs=[.ref x,.bl a,.bl b,.bl c,.ref lc]/\H=ah (ah H1 dx (.own x)) x (.ins A.pattern dx [])/\H1 x=none/\H1 dx=none/\dx≠x/\Wd A.toCn G H1/\gS A.toCn G lc cs/\cs.length<=50000/\
 ∀G' H' m,Step A.toCn G H1 G' H'->gf A.toCn G' m cs->G' x=some (.ins A.pattern dx (lE a b c m))->Q .non H'
theorem Qz(T:ba K mg A):fA P w K mg base aX A.pattern "Pattern" 4 ["self","keeps","for_directories","anchored","cells"] (Cb A):=by
 have sc:aW ["self","keeps","for_directories","anchored","cells"] ["self","keeps","for_directories","anchored","cells"] (aI Iz):=bo;refine fA.of T.Zj sc (fun vs H Q E h=>?_) (fun f cdv A0 outer s0 H vs Q E hr h=>?_)
 ·obtain⟨_,_,_,_,_,_,_,_,_,rfl,_⟩:=h; rfl
 obtain⟨G,H1,x,dx,lc,a,b,c,cs,rfl,rfl,hx,hdx,hne,wd,hc,hl,q⟩:=h;have s1:Step A.toCn G H1 G (ah H1 dx (.own x)):=(Step.refl wd).new wd hdx;have hx1:ah H1 dx (.own x) x=none:=by rw[aM (bq hne)]; exact hx
 have s2:=s1.new wd hx1 (o:=.ins A.pattern dx []);have o2:=ar.make wd s1 hx1 (o:=.ins A.pattern dx [])
 refine⟨_,(aq (fe (pv 0) (pv 1) rfl)
   (aq (fe (pv 0) (pv 2) rfl)
   (aq (fe (pv 0) (pv 3) rfl)
   (au (fe (pv 0) (jM (Qu T) (hr.mono (by decide)) bA rfl (af (pv 4) ao)) rfl))))),?_⟩
 cb_eq
 refine fi o2.at_ T.Xl T.XE (by decide) ?_;have s3:=s2.put wd o2 (o':=.ins A.pattern dx (bT "keeps" (.bl a) []));have o3:=o2.put_ (o':=.ins A.pattern dx (bT "keeps" (.bl a) []))
 cb_eq
 refine fi o3.at_ T.Xl T.XM pG ?_;have s4:=s3.put wd o3 (o':=.ins A.pattern dx (bT "for_directories" (.bl b) (bT "keeps" (.bl a) [])));have o4:=o3.put_ (o':=.ins A.pattern dx (bT "for_directories" (.bl b) (bT "keeps" (.bl a) [])))
 cb_eq
 refine fi o4.at_ T.Xl T.XX tU ?_;have s5:=s4.put wd o4 (o':=.ins A.pattern dx (bT "anchored" (.bl c) (bT "for_directories" (.bl b) (bT "keeps" (.bl a) []))));have o5:=o4.put_ (o':=.ins A.pattern dx (bT "anchored" (.bl c) (bT "for_directories" (.bl b) (bT "keeps" (.bl a) []))))
 cb_eq
 intro m dm hm hdm hnm;refine⟨G,_,m,dm,lc,cs,rfl,rfl,hm,hdm,hnm,s5.wd,hc,by omega,fun G6 H6 s6 hM=>⟨rfl,?_⟩⟩;have s56:=s5.trans wd s6;have o6:=o5.call s6
 cb_eq
 refine fi o6.at_ T.Xl T.XN Pp ?_;have s7:=s56.put wd o6 (o':=.ins A.pattern dx (lE a b c m));have o7:=o6.put_ (o':=.ins A.pattern dx (lE a b c m));exact q _ _ m (s7.sealO wd o7 Qq) (hM.mono (bu o7.g)) ax
def VO(K:aw)(A:Ad):Sp:=fun vs H Q _=>∃(G:Hp)(a:aa)(s:ag),vs=[.ref a]/\Wd A.toCn G H/\BL K G a s/\cQ A.toCn G H Q fun _ v=>v=.bl (decide (s=[]\/s.head?=some 35))
theorem Rq(T:ba K mg A):Kn P w K mg base aX "says_nothing" 1 ["line"] (VO K A):=by
 have sc:aW ["line"] ["line"] (aI JE):=bo;refine Kn.of T.Za sc (fun vs H Q E h=>?_) (fun f cdv A0 outer s0 H vs Q E hr h=>?_)
 ·obtain⟨_,_,_,rfl,_⟩:=h; rfl
 obtain⟨G,a,s,rfl,wd,hs,q⟩:=h;have hu64:=hr.units;refine⟨_,(au (aL (Sf (fJ (mF hu64) (pv 0) (br ao) (bp _)) (BC (fJ eB (bM eT (pv 0) aA (fun _ _=>rfl)) (bB T.ZH rfl) (bp _)))))),?_⟩
 cb_eq
 refine⟨by decide,fun p hp=>?_⟩;have s1:=(Step.refl wd).new wd hp (o:=.lst []);refine mP (ns:=bi s) (ms:=[]) (hs.mono s1.wd.sub).ints (ak.of ax) ?_
 cb_eq
 by_cases hne:s=[]
 ·rw[show decide (bi s=[])=true from dT (by rw[hne]; rfl)];simp only[if_true];exact q _ _ _ s1 (congrArg V.bl (dT (.inl hne)).symm)
 ·rw[show decide (bi s=[])=false from dF (fun z=>hne ((jd (t:=[])).mp z))];simp only[aV,if_false];have h0:s[0]?=some (s[0]'(fC.mpr hne)):=bL _;refine fw (k:=0) (hs.mono s1.wd.sub) (nA h0) ?_
  cb_eq
  refine q _ _ _ s1 (congrArg V.bl (decide_eq_decide.mpr ?_));rw[show s.head?=s[0]? from LS,h0];constructor
  ·intro z; exact .inr (congrArg some (by rw[iO]; exact iT z))
  ·rintro(z|z)
   ·exact absurd z hne
   ·rw[eE z]; rfl
def VJ(K:aw)(A:Ad):Sp:=fun vs H Q E=>∃(G:Hp)(a:aa)(s:ag),vs=[.ref a]/\Wd A.toCn G H/\G a=some (.lst (bv s))/\s.length<=10000/\
 (∀r,nL s=some r->cQ A.toCn G H Q fun G' v=>∃p,v=.ref p/\ja A G' p r)/\(nL s=none->jY A G H E)
theorem Wr(s:ag)(c:UInt8):s.take 1=[c]↔s.head?=some c:=by
 cases s with
 |nil=>simp
 |cons x r=>simp
theorem NQ(s:ag)(c:UInt8):s.drop (s.length-1)=[c]↔s.getLast?=some c:=by
 by_cases h:s=[]
 ·subst h; simp
 ·obtain⟨t,x,rfl⟩:∃t x,s=t++[x]:=⟨s.dropLast,s.getLast h,(List.dropLast_concat_getLast h).symm⟩;rw[bt,dJ,yY,LO (aF _),jZ (aF _),mW,List.getLast?_append];simp
theorem wq(s:ag)(n:Nat):(bv s).drop n=bv (s.drop n):=by unfold bv; rw[yQ]
theorem EH(s:ag)(n:Nat):(bv s).take n=bv (s.take n):=by unfold bv; rw[vq]
theorem Rn(T:ba K mg A):Kn P w K mg base (dv P w A.fault) "read_pattern" 9 ["line"] (VJ K A):=by
 have sc:aW ["line","keeps","body","for_directories","anchored"] ["line"] (aI JA):=bo;refine Kn.ofF T.YW sc (fun vs H Q E h=>?_) (fun f cdv A0 outer s0 H vs Q E hr h=>?_)
 ·obtain⟨_,_,_,rfl,_⟩:=h; rfl
 obtain⟨G,a,s,rfl,wd,hs,hl,q,qf⟩:=h;have hu64:=hr.units;have hsB:BL K G a s:=eF hs
 have fin:∀(G1 H1:Hp)(b:aa)(body z:ag)(neg dirs:Bool),Step A.toCn G H G1 H1->G1 b=some (.lst (bv z))->z.length<=20000->aG 47 z=gM body->neg=(s.head?==some 33)->
   dirs=((if(s.head?==some 33)=true then s.drop 1 else s).getLast?==some 47)->body=(if dirs=true then(if neg=true then s.drop 1 else s).dropLast else(if neg=true then s.drop 1 else s))->
   Cd K A [.ref b,.int 47] H1 (fun v H2=>Ce K A [v] H2 (fun v' H3=>∀x dx,H3 x=none->H3 dx=none->dx≠x->Cb A [.ref x,.bl neg,.bl dirs,.bl (body.contains 47),v'] (ah (ah H3 dx (.own x)) x (.ins A.pattern dx [])) (fun v H2=>v=.non/\Q (.ref x) H2) E0) E) E0:=by
  intro G1 H1 b body z neg dirs s1 hb hz hsp hneg hdirs hbody
  have hpat:nL s=(dI (aG 47 z)).map fun l=>⟨neg,dirs,body.contains 47,l⟩:=by
   unfold nL;rw[zI,hsp,hbody,hdirs,hneg]
  refine⟨G1,b,z,47,rfl,s1.wd,eF hb,by omega,fun G2 H2 v s2 hv=>?_⟩;obtain⟨p2,rfl,hrows⟩:=hv;have s12:=s1.trans wd s2;have hsl:=split_len 47 z;refine⟨G2,p2,aG 47 z,rfl,s12.wd,hrows,eV 47 z,by omega,fun l hseg G3 H3 v s3 hv3=>?_,fun hf G3 H3 s3=>qf (by rw[hpat,hf]; rfl) _ _ (s12.trans wd s3)⟩;obtain⟨p3,cs,rfl,hc,hco,hcl⟩:=hv3;have s13:=s12.trans wd s3;intro x dx hx hdx hne;refine⟨G3,H3,x,dx,p3,neg,dirs,body.contains 47,cs,rfl,rfl,hx,hdx,hne,s13.wd,hc,hcl,fun G4 H4 m s4 hM hp=>⟨rfl,?_⟩⟩;rw[hseg]at hpat;exact q _ hpat _ _ _ (s13.trans wd s4) ⟨x,rfl,dx,m,cs,hp,hM,hco,hcl⟩
 refine⟨_,(aq (pS 1 sc.nd (fJ (mF hu64) (iM iN (pv 0) mI (fW aA)) (br (af (bB T.XZ rfl) ao)) (bp _)))
   (aq (pS 2 sc.nd (BB (dR (pv 1)) (iM iN (pv 0) (fW aA) mI) (pv 0)))
   (aq (pS 3 sc.nd (fJ (mF hu64) (iM iN (pv 2) (fW (gP gQ aA)) mI) (br (af (bB T.Xk rfl) ao)) (bp _)))
   (aq (bz (dR (pv 3))
    (au (pS 2 sc.nd (iM iN (pv 2) mI (fW (gP gQ aA)))))
    bE)
   (aq (pS 4 sc.nd (fJ xo (bB T.Xk rfl) (pv 2) (by with_unfolding_all rfl)))
   (aq (bz (lG (dR (pv 4)))
    (au (pS 2 sc.nd (bb rH (br (af (bB T.Xt rfl) (af (bB T.Xt rfl) (af (bB T.Xk rfl) ao)))) (pv 2))))
    (au (bz (bI eB (bM eT (pv 2) aA (fun _ _=>rfl)) (bB T.Xk rfl) (bp _))
     (au (pS 2 sc.nd (iM iN (pv 2) (fW aA) mI)))
     bE)))
   (au (aL (jM (Qz T) (hr.mono (by decide)) bA rfl (af (pv 1) (af (pv 3) (af (pv 4) (af (il (Rg T) (hr.mono (by decide)) (jj fU) rfl (af (cF (Hf T) hr (af (pv 2) (af (bB T.Xk rfl) ao))) ao)) ao))))))))))))),?_⟩
 cb_eq
 refine iP (ak.of (wd.sub _ _ hs)) fun p1 hp1=>?_;rw[show dZ (bv s) none (some 1)=bv (s.take 1) by rw[show(1:Int)=((1:Nat):Int)from rfl,EX,EH]];have s1:=(Step.refl wd).newI wd hp1 (o:=.lst (bv (s.take 1))) aT;refine⟨by decide,fun p2 hp2=>?_⟩;have s2:=s1.newI wd hp2 (o:=.lst [.int 33]) aT;have n12:=bu (o:=.lst [.int 33]) (s1.wd.noG hp2);have hb1:BL K (ah (ah H p1 (.lst (bv (s.take 1)))) p2 (.lst [.int 33])) p1 (s.take 1):=eF (s2.wd.sub _ _ (n12 _ _ ax));have hb2:BL K (ah (ah H p1 (.lst (bv (s.take 1)))) p2 (.lst [.int 33])) p2 [33]:=eF ax;refine mP hb1.ints hb2.ints ?_
 have hneg:decide (bi (s.take 1)=bi [33])=(s.head?==some 33):=by
  rw[mS,decide_eq_true_iff,jd,Wr,beq_iff_eq]
 rw[hneg]
 cb_eq
 have mid:∀(G3 H3:Hp)(b:aa)(t:ag),Step A.toCn G H G3 H3->G3 b=some (.lst (bv t))->t=(if(s.head?==some 33)=true then s.drop 1 else s)->t.length<=10000->∀(R:VK),(∀(G5 H5:Hp),Step A.toCn G H G5 H5->bh G3 G5->R (.bl (t.getLast?==some 47)) H5)->
   mK K (.ref b) (some (-1)) none H3 fun x H1=>1<=aY/\∀p,H1 p=none->xC K x (.ref p) (ah H1 p (.lst [.int 47])) R:=by
  intro G3 H3 b t s3 hb ht htl R hR;refine iP (ak.of (s3.wd.sub _ _ hb)) fun p4 hp4=>?_;rw[Nz,cU,wq];have s4:=s3.newI wd hp4 (o:=.lst (bv (t.drop (t.length-1)))) aT;refine⟨by decide,fun p5 hp5=>?_⟩;have s5:=s4.newI wd hp5 (o:=.lst [.int 47]) aT;have n45:=bu (o:=.lst [.int 47]) (s4.wd.noG hp5);have hb4:BL K (ah (ah H3 p4 (.lst (bv (t.drop (t.length-1))))) p5 (.lst [.int 47])) p4 (t.drop (t.length-1)):=eF (s5.wd.sub _ _ (n45 _ _ ax));have hb5:BL K (ah (ah H3 p4 (.lst (bv (t.drop (t.length-1))))) p5 (.lst [.int 47])) p5 [47]:=eF ax;refine mP hb4.ints hb5.ints ?_
  have e:decide (bi (t.drop (t.length-1))=bi [47])=(t.getLast?==some 47):=by
   rw[mS,decide_eq_true_iff,jd,NQ,beq_iff_eq]
  rw[e];exact hR _ _ s5 ((bu (s3.wd.noG hp4)).trans n45)
 let neg:=(s.head?==some 33)
 let cont:=fun(x2:V)(x3:V)(z:V)(H1:Hp)=>Cd K A [z,.int 47] H1 (fun v H2=>Ce K A [v] H2 (fun v' H3=>∀x dx,H3 x=none->H3 dx=none->dx≠x->Cb A [.ref x,.bl (s.head?==some 33),x2,x3,v'] (ah (ah H3 dx (.own x)) x (.ins A.pattern dx [])) (fun v H2=>v=.non/\Q (.ref x) H2) E0) E) E0
 have tail:∀(G5 H5:Hp)(b:aa)(body:ag)(d:Bool),Step A.toCn G H G5 H5->G5 b=some (.lst (bv body))->body.length<=10000->d=((if(s.head?==some 33)=true then s.drop 1 else s).getLast?==some 47)->
   body=(if d=true then(if(s.head?==some 33)=true then s.drop 1 else s).dropLast else(if(s.head?==some 33)=true then s.drop 1 else s))->
   pU K false (.int 47) (.ref b) H5 fun x3 H1=>∃k,x3=.bl k/\if(!k)=true then(3<=aY/\∀p,H1 p=none->uv (.ref p) (.ref b) (ah H1 p (.lst [.int 42,.int 42,.int 47])) fun x H1=>cont (.bl d) x3 x H1)
    else uw K (.ref b) (.int 0) H1 fun x4 H1=>nR x4 (.int 47) H1 fun x5 H'=>∃k,x5=.bl k/\if k=true then(mK K (.ref b) (some 1) none H' fun x H1=>cont (.bl d) x3 x H1)else cont (.bl d) x3 (.ref b) H':=by
  intro G5 H5 b body d s5 hb hbl hd hbody;refine yl (ak.of (s5.wd.sub _ _ hb)) rfl (Ae body) ?_;have e47:=wO 47 body;rw[show(if false=true then !gw (.int 47) (bv body)else gw (.int 47) (bv body))=body.contains 47 by rw[if_neg (by decide)]; show gw (.int ((47:UInt8).toNat:Int)) (bv body)=_; rw[e47,sC]];refine⟨_,rfl,?_⟩;by_cases hc:body.contains 47=true
  ·rw[hc];simp only[eX,aV,if_false];have hne:body≠[]:=fun z=>by rw[z]at hc; cases hc
   have h0:body[0]?=some (body[0]'(fC.mpr hne)):=bL _;refine fw (k:=0) (ak.of (s5.wd.sub _ _ hb)) (nA h0) ?_;rw[HU];refine⟨_,rfl,?_⟩
   have hh:((body[0]'(fC.mpr hne)).toNat:Int)=47↔body.head?=some 47:=by
    rw[show body.head?=body[0]? from LS,h0];exact⟨fun z=>congrArg some ((tE (k:=47) (by decide)).mp z),fun z=>by rw[eE z]; rfl⟩
   by_cases h47:body.head?=some 47
   ·rw[dT (hh.mpr h47)];simp only[if_true];refine iP (ak.of (s5.wd.sub _ _ hb)) fun p6 hp6=>?_;rw[show dZ (bv body) (some 1) none=bv (body.drop 1) by rw[show(1:Int)=((1:Nat):Int)from rfl,wD,wq]];have:=fin _ _ p6 body (body.drop 1) _ d (s5.newI wd hp6 (o:=.lst (bv (body.drop 1))) aT) ax (by rw[cI]; omega) (by unfold gM; rw[if_pos hc,if_pos h47]) rfl hd hbody;rw[hc]at this;exact this
   ·rw[dF (fun z=>h47 (hh.mp z))];simp only[aV,if_false];have:=fin _ _ b body body _ d s5 hb (by omega) (by unfold gM; rw[if_pos hc,if_neg h47]) rfl hd hbody;rw[hc]at this;exact this
  ·have hc':body.contains 47=false:=by cases h:body.contains 47 with|false=>rfl|true=>exact absurd h hc
   rw[hc'];simp only[eD,if_true];refine⟨by decide,fun p6 hp6=>?_⟩;have s6:=s5.newI wd hp6 (o:=.lst [.int 42,.int 42,.int 47]) aT;refine sj ax (s6.wd.sub _ _ (bu (s5.wd.noG hp6) _ _ hb)) (by rw[cU]; exact jx (bZ (m:=10003) (by show 3+body.length<=10003; omega) (by decide))) fun p7 hp7=>?_;have s7:=s6.newI wd hp7 (o:=.lst (bv (42::42::47::body))) aT;have:=fin _ _ p7 body (42::42::47::body) _ d s7 ax (by simp only[bG]; omega) (by unfold gM; rw[if_neg hc]) rfl hd hbody;rw[hc']at this;exact this
 have all:∀(G3 H3:Hp)(b:aa)(t:ag),Step A.toCn G H G3 H3->G3 b=some (.lst (bv t))->t=(if(s.head?==some 33)=true then s.drop 1 else s)->t.length<=10000->
   mK K (.ref b) (some (-1)) none H3 fun x1 H1=>1<=aY/\∀p,H1 p=none->xC K x1 (.ref p) (ah H1 p (.lst [.int 47])) fun x2 H1=>∃k,x2=.bl k/\if k=true then(mK K (.ref b) none (some (-1)) H1 fun x H1=>pU K false (.int 47) x H1 fun x3 H1=>∃k',x3=.bl k'/\if(!k')=true then(3<=aY/\∀p,H1 p=none->uv (.ref p) x (ah H1 p (.lst [.int 42,.int 42,.int 47])) fun x H1=>cont x2 x3 x H1)
    else uw K x (.int 0) H1 fun x4 H1=>nR x4 (.int 47) H1 fun x5 H'=>∃k',x5=.bl k'/\if k'=true then(mK K x (some 1) none H' fun x H1=>cont x2 x3 x H1)else cont x2 x3 x H')
    else(pU K false (.int 47) (.ref b) H1 fun x3 H1=>∃k',x3=.bl k'/\if(!k')=true then(3<=aY/\∀p,H1 p=none->uv (.ref p) (.ref b) (ah H1 p (.lst [.int 42,.int 42,.int 47])) fun x H1=>cont x2 x3 x H1)
    else uw K (.ref b) (.int 0) H1 fun x4 H1=>nR x4 (.int 47) H1 fun x5 H'=>∃k',x5=.bl k'/\if k'=true then(mK K (.ref b) (some 1) none H' fun x H1=>cont x2 x3 x H1)else cont x2 x3 (.ref b) H'):=by
  intro G3 H3 b t s3 hb ht htl;refine mid G3 H3 b t s3 hb ht htl _ fun G5 H5 s5 e35=>⟨_,rfl,?_⟩;by_cases hd:(t.getLast?==some 47)=true
  ·rw[if_pos hd];refine iP (ak.of (s5.wd.sub _ _ (e35 _ _ hb))) fun p6 hp6=>?_;rw[EY,cU,EH];have s6:=s5.newI wd hp6 (o:=.lst (bv (t.take (t.length-1)))) aT;exact tail _ _ p6 (t.take (t.length-1)) _ s6 ax (by rw[cP]; omega) (by rw[ht]) (by rw[if_pos hd,<-ht,List.dropLast_eq_take])
  ·rw[if_neg hd];exact tail _ _ b t _ s5 (e35 _ _ hb) htl (by rw[ht]) (by rw[if_neg hd,<-ht])
 by_cases hng:(s.head?==some 33)=true
 ·rw[if_pos hng];refine iP (ak.of (s2.wd.sub _ _ (s2.same wd _ _ hs))) fun p3 hp3=>?_;rw[show dZ (bv s) (some 1) none=bv (s.drop 1) by rw[show(1:Int)=((1:Nat):Int)from rfl,wD,wq]];exact all _ _ p3 (s.drop 1) (s2.newI wd hp3 (o:=.lst (bv (s.drop 1))) aT) ax (by rw[if_pos hng]) (by rw[cI]; omega)
 ·rw[if_neg hng];exact all _ _ a s s2 (s2.same wd _ _ hs) (by rw[if_neg hng]) hl
def Km(K:aw)(A:Ad):Sp:=fun vs H Q E=>∃(G:Hp)(a:aa)(s:ag),vs=[.ref a]/\Wd A.toCn G H/\G a=some (.lst (bv s))/\s.length<=10000/\
 (∀o,dB s=some o->cQ A.toCn G H Q fun G' v=>match o with|none=>v=.non|some r=>∃p,v=.ref p/\ja A G' p r)/\(dB s=none->jY A G H E)
theorem Bc(T:ba K mg A):Kn P w K mg base (dv P w A.fault) "read_line" 10 ["line"] (Km K A):=by
 have sc:aW ["line"] ["line"] (aI Jz):=bo;refine Kn.ofF T.YV sc (fun vs H Q E h=>?_) (fun f cdv A0 outer s0 H vs Q E hr h=>?_)
 ·obtain⟨_,_,_,rfl,_⟩:=h; rfl
 obtain⟨G,a,s,rfl,wd,hs,hl,q,qf⟩:=h
 refine⟨_,(aq (bz (dR (cF (Rq T) hr (af (pv 0) ao)))
    (au (aL lF))
    bE)
   (au (aL (il (Rn T) (hr.mono (by decide)) (jj fU) rfl (af (pv 0) ao))))),?_⟩
 cb_eq
 refine⟨G,a,s,rfl,wd,eF hs,fun G1 H1 v s1 hv=>?_⟩;subst hv
 cb_eq
 by_cases hn:s=[]\/s.head?=some 35
 ·rw[dT hn];simp only[if_true];exact q none (Ax hn) _ _ _ s1 rfl
 ·rw[dF hn];simp only[aV,if_false];have hp:=Ay hn;refine⟨G1,a,s,rfl,s1.wd,s1.same wd _ _ hs,hl,fun r hr G2 H2 v s2 hv=>?_,fun hf G2 H2 s2=>qf (by rw[hp,hf]; rfl) _ _ (s1.trans wd s2)⟩;exact q (some r) (by rw[hp,hr]; rfl) _ _ _ (s1.trans wd s2) hv
theorem Bt{a b c:Bool}{m:aa}:(lE a b c m).lookup ("keeps":Str)=some (.bl a):=by rfl
theorem HB{a b c:Bool}{m:aa}:(lE a b c m).lookup ("for_directories":Str)=some (.bl b):=by rfl
theorem RI{a b c:Bool}{m:aa}:(lE a b c m).lookup ("anchored":Str)=some (.bl c):=by rfl
theorem RJ{a b c:Bool}{m:aa}:(lE a b c m).lookup ("matcher":Str)=some (.ref m):=by rfl
def Vs(K:aw)(A:Ad):Sp:=fun vs H Q _=>∃(G:Hp)(p:aa)(r:cX)(isDir:Bool)(a:aa)(s:ag),vs=[.ref p,.bl isDir,.ref a]/\Wd A.toCn G H/\ja A G p r/\BL K G a s/\s.length<=256/\nF s/\
 cQ A.toCn G H Q fun G' v=>∃e,v=.ref e/\G' e=some (.lst (iv (iI r isDir s)))
theorem mw{l:List Nat}{i:Nat}{v:V}(h:(iv l)[i]?=some v):∃n:Nat,l[i]?=some n/\v=.int n:=by
 obtain⟨n,h1,h2⟩:=eI h;exact⟨n,h1,h2⟩
theorem NX(s:ag):(gG s).length<=s.length+1:=by
 unfold gG;have:=uF s 0;rw[bt,dJ];omega
theorem PH(l:List Seg)(s:ag):(gZ l s).length<=s.length+1:=by
 unfold gZ;exact dW (oB _ _) (NX s)
theorem Hc(T:ba K mg A):Kn P w K mg base aX "matched_ends" 5 ["pattern","is_directory","rest"] (Vs K A):=by
 have sc:aW ["pattern","is_directory","rest","ends","end"] ["pattern","is_directory","rest"] (aI Ji):=bo;refine Kn.of T.YE sc (fun vs H Q E h=>?_) (fun f cdv A0 outer s0 H vs Q E hr h=>?_)
 ·obtain⟨_,_,_,_,_,_,rfl,_⟩:=h; rfl
 obtain⟨G,p,r,isDir,a,s,rfl,wd,⟨dx,m,cs,hp,hM,hco,hcl⟩,hs,hsl,hg,q⟩:=h;obtain⟨dm,lc,opt,dd,hm,hc,ho⟩:=hM;have hM:gf A.toCn G m cs:=⟨dm,lc,opt,dd,hm,hc,ho⟩
 refine⟨_,(aq (pS 3 sc.nd (hU (bK (pv 0) rfl) T.Xg (Qw T) (hr.mono (by decide)) bA (af (pv 2) ao)))
   (aq (bz (PW.pt (ur (dR (bK (pv 0) rfl)) (uu (lG (dR (pv 1))))))
    (au (aL (hO rfl sc.nd (dt (pv 3)) (own:=[("end",4)]) (fE (by kernel_rfl)) (fun _ _ _ _ _=>by exact(gN 4 sc.nd)) (fun _ _ _ _ _=>by exact(nQ (bI pN (pv 4) (jL (zW (K:=K) rfl) (by rfl) T.Xe zr (af (pv 2) ao)) (bp _)))) (fun _ _ _ _ _=>by exact(pv 4)))))
    bE)
   (au (aL (pv 3))))),?_⟩
 cb_eq
 refine bx (wd.sub _ _ hp) T.Xl T.XN RJ ?_;refine eK (wd.sub _ _ hm) Pz ?_;refine⟨G,m,cs,r.segs,a,s,rfl,wd,hM,by omega,hco,hs,hsl,hg,fun G1 H1 v s1 hv=>?_⟩;obtain⟨e,rfl,he⟩:=hv
 cb_eq
 refine bx (s1.wd.sub _ _ (s1.same wd _ _ hp)) T.Xl T.XM HB ?_
 cb_eq
 by_cases hd:r.dirs=true/\isDir=false
 ·rw[if_pos hd.1,hd.2];simp only[eD,if_true];refine gR (ak.of (s1.wd.sub _ _ he)) (fun D i H'=>∃G2,Step A.toCn G H G2 H'/\bh G1 G2/\ar A.toCn H G2 H' D (.lst (iv (((gZ r.segs s).take i).filter fun n=>decide (n<s.length))))) ?_ ?_ ?_ ?_
  ·intro D hD;exact⟨G1,s1.new wd hD,bh.refl _,ar.make wd s1 hD⟩
  ·rintro D i H' _ ⟨G2,s2,e12,_⟩;exact ak.of (s2.wd.sub _ _ (e12 _ _ he))
  ·rintro D i x H' hx ⟨G2,s2,e12,o2⟩;obtain⟨n,hn,rfl⟩:=mw hx
   cb_eq
   refine cw ((hs.mono (s2.same wd)).mono s2.wd.sub) ?_
   cb_eq
   rw[cU];rw[PM.take_snoc hn,qt];have hml:=PH r.segs s;by_cases hlt:n<s.length
   ·rw[dT (by omega)];simp only[if_true];refine⟨_,o2.at_,?_,G2,s2.put wd o2,e12,?_⟩
    ·rw[dG];have h1:=oB (fun n=>decide (n<s.length)) ((gZ r.segs s).take i);rw[cP]at h1;exact bZ (m:=257) (by omega) (by decide)
    ·rw[kO,if_pos (by simpa using hlt),oz,<-ik];exact o2.put_
   ·rw[dF (by omega)];simp only[aV,if_false];refine⟨G2,s2,e12,?_⟩;rw[kO,if_neg (by simpa using hlt),oz,cC];exact o2
  ·rintro D H' ⟨G2,s2,e12,o2⟩;rw[dG,cq]at o2
   cb_eq
   refine q _ _ _ (s2.sealO wd o2 aT) ⟨D,rfl,?_⟩;rw[ax];unfold iI;rw[if_pos hd]
 ·have fin:Q (.ref e) H1:=q _ _ _ s1 ⟨e,rfl,by rw[he]; unfold iI; rw[if_neg hd]⟩;cases hrd:r.dirs with
  |false=>
   simp only[aV,if_false];exact fin
  |true=>
   simp only[if_true];cases isDir with
   |true=>
    simp only[eX,aV,if_false];exact fin
   |false=>exact absurd ⟨hrd,rfl⟩ hd
def Vt(K:aw)(A:Ad):Sp:=fun vs H Q _=>∃(G:Hp)(p:aa)(r:cX)(isDir:Bool)(a:aa)(s:ag),vs=[.ref p,.bl isDir,.ref a]/\Wd A.toCn G H/\ja A G p r/\BL K G a s/\s.length<=256/\nF s/\
 cQ A.toCn G H Q fun _ v=>v=.bl (kA r [] (aG 47 s) isDir)
theorem Ov(n:Nat)(l:List Nat):gw (.int (n:Int)) (iv l)=decide (n∈l):=by
 unfold gw iv;rw[vj];by_cases h:n∈l
 ·rw[dT h,ow];exact⟨n,h,by show(((n:Nat):Int)==(n:Nat))=true; simp⟩
 ·rw[dF h,vi];intro d hd z;have z:(((d:Nat):Int)==(n:Nat))=true:=z;have z:d=n:=iT (eq_of_beq z);exact h (z▸hd)
theorem Oi(l:List Nat):(iv l).all iK=true:=by
 rw[ju];intro v hv;obtain⟨c,_,rfl⟩:=bP.mp hv;rfl
theorem Oh{r:cX}{isDir:Bool}{s:ag}(hg:nF s):s.length∈iI r isDir s↔kA r [] (aG 47 s) isDir=true:=by
 have e:=lL s;have h1:=xf (r:=r) (isDir:=isDir) (e:=s.length) (show cg (aG 47 s)from hg);rw[e]at h1;rw[h1,uz];have hl:cz (aG 47 s) (aG 47 s).length=s.length:=by rw[tJ,e]
 have hpos:0<(aG 47 s).length:=fC.mpr hg.1;constructor
 ·rintro⟨j,h0,hj,he,hd,hm⟩;have:=Ft h0 hj hpos (aF _) (by rw[hl,<-he]);subst this;rw[cq]at hm;exact⟨_,rfl,hg.1,hd.imp id (fun z=>by rw[tI]at z; exact z),hm⟩
 ·rintro⟨q,h1,h2,h3,h4⟩;rw[mW]at h1;subst h1;exact⟨_,hpos,aF _,hl.symm,h3.imp id (fun z=>by rw[tI]; exact z),by rw[cq]; exact h4⟩
theorem Re(T:ba K mg A):Kn P w K mg base aX "matches" 6 ["pattern","is_directory","path"] (Vt K A):=by
 have sc:aW ["pattern","is_directory","path"] ["pattern","is_directory","path"] (aI Jj):=bo;refine Kn.of T.YF sc (fun vs H Q E h=>?_) (fun f cdv A0 outer s0 H vs Q E hr h=>?_)
 ·obtain⟨_,_,_,_,_,_,rfl,_⟩:=h; rfl
 obtain⟨G,p,r,isDir,a,s,rfl,wd,hP,hs,hsl,hg,q⟩:=h;refine⟨_,(au (aL (fJ xo (cL T.Xe (pv 2)) (cF (Hc T) hr (af (pv 0) (af (pv 1) (af (pv 2) ao)))) (by with_unfolding_all rfl)))),?_⟩
 cb_eq
 refine cw (hs.mono wd.sub) ?_;rw[cU];refine⟨G,p,r,isDir,a,s,rfl,wd,hP,hs,hsl,hg,fun G1 H1 v s1 hv=>?_⟩;obtain⟨e,rfl,he⟩:=hv;refine yl (ak.of (s1.wd.sub _ _ he)) rfl (Oi _) (q _ _ _ s1 (congrArg V.bl ?_));rw[if_neg (by decide),Ov,mS,decide_eq_true_iff];exact Oh hg
def jl(ld:aa)(n:Nat)(ll:aa):List (Str×V):=[("directory",.ref ld),("size",.int n),("lines",.ref ll)]
def iU(A:Ad)(G:Hp)(v:V)(s:ag):Prop:=match dB s with
 |none=>False
 |some none=>v=.non
 |some (some r)=>∃p,v=.ref p/\ja A G p r
structure oJ(A:Ad)(G:Hp)(p:aa)(l:bD)(dx ld ll:aa)(vs:List V):Prop where
 at_:G p=some (.ins A.plist dx (jl ld ((aD l.dir).length+l.text.length) ll))
 dir:G ld=some (.lst (bv (aD l.dir)))
 lines:G ll=some (.lst vs)
 each:bH (iU A G) vs (linesOf l.text)
 ok:oi l.dir
 dlen:(aD l.dir).length<=256
 tlen:l.text.length<=512
theorem iU.mono{G G':Hp}(e:bh G G'){v:V}{s:ag}(h:iU A G v s):iU A G' v s:=by
 unfold iU at h⊢;split at h
 ·exact h
 ·exact h
 ·obtain⟨p,h1,h2⟩:=h;exact⟨p,h1,h2.mono e⟩
theorem oJ.mono{G G':Hp}(e:bh G G'){p:aa}{l:bD}{dx ld ll:aa}{vs:List V}(h:oJ A G p l dx ld ll vs):oJ A G' p l dx ld ll vs:=
 ⟨e _ _ h.at_,e _ _ h.dir,e _ _ h.lines,cO (fun _ _ z=>z.mono e) h.each,h.ok,h.dlen,h.tlen⟩
theorem BD{ld ll:aa}{n:Nat}:(jl ld n ll).lookup ("directory":Str)=some (.ref ld):=by rfl
theorem Sl{ld ll:aa}{n:Nat}:(jl ld n ll).lookup ("size":Str)=some (.int n):=by rfl
theorem BE{ld ll:aa}{n:Nat}:(jl ld n ll).lookup ("lines":Str)=some (.ref ll):=by rfl
structure iw(G:Hp)(kvs:List (aP×V))(g:js):Prop where
 nd:(kvs.map (·.1)).Nodup
 key:∀k∈kvs.map (·.1),∃E:Nat,E<=300/\k=bW (E:Int)
 at_:∀E:Nat,(g E=none/\cf kvs (bW (E:Int))=none)\/∃(i n:Nat)(b:Bool)(t:aa),g E=some (i,n,b)/\cf kvs (bW (E:Int))=some (.ref t)/\G t=some (.tup [.int i,.int n,.bl b])
theorem iw.mono{G G':Hp}{kvs:List (aP×V)}{g:js}(e:bh G G')(h:iw G kvs g):iw G' kvs g:=
 ⟨h.nd,h.key,fun E=>(h.at_ E).imp id fun⟨i,n,b,t,h1,h2,h3⟩=>⟨i,n,b,t,h1,h2,e _ _ h3⟩⟩
theorem iw.len{G:Hp}{kvs:List (aP×V)}{g:js}(h:iw G kvs g):kvs.length<=301:=by
 have h2:=lC 301 ((kvs.map (·.1)).map fun(k:aP)=>match k with|.inl i=>i.toNat|.inr _=>0) ?_ ?_
 ·rw[aE,aE]at h2;exact h2
 ·refine kQ.mpr (sA ?_ h.nd);intro a b ha hb hne q;obtain⟨c,_,rfl⟩:=h.key a ha;obtain⟨d,_,rfl⟩:=h.key b hb;have q:((c:Int)).toNat=((d:Int)).toNat:=q;rw[fm,fm]at q;exact hne (by rw[q])
 ·intro x hx;obtain⟨k,hk,rfl⟩:=bP.mp hx;obtain⟨c,hc,rfl⟩:=h.key k hk;show(c:Int).toNat<301;omega
theorem Ss{kvs:List (aP×V)}{k:aP}{v:V}{x:aP}(h:x∈(dj kvs k v).map (·.1)):x=k\/x∈kvs.map (·.1):=by
 cases e:cf (dj kvs k v) x with
 |none=>exact absurd h (CJ e)
 |some y=>
  rw[yc]at e;split at e
  ·next z=>exact .inl z
  ·exact .inr (WJ e)
theorem iw.put{G:Hp}{kvs:List (aP×V)}{g:js}(h:iw G kvs g){E i n:Nat}{b:Bool}{t:aa}(hE:E<=300)(ht:G t=some (.tup [.int i,.int n,.bl b])):iw G (dj kvs (bW (E:Int)) (.ref t)) (fun E'=>if E'=E then some (i,n,b)else g E') where
 nd:=GR _ h.nd
 key k hk:=by
  rcases Ss hk with z|z
  ·exact⟨E,hE,z⟩
  ·exact h.key k z
 at_ E':=by
  rw[yc];by_cases z:E'=E
  ·subst z;exact .inr ⟨i,n,b,t,by rw[if_pos rfl],by rw[if_pos rfl],ht⟩
  ·have hk: ¬((bW (E':Int):aP)=bW (E:Int)):=fun y=>z (by injection y with y; exact iT y);rw[if_neg hk];show(((if E'=E then some (i,n,b)else g E')=none/\_)\/∃(i' n':Nat)(b':Bool)(t':aa),(if E'=E then some (i,n,b)else g E')=some (i',n',b')/\_);rw[if_neg z];exact h.at_ E'
theorem ar.open_{A:Cn}{G He G1 H1:Hp}(wd:Wd A G He)(s:Step A G He G1 H1){q:aa}{o:HO}(x:ar A He G1 H1 q o):∃H0,H1=ah H0 q o/\H0 q=none/\Step A G He G1 H0:=by
 refine⟨fun b=>if b=q then none else H1 b,?_,if_pos rfl,⟨⟨fun b u e=>?_,fun m dx lc opt dd e=>?_,s.wd.inj,?_⟩,s.grow,fun b u e h=>?_,s.newc⟩⟩
 ·funext b
  unfold ah;by_cases z:b=q
  ·rw[if_pos z,z]; exact x.at_
  ·rw[if_neg z]; show _=(if b=q then none else H1 b); rw[if_neg z]
 ·have z:b≠q:=fun z=>by rw[z,x.g]at e; cases e
  show(if b=q then none else H1 b)=some u;rw[if_neg z]; exact s.wd.sub b u e
 ·obtain⟨h1,kvs,cs,h2,h3,h4⟩:=s.wd.cach m dx lc opt dd e;have z:dd≠q:=fun z=>x.nc (.inr ⟨m,dx,lc,opt,by rw[<-z]; exact e⟩);exact⟨h1,kvs,cs,by show(if dd=q then none else H1 dd)=_; rw[if_neg z]; exact h2,h3,h4⟩
 ·obtain⟨h1,ps,h2,h3⟩:=s.wd.tab;have z:A.tab≠q:=fun z=>x.nc (.inl z.symm);exact⟨h1,ps,by show(if A.tab=q then none else H1 A.tab)=_; rw[if_neg z]; exact h2,h3⟩
 ·have z:b≠q:=fun z=>by rw[z,x.new]at e; cases e
  show(if b=q then none else H1 b)=some u;rw[if_neg z]; exact s.keep b u e h
def Va(K:aw)(A:Ad):Sp:=fun vs H Q _=>∃(G H0:Hp)(dc pl a:aa)(kvs:List (aP×V))(ls:List bD)(i:Nat)(l:bD)(q:bj)(isDir:Bool)(done:Nat->Nat->Prop)(g:js)(dx ld ll:aa)(lv:List V),
 vs=[.ref dc,.int i,.ref pl,.bl isDir,.ref a]/\H=ah H0 dc (.dK kvs)/\H0 dc=none/\Wd A.toCn G H0/\oJ A G pl l dx ld ll lv/\ls[i]?=some l/\q≠[]/\cg (l.dir++q)/\BL K G a (aD (l.dir++q))/\(aD (l.dir++q)).length<=256/\
 iw G kvs g/\kH ls (l.dir++q) isDir done g/\(∀n i' n',done i' n'-> ¬fN (gF ls i,i,n) (gF ls i',i',n'))/\
 ∀G' H' kvs' g',Step A.toCn G H0 G' H'->ar A.toCn H0 G' H' dc (.dK kvs')->iw G' kvs' g'->kH ls (l.dir++q) isDir (fun i' n'=>done i' n'\/(i'=i/\∃r,kh ls i n' l r)) g'->Q .non H'
theorem NW{r:cX}{isDir:Bool}{q:bj}(hq:cg q){e:Nat}(h:e∈iI r isDir (aD q)):e<=(aD q).length:=by
 obtain⟨j,h0,hj,rfl,_⟩:=(xf hq).mp h;have:=CB h0 hj;have h2:=congrArg dS this;rw[cP]at h2;unfold cz;omega
theorem Pj(x:ag):(linesOf x).length<=x.length+1:=by
 have:=split_len 10 x;show(aG 10 x).length<=_;omega
theorem QP(T:ba K mg A):Kn P w K mg base aX "choose_lines" 6 ["chosen","number","pattern_list","is_directory","path"] (Va K A):=by
 have sc:aW ["chosen","number","pattern_list","is_directory","path","start","rest","index","pattern","end"] ["chosen","number","pattern_list","is_directory","path"] (aI IS):=bo;refine Kn.of T.Yn sc (fun vs H Q E h=>?_) (fun f cdv A0 outer s0 H vs Q E hr h=>?_)
 ·obtain⟨_,_,_,_,_,_,_,_,_,_,_,_,_,_,_,_,_,rfl,_⟩:=h; rfl
 obtain⟨G,H0,dc,pl,a,kvs,ls,i,l,q,isDir,done,g,dx,ld,ll,lv,rfl,rfl,hdc,wd,hPL,hli,hq,hgp,hs,hsl,hDi,hBe,hno,fin⟩:=h;have hu:=mr hr;have s1:=(Step.refl wd).new wd hdc (o:=.dK kvs);have o1:=ar.make wd (Step.refl wd) hdc (o:=.dK kvs)
 have hgq:cg q:=by
  have:=hgp.drop (k:=l.dir.length) (by rw[bt]; have:=fC.mpr hq; omega);rw[LO (aF _),jZ (aF _),mW]at this;exact this
 have hdrop:=NR (q:=q) hPL.ok hq;have hstart:gy (aD l.dir).length<=257:=by unfold gy; have:=hPL.dlen; split<;>omega
 refine⟨_,(aq (pS 5 sc.nd (cL T.Xe (bK (pv 2) rfl)))
   (aq (bz (bI mG (pv 5) aA (bp _))
    (au (pS 5 sc.nd (bb dP (pv 5) aA)))
    bE)
   (aq (pS 6 sc.nd (iM iN (pv 4) (fW (pv 5)) mI))
   (au (fX eZ rfl (nO rfl T.Xo (af (bK (pv 2) rfl) ao)) (nM rfl (hW (gN 7 sc.nd) (hW (gN 8 sc.nd) nN)))
    (au (bz (bI Bi (pv 8) lF (bp _))
     (au (fX eZ rfl (dt (cF (Hc T) hr (af (pv 8) (af (pv 3) (af (pv 6) ao))))) (gN 9 sc.nd)
      (au (xx hu (pv 0) (bb dP (pv 5) (pv 9)) (dQ (af (pv 1) (af (bb dP (pv 7) aA) (af (bK (pv 8) rfl) ao)))) rfl))))
     bE))))))),?_⟩
 cb_eq
 refine bx (s1.wd.sub _ _ hPL.at_) T.Xm T.XC BD ?_;refine cw (ak.of (s1.wd.sub _ _ hPL.dir)) ?_;rw[cU]
 cb_eq
 have main:∀st:Nat,st=gy (aD l.dir).length->∀(R:VK),(∀(G2 H2:Hp)(p2:aa),Step A.toCn G H0 G2 H2->ar A.toCn H0 G2 H2 dc (.dK kvs)->G2 p2=some (.lst (bv (aD q)))->bh G G2->R (.ref p2) H2)->mK K (.ref a) (some (st:Int)) none (ah H0 dc (.dK kvs)) R:=by
  intro st hst R hR;refine iP (hs.mono s1.wd.sub) fun p2 hp2=>?_;rw[wD,wq,hst,hdrop];exact hR _ _ p2 (s1.newI wd hp2 aT) (o1.newI s1.wd hp2 aT) ax (bu (s1.wd.noG hp2))
 have hst1:0<(aD l.dir).length->(aD l.dir).length+1=gy (aD l.dir).length:=fun z=>by unfold gy; rw[if_pos z]
 have hst2: ¬0<(aD l.dir).length->(aD l.dir).length=gy (aD l.dir).length:=fun z=>by unfold gy; rw[if_neg z]
 by_cases hz:0<(aD l.dir).length
 case' pos=>
  rw[dT (by omega:(0:Int)<((aD l.dir).length:Nat))];simp only[if_true];rw[jH,hst1 hz]
 case' neg=>
  rw[dF (by omega: ¬(0:Int)<((aD l.dir).length:Nat))];simp only[aV,if_false];rw[show(((aD l.dir).length:Nat):Int)=((gy (aD l.dir).length:Nat):Int)from congrArg Int.ofNat (hst2 hz)]
 all_goals
  clear hst1 hst2 hz;refine main _ rfl _ fun G2 H2 p2 s2 o2 hp2 e02=>?_;generalize hst:gy (aD l.dir).length=st at*
  cb_eq
  have hPL2:=hPL.mono e02;refine bx (s2.wd.sub _ _ hPL2.at_) T.Xm T.XD BE ?_
  refine qc (ak.of (s2.wd.sub _ _ hPL2.lines)) (fun j σ H'=>∃(x7 x8 x9:Option V)(G3:Hp)(kvs3:List (aP×V))(g3:js),σ=[some (.ref dc),some (.int i),some (.ref pl),some (.bl isDir),some (.ref a),some (.int (st:Int)),some (.ref p2),x7,x8,x9]/\Step A.toCn G H0 G3 H'/\ar A.toCn H0 G3 H' dc (.dK kvs3)/\bh G2 G3/\iw G3 kvs3 g3/\
    kH ls (l.dir++q) isDir (fun i' n'=>done i' n'\/(i'=i/\n'<=j/\∃r,kh ls i n' l r)) g3) ?_ ?_ ?_ ?_
  ·refine⟨none,none,none,G2,kvs,g,rfl,s2,o2,bh.refl _,hDi.mono e02,pf hBe (fun _ _ z=>.inl z) ?_⟩;rintro i' n' k _ _ (z|⟨_,z,r,_,s',z2,_⟩) _
   ·exact z
   ·omega
  ·rintro j σ H' _ ⟨_,_,_,G3,_,_,_,s3,_,e23,_⟩;exact ak.of (s3.wd.sub _ _ (e23 _ _ hPL2.lines))
  ·rintro j v σ H' T0 hv ⟨x7,x8,x9,G3,kvs3,g3,rfl,s3,o3,e23,hD3,hB3⟩ hT;obtain⟨s,hsj,hLi⟩:=dH hPL2.each hv;have s4:=s3.new wd hT (o:=.tup [.int (j:Nat),v]);have o4:=o3.new_ hT (o':=.tup [.int (j:Nat),v]);have hLi:=hLi.mono e23
   cb_eq
   unfold iU at hLi;cases hlo:dB s with
   |none=>rw[hlo]at hLi; exact hLi.elim
   |some o=>
    cases o with
    |none=>
     rw[hlo]at hLi;have hLi:v=.non:=hLi;subst hLi;simp only[decide_true,eX,aV,if_false];refine⟨_,_,_,G3,kvs3,g3,rfl,s4,o4,e23,hD3,pf hB3 ?_ ?_⟩
     ·rintro i' n' (z|⟨z,z1,z2⟩)
      ·exact .inl z
      ·exact .inr ⟨z,by omega,z2⟩
     ·rintro i' n' k _ _ (z|⟨z,z1,r,z2⟩) _
      ·exact .inl z
      ·refine .inr ⟨z,?_,r,z2⟩;by_cases e:n'=j+1
       ·subst e;obtain⟨_,s',h1,h2,h3⟩:=z2;rw[yY,hsj]at h2;cases h2;unfold xE at h3;rw[hlo]at h3;cases h3
       ·omega
    |some r=>
     rw[hlo]at hLi;obtain⟨pp,rfl,hP⟩:=hLi;rw[show decide (V.ref pp=V.non)=false from dF (fun z=>by cases z)];simp only[eD,if_true];have hRA:kh ls i (j+1) l r:=⟨hli,s,by omega,by rw[yY]; exact hsj,by unfold xE; rw[hlo]; rfl⟩
     have hgt:nF (aD q):=by
      unfold nF;rw[hgq.split];exact hgq
     have hql:(aD q).length<=256:=by
      rw[<-hdrop,cI];omega
     refine⟨G3,pp,r,isDir,p2,aD q,rfl,s4.wd,hP,eF (e23 _ _ hp2),hql,hgt,fun G5 H5 v5 s5 hv5=>?_⟩;obtain⟨pe,rfl,hpe⟩:=hv5;have s45:=s4.trans wd s5;have o5:=o4.call s5;have e35:=s5.same s4.wd;obtain⟨dp,mp,cs,hpat,_⟩:=hP
     refine jV (ak.of (s5.wd.sub _ _ hpe)) (fun k σ H'=>∃(x9:Option V)(G6:Hp)(kvs6:List (aP×V))(g6:js),σ=[some (.ref dc),some (.int i),some (.ref pl),some (.bl isDir),some (.ref a),some (.int (st:Int)),some (.ref p2),some (.int (j:Int)),some (.ref pp),x9]/\Step A.toCn G H0 G6 H'/\ar A.toCn H0 G6 H' dc (.dK kvs6)/\bh G5 G6/\iw G6 kvs6 g6/\
       (∀E,(∃e,e∈(iI r isDir (aD q)).take k/\E=st+e)->g6 E=some (i,j+1,r.neg))/\∀E,¬(∃e,e∈(iI r isDir (aD q)).take k/\E=st+e)->g6 E=g3 E) ?_ ?_ ?_ ?_
     ·refine⟨_,G5,kvs3,g3,rfl,s45,o5,bh.refl _,hD3.mono e35,fun E⟨e,h,_⟩=>?_,fun E _=>rfl⟩;rw[eO]at h;cases h
     ·rintro k σ H' _ ⟨_,G6,_,_,_,s6,_,e56,_⟩;exact ak.of (s6.wd.sub _ _ (e56 _ _ hpe))
     ·rintro k x σ H' hx ⟨x9',G6,kvs6,g6,rfl,s6,o6,e56,hD6,hg1,hg2⟩;obtain⟨e,he,rfl⟩:=mw hx
      cb_eq
      have ee:bh G3 G6:=e35.trans e56;refine bx (s6.wd.sub _ _ (ee _ _ hpat)) T.Xl T.XE Bt ?_;rw[jH];refine⟨by decide,fun t ht=>?_⟩;have s7:=s6.newI wd ht (o:=.tup [.int (i:Int),.int ((j+1:Nat):Int),.bl r.neg]) cZ;have o7:=o6.newI s6.wd ht (o':=.tup [.int (i:Int),.int ((j+1:Nat):Int),.bl r.neg]) cZ;have n67:=bu (o:=.tup [.int (i:Int),.int ((j+1:Nat):Int),.bl r.neg]) (s6.wd.noG ht);have hmem:e∈iI r isDir (aD q):=dq he;have hel:=NW hgq hmem
      have htot:st+e<=300:=by
       have h1:=congrArg dS hdrop;rw[cI]at h1;omega
      rw[show(st:Int)+(e:Int)=((st+e:Nat):Int) by omega];refine CS (k:=bW ((st+e:Nat):Int)) o7.at_ (bZ (hD6.mono n67).len (by decide)) ?_;have hD7:=(hD6.mono n67).put (E:=st+e) (i:=i) (n:=j+1) (b:=r.neg) (t:=t) htot ax;refine⟨_,_,_,_,rfl,s7.put wd o7,o7.put_,e56.trans n67,hD7,?_,?_⟩
      ·rintro E ⟨e',h1,rfl⟩;by_cases z:st+e'=st+e
       ·rw[if_pos z]
       ·rw[if_neg z];rw[PM.take_snoc he]at h1;rcases cj.mp h1 with h1|h1
        ·exact hg1 _ ⟨e',h1,rfl⟩
        ·exact absurd (by rw[cD.mp h1]) z
      ·intro E h1;have z: ¬E=st+e:=fun z=>h1 ⟨e,by rw[PM.take_snoc he]; simp,z⟩;rw[if_neg z];exact hg2 _ fun⟨e',h2,h3⟩=>h1 ⟨e',by rw[PM.take_snoc he]; exact dn _ h2,h3⟩
     ·rintro σ H' ⟨x9',G6,kvs6,g6,rfl,s6,o6,e56,hD6,hg1,hg2⟩;rw[dG,cq]at hg1 hg2;have hB6:=MM hRA rfl hPL.ok hgp hq hB3 ?_ (by rw[hst]; exact hg1) (by rw[hst]; exact hg2)
      ·refine⟨_,_,_,G6,kvs6,g6,rfl,s6,o6,e23.trans (e35.trans e56),hD6,pf hB6 ?_ ?_⟩
       ·rintro i' n' ((z|⟨z,z1,z2⟩)|⟨z,z1⟩)
        ·exact .inl z
        ·exact .inr ⟨z,by omega,z2⟩
        ·exact .inr ⟨z,by omega,r,by rw[z1]; exact hRA⟩
       ·rintro i' n' k _ _ (z|⟨z,z1,r',z2⟩) _
        ·exact .inl (.inl z)
        ·by_cases e:n'=j+1
         ·exact .inr ⟨z,e⟩
         ·exact .inl (.inr ⟨z,by omega,r',z2⟩)
      ·rintro i' n' (z|⟨rfl,z1,_⟩)
       ·exact hno _ _ _ z
       ·unfold fN;simp only[ic,true_and,false_or];omega
  ·rintro σ H' ⟨x7,x8,x9,G3,kvs3,g3,rfl,s3,o3,e23,hD3,hB3⟩;refine fin _ _ kvs3 g3 s3 o3 hD3 (pf hB3 ?_ ?_)
   ·rintro i' n' (z|⟨z,_,z2⟩)
    ·exact .inl z
    ·exact .inr ⟨z,z2⟩
   ·rintro i' n' k _ _ (z|⟨z,r,z2⟩) _
    ·exact .inl z
    ·refine .inr ⟨z,?_,r,z2⟩;obtain⟨_,s',h1,h2,_⟩:=z2;have:=(aK.mp h2).1;rw[bR hPL2.each];omega
def kR(A:Ad)(G:Hp)(as:List aa)(ls:List bD):Prop:=bH (fun p l=>∃dx ld ll lv,oJ A G p l dx ld ll lv) as ls
theorem kR.mono{G G':Hp}(e:bh G G'){as:List aa}{ls:List bD}(h:kR A G as ls):kR A G' as ls:=cO (fun _ _⟨dx,ld,ll,lv,z⟩=>⟨dx,ld,ll,lv,z.mono e⟩) h
theorem Step.keepL{A:Cn}{G H G1 H1:Hp}(wd:Wd A G H)(s:Step A G H G1 H1){a:aa}{xs:List V}(h:H a=some (.lst xs)):H1 a=some (.lst xs):=s.keep a _ h (wd.notL h fun _ z=>by cases z)
def Kk(K:aw)(A:Ad):Sp:=fun vs H Q _=>∃(G:Hp)(la:aa)(as:List aa)(ls:List bD)(isDir:Bool)(a:aa)(p:bj),vs=[.ref la,.bl isDir,.ref a]/\Wd A.toCn G H/\H la=some (.lst (as.map V.ref))/\kR A G as ls/\ls.length<=16/\cg p/\BL K G a (aD p)/\(aD p).length<=256/\
 ∀G' H' dc kvs g,Step A.toCn G H G' H'->ar A.toCn H G' H' dc (.dK kvs)->iw G' kvs g->(∀k,0<k->k<=p.length->g (cz p k)=(fH ls (p.take k) (eS p isDir k)).map fun x=>(x.1,x.2,negAt ls x.1 x.2))->Q (.ref dc) H'
def zB(x:Nat×Nat×Nat):List V:=if x.1=0 then [.int 0]else [.int (x.1:Int),.int (x.2.1:Int),.int (x.2.2:Int)]
def Ki(K:aw)(A:Ad):Sp:=fun vs H Q _=>∃(G:Hp)(la:aa)(as:List aa)(ls:List bD)(isDir:Bool)(a:aa)(p:bj),vs=[.ref la,.bl isDir,.ref a]/\Wd A.toCn G H/\H la=some (.lst (as.map V.ref))/\kR A G as ls/\ls.length<=16/\cg p/\BL K G a (aD p)/\(aD p).length<=256/\
 cQ A.toCn G H Q fun G' v=>∃e,v=.ref e/\G' e=some (.lst (zB (becomes ls p isDir)))
theorem QR(T:ba K mg A)(AZ:ba K mg A->Kn P w K mg base aX "lines_that_count" 8 ["lists","is_directory","path"] (Kk K A)):Kn P w K mg base aX "fate" 9 ["lists","is_directory","path"] (Ki K A):=by
 have sc:aW ["lists","is_directory","path","chosen","end"] ["lists","is_directory","path"] (aI IU):=bo;refine Kn.of T.Yp sc (fun vs H Q E h=>?_) (fun f cdv A0 outer s0 H vs Q E hr h=>?_)
 ·obtain⟨_,_,_,_,_,_,_,rfl,_⟩:=h; rfl
 obtain⟨G,la,as,ls,isDir,a,p,rfl,wd,hla,hLs,hll,hgp,hs,hsl,q⟩:=h;have hu:=mr hr;have hpos:0<p.length:=fC.mpr hgp.1
 refine⟨_,(aq (pS 3 sc.nd (cF (AZ T) hr (af (pv 0) (af (pv 1) (af (pv 2) ao)))))
   (aq (fX eZ rfl (dt (cF (QQ T) hr (af (pv 2) ao))) (gN 4 sc.nd)
    (au (bz (PW.pt (ur (rN (Bx hu (pv 4) (pv 3))) (uu (lG (dR (bM dg (mH hu (pv 3) (pv 4) (fun _ _=>rfl)) aA (fun _ _=>rfl)))))))
     (au (aL (br (af aA (af (bM dg (mH hu (pv 3) (pv 4) (fun _ _=>rfl)) aA (fun _ _=>rfl)) (af (bM dg (mH hu (pv 3) (pv 4) (fun _ _=>rfl)) aA (fun _ _=>rfl)) ao))))))
     bE)))
   (aq (bz (rN (Bx hu (cL T.Xe (pv 2)) (pv 3)))
    (au (aL (br (af aA (af (bM dg (mH hu (pv 3) (cL T.Xe (pv 2)) (fun _ _=>rfl)) aA (fun _ _=>rfl)) (af (bM dg (mH hu (pv 3) (cL T.Xe (pv 2)) (fun _ _=>rfl)) aA (fun _ _=>rfl)) ao))))))
    bE)
   (au (aL (br (af aA ao))))))),?_⟩
 cb_eq
 refine⟨G,la,as,ls,isDir,a,p,rfl,wd,hla,hLs,hll,hgp,hs,hsl,fun G1 H1 dc kvs g s1 o1 hD1 hg=>?_⟩
 cb_eq
 refine⟨G1,a,aD p,rfl,s1.wd,hs.mono (s1.same wd),hsl,fun G2 H2 v s2 hv=>?_⟩;obtain⟨pe,rfl,hpe⟩:=hv;have s12:=s1.trans wd s2;have o2:=o1.call s2;have hD2:=hD1.mono (s2.same s1.wd);have hends:gG (aD p)=(dU p.length).map fun k=>cz p (k+1):=zY hgp.1 (fun s hs=>rM (hgp.2 s hs).plain);rw[hends]at hpe;refine jV (ak.of (s12.wd.sub _ _ hpe)) (fun i σ H'=>∃x4,σ=[some (.ref la),some (.bl isDir),some (.ref a),some (.ref dc),x4]/\H'=H2/\(i<p.length->mh ls p isDir i)/\(i=p.length->mh ls p isDir (p.length-1)/\∀i n,fH ls p isDir=some (i,n)->negAt ls i n=true)) ?_ ?_ ?_ ?_
 ·exact⟨none,rfl,rfl,fun _=>WI hgp.1,fun z=>by omega⟩
 ·rintro i σ H' _ ⟨_,_,rfl,_⟩;exact ak.of (s12.wd.sub _ _ hpe)
 ·rintro k x σ H' hx ⟨x4,rfl,rfl,hup,_⟩;obtain⟨n,hn,rfl⟩:=mw hx;obtain⟨k',hk,rfl⟩:=eI hn;obtain⟨hki,hke⟩:=aK.mp hk;rw[List.getElem_range]at hke;rw[iW]at hki;subst hke;have hup:=hup hki;have hgk:=hg (k+1) (by omega) (by omega);have hat:=hD2.at_ (cz p (k+1))
  cb_eq
  refine uW (k:=bW ((cz p (k+1):Nat):Int)) o2.at_ ?_
  cb_eq
  have keep:(∀i n,fH ls (p.take (k+1)) (eS p isDir (k+1))=some (i,n)->negAt ls i n=true)->(k+1<p.length->mh ls p isDir (k+1))/\(k+1=p.length->mh ls p isDir (p.length-1)/\∀i n,fH ls p isDir=some (i,n)->negAt ls i n=true):=by
   intro h;refine⟨fun z=>WH hup z h,fun z=>?_⟩;rw[z,cq,tI]at h;exact⟨by rw[show p.length-1=k by omega]; exact hup,h⟩
  rcases hat with⟨h1,h2⟩|⟨i,n,b,t,h1,h2,h3⟩
  ·rw[h2];simp only[qF,qh,aV,if_false];refine⟨_,rfl,keep fun i n z=>?_⟩;rw[h1,z]at hgk;cases hgk
  ·rw[h2];simp only[mZ,qh,if_true];refine mO (k:=bW ((cz p (k+1):Nat):Int)) o2.at_ h2 ?_;refine cG (k:=2) (bQ.of (s12.wd.sub _ _ h3)) rfl ?_
   cb_eq
   have hdec:∃x,fH ls (p.take (k+1)) (eS p isDir (k+1))=some x/\x.1=i/\x.2=n/\negAt ls x.1 x.2=b:=by
    rw[h1]at hgk;cases hd:fH ls (p.take (k+1)) (eS p isDir (k+1))with
    |none=>rw[hd]at hgk; cases hgk
    |some x=>
     rw[hd]at hgk;have hgk:some (i,n,b)=some (x.1,x.2,negAt ls x.1 x.2):=hgk;injection hgk with hgk;injection hgk with e1 e2;injection e2 with e2 e3;exact⟨x,rfl,e1.symm,e2.symm,e3.symm⟩
   obtain⟨⟨i',n'⟩,hd,rfl,rfl,hb⟩:=hdec;cases b with
   |true=>
    simp only[eX,aV,if_false];refine⟨_,rfl,keep fun i n z=>?_⟩;rw[hd]at z;cases z;exact hb
   |false=>
    simp only[eD,if_true];refine mO (k:=bW ((cz p (k+1):Nat):Int)) o2.at_ h2 ?_;refine cG (k:=0) (bQ.of (s12.wd.sub _ _ h3)) rfl ?_;refine mO (k:=bW ((cz p (k+1):Nat):Int)) o2.at_ h2 ?_;refine cG (k:=1) (bQ.of (s12.wd.sub _ _ h3)) rfl ?_;refine⟨by decide,fun p9 hp9=>?_⟩;refine q _ _ _ (s12.newI wd hp9 aT) ⟨p9,rfl,?_⟩;rw[ax,WE hup hd hb];rfl
 ·rintro σ H' ⟨x4,rfl,rfl,_,hup⟩;rw[dG,aE,iW]at hup;obtain⟨hup,hkeep⟩:=hup rfl;have hend:=WG hup hkeep;have hgk:=hg p.length hpos (aF _);rw[cq,tI,tJ]at hgk;have hat:=hD2.at_ (aD p).length;have hs2:=(hs.mono (s12.same wd)).mono s12.wd.sub
  cb_eq
  refine cw hs2 ?_;rw[cU];refine uW (k:=bW (((aD p).length:Nat):Int)) o2.at_ ?_
  cb_eq
  rcases hat with⟨h1,h2⟩|⟨i,n,b,t,h1,h2,h3⟩
  ·rw[h2];simp only[qF,qh,aV,if_false];refine⟨by decide,fun p9 hp9=>?_⟩;refine q _ _ _ (s12.newI wd hp9 aT) ⟨p9,rfl,?_⟩
   have hd:fH ls p isDir=none:=by
    cases hd:fH ls p isDir with
    |none=>rfl
    |some x=>rw[h1,hd]at hgk; cases hgk
   rw[ax,hend,hd];rfl
  ·rw[h2];simp only[mZ,qh,if_true]
   have hdec:∃x,fH ls p isDir=some x/\x.1=i/\x.2=n:=by
    rw[h1]at hgk;cases hd:fH ls p isDir with
    |none=>rw[hd]at hgk; cases hgk
    |some x=>
     rw[hd]at hgk;have hgk:some (i,n,b)=some (x.1,x.2,negAt ls x.1 x.2):=hgk;injection hgk with hgk;injection hgk with e1 e2;injection e2 with e2 e3;exact⟨x,rfl,e1.symm,e2.symm⟩
   obtain⟨⟨i',n'⟩,hd,rfl,rfl⟩:=hdec;refine cw hs2 ?_;rw[cU];refine mO (k:=bW (((aD p).length:Nat):Int)) o2.at_ h2 ?_;refine cG (k:=0) (bQ.of (s12.wd.sub _ _ h3)) rfl ?_;refine cw hs2 ?_;rw[cU];refine mO (k:=bW (((aD p).length:Nat):Int)) o2.at_ h2 ?_;refine cG (k:=1) (bQ.of (s12.wd.sub _ _ h3)) rfl ?_;refine⟨by decide,fun p9 hp9=>?_⟩;refine q _ _ _ (s12.newI wd hp9 aT) ⟨p9,rfl,?_⟩;rw[ax,hend,hd];rfl
end
end PP
namespace L2
open PySem PySem.Spec
open PyProof.Rows hiding St
section
variable{P:aO}{w:aN}{K:aw}{mg:Str->Option ae}{H:Hp}{h:aC}{a:aa}{xs:List V}
theorem Kq(ok:cx P w H h)(kin:K.In h)(q:ak K H a xs):∃its:List ae,aS xs its/\PlainL h a its.toArray/\xs.length<=aY:=by
 rcases q with q|⟨o,its,n,hk,hc,hd,hs,hz,r⟩
 ·obtain⟨z,its,n,r,e⟩:=q.ok ok;exact⟨its,r,⟨_,n,e,rfl,rfl,rfl⟩,z⟩
 ·have e:=r.length;simp only[gc]at e;exact⟨its.toList,r,⟨o,n,kin a o hk,hc,hd,by simpa using hs⟩,by omega⟩
structure yI(q vn:Str)(attr:Str)(params:qe)(body:aJ)(scope:cR):Prop where
 txt:∃p1 p2 p3 p4 p5 p6,body=.Call (.Name "len" p1) [.Attribute (.Subscript (.Name vn p2) (.Name "n" p3) p4) attr p5] [] p6
 kind:scope.kind=.function
 co:scope.isCoroutine=false
 ge:scope.isGenerator=false
 vn_:scope.names.lookup vn=some .free
 n_:scope.names.lookup ("n":Str)=some .local
 len_:scope.names.lookup ("len":Str)=some .globalImplicit
 cell:∀x∈scope.names,x.2≠.cell
 bind:∀(cl:List (Str×aa))(pm cdv ct v:ae),bindArgs (PySem.W.kla_fn "<lambda>" q params body scope cl pm cdv ct) ⟨[v],[]⟩=pure [(("n":Str),v)]
 hd:(vn==("__debug__":Str))=false
 hcd:(vn==("__classdict__":Str))=false
theorem ON{A:bJ}{s:aj}{base:aC}{q vn attr:Str}{params:qe}{body:aJ}{scope:cR}{clos:List (Str×aa)}{pm ctv:ae}{c' f cl la ea C dx:aa}{fs:List (Str×V)}{ld:aa}{ds:List V}{i:Nat}{t:Tok}
  (M:Mod K mg base)(bk:∀b o,base.get? b=some o->s.heap.get? b=some o)(ok:cx P w H s.heap)(hroom:A.depth<BP)
  (X:yI q vn attr params body scope)(ho:s.heap.get? f=some (DN "<lambda>" q params body scope clos pm c' ctv))(hcd:s.heap.CodeRec (.ref c') q)
  (hcl:clos.lookup vn=some cl)(hcell:s.heap.IsCell cl (some (.ref la)))(hla:ak K H la xs)(hi:xs[i]?=some (.ref ea))(hea:H ea=some (.ins C dx fs))(hC:dy K C)(hN:cN K C attr)(hfl:fs.lookup attr=some (.ref ld))(hld:ak K H ld ds)
  (hmg:mg "len"=none):
  az (aB P w) A (call (.ref f) [.int (i:Int) t]) (fun u s'=>∃h' tk t',u=.int (ds.length:Int) t'/\s'={s with heap:=h',toks:=tk}/\∀b o,s.heap.get? b=some o->h'.get? b=some o) (fun _ _=>False) s:=by
 obtain⟨p1,p2,p3,p4,p5,p6,hb⟩:=X.txt;refine yh (PySem.W.kla_callFunE hroom ho rfl X.co X.ge rfl hcd ?_);rw[X.bind];refine aU (wpAny_newFunctionEnv X.cell (fun y hy=>?_) (fun h₁ hns hsb=>?_) X.kind)
 ·have:y=(("n":Str),km (i:Int) t):=by simpa using hy
  rw[this];exact X.n_
 have keep:∀b o,s.heap.get? b=some o->h₁.get? b=some o:=fun b o e=>hsb.extBut b o (cJ (bO e)) (bS _ e);have bk1:∀b o,base.get? b=some o->h₁.get? b=some o:=fun b o e=>keep b o (bk b o e);have ok1:cx P w H h₁:=ok.kept keep;have kin1:K.In h₁:=M.kin.keeps bk1;refine⟨M.nolimit.keeps bk1,?_⟩;show gW _ _ (.expr body (PySem.W.envX q scope s.heap.objs.size f (.ref c') clos)) _ _;refine PySem.W.kla_codeExpr ?_;rw[hb];obtain⟨mb,hb1,hb2⟩:=M.blt;have nm:(fun x=>([(("n":Str),km (i:Int) t)]:List (Str×ae)).reverse.lookup x) ("n":Str)=some (.int (i:Int) t):=rfl;obtain⟨its,r,pl,hz⟩:=Kq ok1 kin1 hla;obtain⟨eu,heu,reu⟩:=r.get hi;obtain rfl:eu=cK ea:=reu;obtain⟨mA,O,rO,_,_,_⟩:=wQ ok1 hea;obtain⟨lu,hlu,rlu⟩:=fQ.some_of (v:=V.ref ld) (o:=mA attr) (by rw[<-hfl]; exact rO attr);obtain rfl:lu=cK ld:=rlu;obtain⟨ids,rd,pd,hzd⟩:=Kq ok1 kin1 hld;have hn:=wW;have hlen:=rd.length;have hlr:=r.length;have hil:i<xs.length:=(aK.mp hi).1;refine nY (Da X.kind X.len_ (LC (M.glob.keeps bk1) hmg (hb1.keeps bk1) ((hb2 "len" (by decide)).trans boot_len) ?_) (by decide));refine Mn ?_ (by rfl) (by rfl);refine yt (Et (by rfl) (Subscript_ (yg (WR X.kind X.vn_ hcl (hcell.keeps keep) (yg (Lr X.kind X.n_ hns nm ?_) (by decide)) X.hcd) X.hd)));refine item_listR pl.isList (Int.natCast_nonneg i) (by have:(i:Int)<xs.length:=(by exact_mod_cast hil); have:=hz; omega) (by rw[fm]; simpa using heu) ?_ (by rfl);refine FJ kin1 O (hC.get attr) hC.hd hN hlu rfl ?_;refine yu ?_;refine LB pd.isList (by simp only[eY]<;>omega) ?_;exact⟨h₁,_,_,by rw[eY,hlen],rfl,keep⟩
theorem Nn{A:bJ}{E:ae->aj->Prop}{s:aj}{r:aa}{n:Nat}{t u v:Tok}{Q:List ae->aj->Prop}(hh:A.handled=none)(hr:IsRange s.heap r 0 (n:Int) 1 t u v)(hn:n<=1000)
  (hQ:∀(vs:List ae) h' tk,jt vs ((dU n).map fun(k:Nat)=>(k:Int))->(∀b o,s.heap.get? b=some o->h'.get? b=some o)->s.heap.objs.size<=h'.objs.size->Q vs {s with heap:=h',toks:=tk}):
  az (aB P w) A (collect (.ref r)) Q E s:=by
 have sm:Builtin.Range.small 0 (n:Int) 1=true:=small_one (by omega) (by omega) (by omega) (by omega);have rs:LA 0 (n:Int) 1=n:=by rw[rangeSize_one]; split<;>omega
 have main:∀R:Result->aj->Prop,(∀h' tk acc' c',(∀b o,b≠s.heap.objs.size->(s.heap.push {cls:=.type "list",data:=.seq ([]:List ae).toArray}).get? b=some o->h'.get? b=some o)->h'.get? s.heap.objs.size=some {cls:=.type "list",dict:=none,data:=.seq acc' c',slots:= #[]}->
   ItemsOf (fun i v=>∃t,v=.int (0+i*1) t) acc' n->R (.ok (.ret (.ref s.heap.objs.size))) {s with heap:=h',toks:=tk})->gW (aB P w) A (.builtin "proto.collect" ⟨[.ref r],[]⟩) R s:=fun R hR=>by
  refine pj LG ?_;rw[qg LJ _];show az _ A.in1 (newList []>>=fun l=>again (.builtin "list.__iadd__" ⟨[l,.ref r],[]⟩)) _ _ s;refine ay (mM ?_);refine aU ⟨pR yz _,pj F.entry_list_iadd ?_⟩;rw[qg yz _];show az _ A.in1 (yr (.ref s.heap.objs.size) (.ref r) (.ref s.heap.objs.size)) _ _ _;exact wpAny_extend_range (s:={s with heap:=s.heap.push {cls:=.type "list",data:=.seq ([]:List ae).toArray}}) hh (bS _ hr) sm rs (by omega) _ _ 0 (dz _ rfl) hR
 unfold collect;refine ay (Lv (main _ fun h' tk acc c' hk hS ha=>?_));show az _ A (load s.heap.objs.size>>=_) _ _ _;refine ay (wpAny_load hS ?_);refine aU (hQ acc.toList h' tk ?_ (fun b o e=>hk b o (cJ (bO e)) (bS _ e)) (jx (bO hS)))
 have hi:acc.toList.map numOf=(dU n).map fun(k:Nat)=>(k:Int):=by
  refine Dq fun i=>?_;rw[cH,cH,ir];by_cases hi:i<n
  ·have hs:i<acc.size:=by rw[ha.1]; exact hi
   obtain⟨t,e⟩:=ha.2 i acc[i] (iQ hs);rw[iQ hs,yN hi,e];show some (numOf (.int (0+(i:Int)*1) t))=some ((i:Int));simp[numOf]
  ·rw[yn (by rw[ha.1]; omega),gT (by rw[iW]; omega)];rfl
 rw[<-hi];refine intsAre_map _ fun v hv=>?_;obtain⟨i,hi⟩:=LW.mp hv;rw[ir]at hi;obtain⟨t,e⟩:=ha.2 i v hi;exact⟨_,t,e⟩
theorem OK{ns:List Int}{vs out:List ae}{g:Int->Int}(hv:jt vs ns)(ko:KskOutSt false (ns.map g) vs out):
  ∃ks:List Int,jt out ks/\ks.Perm ns/\ks.Pairwise (fun x y=>g x<=g y)/\∀z,ks.filter (fun x=>g x==z)=ns.filter (fun x=>g x==z):=by
 obtain⟨ps,hp,rfl,hs,hst⟩:=ko;have hlen:=hv.length
 have rel:∀p,p∈(ns.map g).zip vs->p.1=g (numOf p.2)/\p.2∈vs:=fun p q=>by
  rw[<-hv.nums,gB,List.zip_map_left]at q;obtain⟨⟨x,y⟩,m,rfl⟩:=bP.mp q;obtain⟨e,mx⟩:x=y/\x∈vs:=mem_zip_self m;subst e;exact⟨rfl,mx⟩
 have relp:∀p,p∈ps->p.1=g (numOf p.2)/\p.2∈vs:=fun p q=>rel p (hp.mem_iff.mp q)
 have fl:∀(z:Int)(l:List (Int×ae)),(∀p,p∈l->p.1=g (numOf p.2))->((l.map Prod.snd).map numOf).filter (fun x=>g x==z)=((l.filter (fun p=>p.1==z)).map Prod.snd).map numOf:=fun z l hl=>by
  rw[gB,List.filter_map,gB];refine congrArg _ (List.filter_congr fun p q=>?_);show(g (numOf p.2)==z)=(p.1==z);rw[hl p q]
 have sn:((ns.map g).zip vs).map Prod.snd=vs:=List.map_snd_zip (by rw[aE]; omega);refine⟨(ps.map Prod.snd).map numOf,intsAre_map _ fun v hm=>?_,?_,?_,fun z=>?_⟩
 ·obtain⟨p,q,rfl⟩:=bP.mp hm;exact hv.all _ (relp p q).2
 ·have e:=(hp.map Prod.snd).map numOf;rw[sn,hv.nums]at e;exact e
 ·rw[kQ,kQ];refine hs.imp_of_mem fun{p q} mp mq o=>?_;have o:p.1<=q.1:=by simpa using o
  rw[(relp p mp).1,(relp q mq).1]at o;exact o
 ·rw[fl z ps fun p q=>(relp p q).1,hst z,<-fl z _ fun p q=>(rel p q).1,sn,hv.nums]
end
section
variable{X:Cx}{pins:List (aa×Obj)}{σ:St}{H:Hp}{s:aj}
theorem FY:∀{vs:List ae}{ns:List Int},jt vs ns->aS (ns.map V.int) vs
 |_,_,.nil=>.nil
 |_,_,.cons n t h=>.cons ⟨t,rfl⟩ (FY h)
theorem UO{E:ae->aj->Prop}{r f:aa}{n:Nat}{t u v:Tok}{g:Int->Int}{Q:ae->aj->Prop}(I:Inv X pins σ H s)(hcalm:X.calm=true)(hr:IsRange s.heap r 0 (n:Int) 1 t u v)(hn:n<=1000)
  (turn:∀(i:Nat)(t:Tok)(s':aj),i<n->(∀b o,b≠X.env.locals->s.heap.get? b=some o->s'.heap.get? b=some o)->
   az (aB X.prog X.w) X.A.in1.in1 (call (.ref f) [.int (i:Int) t]) (fun u s''=>∃h' tk t',u=.int (g (i:Int)) t'/\s''={s' with heap:=h',toks:=tk}/\∀b o,s'.heap.get? b=some o->h'.get? b=some o) (fun _ _=>False) s')
  (h:∀(D:aa)(ks:List Int)(s':aj),H D=none->Inv X pins σ (ah H D (.lst (ks.map V.int))) s'->ks.Perm ((dU n).map fun(k:Nat)=>(k:Int))->ks.Pairwise (fun x y=>g x<=g y)->
   (∀z,ks.filter (fun x=>g x==z)=((dU n).map fun(k:Nat)=>(k:Int)).filter (fun x=>g x==z))->Q (.ref D) s'):
  az (aB X.prog X.w) X.A (call (.builtin "sorted") [.ref r] [(kX "key",.ref f)]) Q E s:=by
 obtain⟨m,F0⟩:=I.fr;have hL:X.env.locals<s.heap.objs.size:=I.lt;have hZ:aY=16777216:=rS;refine call_function_entry_kw kind_sorted plain_sorted entry_sorted (ksk_s1 _ _) ?_;unfold Builtin.«sorted»;refine ay (m:=checkCount "sorted" 1 1 _) (aU ?_);refine ay (Nn (I.ok.hd hcalm) hr hn fun vs h1 tk hvs k1 z1=>?_)
 have hvl:vs.length=n:=by
  have e:=hvs.length;rw[aE,iW]at e;omega
 refine ay (wpAny_newList ?_ (by rw[hZ]; omega));have k2:∀b o,s.heap.get? b=some o->(h1.push (seqObj "list" vs.toArray 0)).get? b=some o:=fun b o e=>bS _ (k1 b o e);have o2:(h1.push (seqObj "list" vs.toArray 0)).get? h1.objs.size=some (seqObj "list" vs.toArray 0):=dz _ rfl;have gone:X.base.get? h1.objs.size=none:=LM (dW F0.above (dW (jx hL) z1));refine ay (sg (wpAny_call_entry_kw slot_list_sort ⟨_,o2,rfl⟩ entry_list_sort ?body (ksk_l1 _ _)))
 case body=>
  show az (aB X.prog X.w) X.A.in1.in1 (Builtin.«list.sort» ⟨[.ref h1.objs.size],[(kX "key",.ref f)]⟩) _ _ _;rw[ksk_t1]
  refine ksk_sortSt (h₀:=X.base) (L:=X.env.locals) (m:=m) (news:=wc X.base s.heap X.env.locals) (kz:=((dU n).map fun(k:Nat)=>(k:Int)).map g) (F0.kept k2) (News.grown PZ k2) o2 (qC (cW hL z1)) gone
   (fun p hp=>cJ (cW (bO (GY hp).2.2) z1)) (by rw[aE,aE,iW,hvl]) (by omega) (fun i x k hx hk hp tk own F N=>?_) fun h' tk out c F N ko=>⟨_,rfl,?_⟩
  ·have hi:i<n:=by rw[<-hvl]; exact(aK.mp hx).1
   rw[cH,cH,yN hi]at hk;have hk:some (g (i:Int))=some k:=hk;cases hk;obtain⟨t,e⟩:=hvs.get i (i:Int) (by rw[cH,yN hi]; rfl);rw[hx]at e;cases e;refine aQ (turn i t _ hi fun b o hb e=>?_) fun u s''⟨h',tk',t',e1,e2,kp⟩=>?_
   ·cases q:X.base.get? b with
    |some y=>
     have e':=I.bk b y q;rw[e]at e';cases e';exact F.keep b _ q
    |none=>exact(N (b,o) (dn _ (GL hb q e))).1
   ·exact⟨h',tk',t',e2,e1,F.kept kp,News.grown N kp⟩
  ·obtain⟨ks,hks,hp,hs,hf⟩:=OK hvs ko;have hD:H h1.objs.size=none:=I.hok.fresh z1
   have kp:∀b o,b≠X.env.locals->s.heap.get? b=some o->h'.get? b=some o:=fun b o hb e=>by
    cases q:X.base.get? b with
    |some y=>
     have e':=I.bk b y q;rw[e]at e';cases e';exact F.keep b _ q
    |none=>exact(N (b,o) (.tail _ (GL hb q e))).1
   have at_:=(N (h1.objs.size,seqObj "list" out c) (.head _)).1;suffices J:Inv X pins σ (ah H h1.objs.size (.lst (ks.map V.int))) {s with heap:=h',toks:=tk}from aU ⟨_,rfl,h _ ks _ hD J hp hs hf⟩;refine I.step (g':=s.gens) (d':=s.drawn) (ch:=[]) (fun _ z=>nomatch z) (fun b o hb _ _ e _=>kp b o hb e) (fun b o hb _ _ e _=>⟨o.slots,kp b o hb e⟩) (fun b o _ e q=>?_) (fun b o _ e=>?_) (fun b xs e=>?_) (fun b o w' e=>?_) (fun b ps e=>⟨#[],?_⟩) (fun m' hm=>?_) (fun b w' e=>?_) I.bare
   ·rw[aM (cJ (cW (bO e) z1))]; exact q
   ·by_cases hb:b=X.env.locals
    ·obtain⟨oL,_,_,eL,_⟩:=F.ns;exact⟨oL,by rw[hb]; exact eL⟩
    ·exact⟨o,kp b o hb e⟩
   ·rw[aM (dh e hD)]; exact e
   ·rw[aM (dh e hD)]; exact e
   ·rw[aM (dh e hD),e]; simp
   ·rw[hm.eq_nsMap,<-F0.ns.eq_nsMap]; exact F.ns
   ·by_cases hb:b=h1.objs.size
    ·subst hb;rw[ax]at e;cases e;refine⟨?_,out.toList,c,FY hks,at_⟩;rw[aE,hp.length_eq,aE,iW]; omega
    ·rw[aM hb]at e;refine(I.hok b w' e).stay (fun y z hy q=>kp y z (fun e'=>?_) q) (fun y q=>by rw[aM (dh q hD)]; exact q) fun y xs q=>by rw[aM (dh q hD)]; exact q
     have hfree:=I.free;rcases hy with z|z
     ·rw[<-e',z,e]at hfree; cases hfree
     ·rw[<-e',z]at hfree; cases hfree
end
end L2
namespace PP
open PySem PySem.Spec L2
open PyProof.Rows hiding St
section
variable{X:Cx}{pins:List (aa×Obj)}{σ:L2.St}{H:Hp}{s:aj}
def oU(tab:aa)(lp:Pos)(q:Str)(H H2:Hp):Prop:=
 H2=H\/∃c,H c=none/\H tab=some (.tbl #[])/\H2=ah (ah H c (ra q c)) tab (.tbl #[cb lp.line,cb lp.col,.ref c])
theorem oU.keep{tab:aa}{lp:Pos}{q:Str}{H H2:Hp}(t:oU tab lp q H H2){b:aa}{o:HO}(h:H b=some o)(n:∀ps,o≠.tbl ps):H2 b=some o:=by
 rcases t with rfl|⟨c,hc,ht,rfl⟩
 ·exact h
 ·rw[aM (fun z=>by rw[z,ht]at h; cases h; exact n _ rfl),aM (dh h hc)];exact h
theorem oU.sql{K:aw}{tab:aa}{lp:Pos}{q:Str}{H H2:Hp}(t:oU tab lp q H H2){b:aa}{xs:List V}(h:ak K H b xs):ak K H2 b xs:=by
 rcases h with(h|⟨o,h⟩)|h
 ·exact .inl (.inl (t.keep h fun _ z=>by cases z))
 ·exact .inl (.inr ⟨o,t.keep h fun _ z=>by cases z⟩)
 ·exact .inr h
theorem tG{q:Str}{c:aa}{h1 h2:aC}(p:h1.CodeRec (.ref c) q)(k:∀o,h1.get? c=some o->h2.get? c=some o):h2.CodeRec (.ref c) q:=by
 obtain⟨c',o,vs,t,e,ho,r⟩:=p;cases e;exact⟨c,o,vs,t,rfl,k o ho,r⟩
theorem Inv.grown{tab c:aa}{h':aC}{ob:Obj}{ps more:Array ae}{q:Str}{tk:Nat}(I:Inv X pins σ H s)(ht:H tab=some (.tbl ps))(hx:aC.ExtBut tab s.heap h')(hge:s.heap.objs.size<=c)(hlt:c<h'.objs.size)(hrec:h'.CodeRec (.ref c) q)(htb:h'.get? tab=some (sV (ps++more))):
  Inv X pins σ (ah (ah H c (ra q c)) tab (.tbl (ps++more))) {s with heap:=h'.push ob,toks:=tk}:=by
 have hc:H c=none:=I.hok.fresh hge;have nt:∀b,H b=none->b≠tab:=fun b n z=>by rw[z,ht]at n; cases n
 have hct:c≠tab:=nt c hc;have k:∀b o,b≠tab->s.heap.get? b=some o->(h'.push ob).get? b=some o:=fun b o hb e=>bS _ (hx b o hb e);have kt:(h'.push ob).get? tab=some (sV (ps++more)):=bS _ htb;have hcn:∀b o,s.heap.get? b=some o->b≠c:=fun b o e=>cJ (cW (bO e) hge);have other:∀b u,H b=some u->b≠tab->ah (ah H c (ra q c)) tab (.tbl (ps++more)) b=some u:=fun b u e hb=>by rw[aM hb,aM (dh e hc)]; exact e
 have nottab:∀b u,H b=some u->(∀ps,u≠.tbl ps)->b≠tab:=fun b u e n z=>by rw[z,ht]at e; cases e; exact n _ rfl
 refine I.un (t':=tk) ⟨fun b o e n _ _=>k b o (nt b n) e,fun b o e n _ _=>⟨o.slots,k b o (nt b n) e⟩,fun b o e n _=>?_,fun b o e _=>?_,fun b xs e=>other b _ e (nottab b _ e fun _ z=>by cases z),fun b o u e=>other b _ e (nottab b _ e fun _ z=>by cases z),fun b qs e=>?_⟩ fun b u e=>?_
 ·rw[aM (nt b n),aM (hcn b o e)]; exact n
 ·by_cases hb:b=tab
  ·exact⟨_,by rw[hb]; exact kt⟩
  ·exact⟨o,k b o hb e⟩
 ·by_cases hb:b=tab
  ·subst hb;rw[ht]at e;cases e;exact⟨more,ax⟩
  ·exact⟨#[],by rw[other b _ e hb]; simp⟩
 ·by_cases hb:b=tab
  ·subst hb;rw[ax]at e;cases e;exact kt
  ·rw[aM hb]at e;by_cases hb2:b=c
   ·subst hb2;rw[ax]at e;cases e;have hr:(h'.push ob).CodeRec (.ref b) q:=tG hrec fun o e=>bS _ e;refine⟨hr,?_,fun h1 h2 p kk=>tG p kk⟩;obtain⟨c',o,vs,t,e,ho,_⟩:=hr;cases e;exact⟨o,ho⟩
   ·rw[aM hb2]at e;refine(I.hok b u e).stay (fun y z hy r=>k y z ?_ r) (fun y r=>other y _ r (nottab y _ r fun _ z=>by cases z)) fun y xs r=>other y _ r (nottab y _ r fun _ z=>by cases z);rcases hy with z'|z'
    ·rw[z']; exact hb
    ·exact nottab y _ z' fun _ z=>by cases z
structure Dk(X:Cx)(tab:aa)(lp:Pos)(q vn attr:Str)(params:qe)(body:aJ)(scope:cR):Prop where
 tx:yI q vn attr params body scope
 q_:q=X.env.qual++"<lambda>"
 def_:defaultsOf params X.env=([],[])
 free:∀y∈scope.names,y.2=.free->y.1=vn
 clo:∀cells:List (Str×aa),(df cells scope.names []).lookup vn=some ((cells.lookup vn).getD 0)
 slot:X.N[0]?=some vn
 kind:X.env.kindOf vn=some .cell
 code:∃cc,X.env.code=.ref cc/\∀h,X.K.In h->PySem.W.CodeHd h cc tab
 blt:∃bm o,X.mg "__builtins__"=some (.ref bm)/\bm≠qY/\o.cls=.type "module"/\o.dict=some qY/\o.data=.plain/\X.base.get? bm=some o
 room:X.A.depth<BP
def KP(K:aw)(tab:aa)(lp:Pos)(q attr:Str)(ta:TA):TE:=fun σ H Q=>ta σ H fun vs H1=>∃(la:aa)(xs:List V)(g:Int->Int),σ[0]?=some (some (.ref la))/\vs=[.int (xs.length:Int)]/\xs.length<=1000/\
 (H1 tab=some (.tbl #[])\/∃c,H1 tab=some (.tbl #[cb lp.line,cb lp.col,.ref c])/\H1 c=some (ra q c))/\ak K H1 la xs/\
 (∀(i:Nat) x,xs[i]?=some x->∃ea C dx fs ld ds,x=.ref ea/\H1 ea=some (.ins C dx fs)/\dy K C/\cN K C attr/\fs.lookup attr=some (.ref ld)/\ak K H1 ld ds/\g (i:Int)=(ds.length:Int))/\
 ∀(H2:Hp)(D:aa)(ks:List Int),oU tab lp q H1 H2->H2 D=none->ks.Perm ((dU xs.length).map fun(k:Nat)=>(k:Int))->ks.Pairwise (fun x y=>g x<=g y)->(∀z,ks.filter (fun x=>g x==z)=((dU xs.length).map fun(k:Nat)=>(k:Int)).filter (fun x=>g x==z))->Q (.ref D) (ah H2 D (.lst (ks.map V.int)))
theorem Nl{lp:Pos}{c:aa}:codeAmong lp (#[cb lp.line,cb lp.col,.ref c]:Array ae).toList=some (.ref c):=by
 show(if((lp.line:Int)==(lp.line:Int)&&(lp.col:Int)==(lp.col:Int))=true then some (cK c)else _)=_;rw[if_pos (by simp)]
theorem RX{e:aJ}{ta:TA}{params:qe}{body:aJ}{scope:cR}{lp p0 p1 p2 kp pos:Pos}{tab:aa}{q vn attr:Str}(L:Dk X tab lp q vn attr params body scope)(hcalm:X.calm=true)(hg:Gl X "sorted")(hm:X.mg "sorted"=none)(hgr:Gl X "range")(hmr:X.mg "range"=none)(hml:X.mg "len"=none)
  (ha:PA X [e] ta)(hs:bN [e] X.env=[(false,bw e X.env)]:=by rfl):
  PE X (.Call (.Name "sorted" p0) [.Call (.Name "range" p1) [e] [] p2] [⟨some (kX "key"),.Lambda params body scope lp,kp⟩] pos) (KP X.K tab lp q attr ta):=by
 intro pins s σ H Q I h;refine nY (rq I hg hm (by decide +kernel:qX "sorted"=some (.builtin "sorted")) ?_);refine callWith_kw ?_;refine yt (Call_ (rq I hgr hmr boot_range (zg (aQ (ha p2 pins s σ H _ I h) fun us s1⟨vs,H1,I1,r1,q1⟩=>?_) hs rfl)));obtain⟨la,xs,g,hσ,rfl,hxl,htab,hla,hat,hQ⟩:=q1;cases r1 with
 |cons r rr=>
  cases rr;obtain⟨t,rfl⟩:=r;refine call_range_1 (yu ?_);refine kws_cons ?_;have I2:=I1.kept (t':=s1.toks+1+1) (h':=s1.heap.push {cls:=.type "range",data:=.fields #[.int 0 s1.toks,.int (xs.length:Int) t,.int 1 (s1.toks+1)]}) fun b o e=>bS _ e;have hz:(s1.heap.push {cls:=.type "range",data:=.fields #[.int 0 s1.toks,.int (xs.length:Int) t,.int 1 (s1.toks+1)]}).get? s1.heap.objs.size=some {cls:=.type "range",data:=.fields #[.int 0 s1.toks,.int (xs.length:Int) t,.int 1 (s1.toks+1)]}:=dz _ rfl
  have fin:∀(H2:Hp)(s3:aj)(f c':aa)(ctv pm:ae),oU tab lp q H1 H2->Inv X pins σ H2 s3->IsRange s3.heap s1.heap.objs.size 0 (xs.length:Int) 1 s1.toks t (s1.toks+1)->s3.heap.get? f=some (DN "<lambda>" q params body scope (df X.env.cells scope.names []) pm c' ctv)->f≠X.env.locals->s3.heap.CodeRec (.ref c') q->H2 c'≠none->
    az (aB X.prog X.w) X.A (call (.builtin "sorted") [.ref s1.heap.objs.size] [(kX "key",.ref f)]) (EP X pins σ Q) X.xe s3:=by
   intro H2 s3 f c' ctv pm ts I3 hr hf hfL hcr hc2;have hcL:c'≠X.env.locals:=fun z=>hc2 (by rw[z]; exact I3.free);obtain⟨m,hn,hl⟩:=I3.loc;obtain⟨u,ru,lk⟩:=hl 0 vn (.ref la) L.slot hσ (.inr (.inl L.kind));obtain rfl:u=cK la:=ru
   have hcell:∃cl,X.env.cells.lookup vn=some cl/\s3.heap.IsCell cl (some (.ref la)):=by
    rcases lk with⟨k,_⟩|⟨_,c,e,z⟩
    ·rw[L.kind]at k; cases k
    ·exact⟨c,e,z⟩
   obtain⟨cl,hcl,hcel⟩:=hcell;refine UO I3 hcalm hr hxl (g:=g) (fun i t' s' hi kp=>?_) fun D ks s' hD J hp hs hf=>⟨.ref D,_,J,rfl,hQ H2 D ks ts hD hp hs hf⟩
   have hbL:∀b o,X.base.get? b=some o->b≠X.env.locals:=fun b o e z=>by
    have:=bO e;rw[z]at this;exact absurd (cW this (dW I.ok.bsz I.ok.above)) (ic _)
   obtain⟨x,hx⟩:∃x,xs[i]?=some x:=⟨_,bL hi⟩;obtain⟨ea,C,dx,fs,ld,ds,rfl,h1,h2,h3,h4,h5,h6⟩:=hat i x hx;rw[h6]
   have ok':cx X.prog X.w H2 s'.heap:=fun b w' e=>by
    refine(I3.hok b w' e).stay (fun y z hy r=>kp y z (fun e'=>?_) r) (fun _ r=>r) fun _ _ r=>r;have hfree:=I3.free;rcases hy with z|z
    ·rw[<-e',z,e]at hfree; cases hfree
    ·rw[<-e',z]at hfree; cases hfree
   refine ON I.mod (fun b o e=>kp b o (hbL b o e) (I3.bk b o e)) ok' L.room L.tx (kp _ _ hfL hf) (tG hcr fun o e=>kp _ _ hcL e) (by rw[L.clo,hcl]) ?_ (ts.sql hla) hx (ts.keep h1 fun _ z=>by cases z) h2 h3 h4 (ts.sql h5) hml;obtain⟨o,ho,hd⟩:=hcel;exact⟨o,kp _ _ (I3.cne vn cl hcl) ho,hd⟩
  obtain⟨cc,hcc,hhd⟩:=L.code;obtain⟨bm,ob,hb1,hb2,hb3,hb4,hb5,hb6⟩:=L.blt;have hgs:aC.Ns (s1.heap.push {cls:=.type "range",data:=.fields #[.int 0 s1.toks,.int (xs.length:Int) t,.int 1 (s1.toks+1)]}) iL X.mg:=I.mod.glob.keeps I2.bk
  have hclo:closureFor scope X.env=pure (df X.env.cells scope.names []):=zU fun y hy k=>by
   rw[L.free y hy k];exact I.ok.has vn (.inl L.kind)
  have hbuilt:∀ps,H1 tab=some (.tbl ps)->aC.BuiltinsAt (s1.heap.push {cls:=.type "range",data:=.fields #[.int 0 s1.toks,.int (xs.length:Int) t,.int 1 (s1.toks+1)]}) X.mg tab:=fun ps hp=>by
   have hb7:=I2.bk bm ob hb6;refine⟨bm,ob,hb1,hb2,fun z=>?_,fun z=>?_,hb7,hb3,hb4,hb5⟩
   ·obtain⟨o,es,ep,e,d,_⟩:=hgs;rw[z]at hb7;have:=hb7.symm.trans e;cases this;rw[hb5]at d; cases d
   ·have e:_=some (sV ps):=I2.hok tab _ hp;rw[z]at hb7;have:=hb7.symm.trans e;cases this;cases hb3
  have hgt:∀ps,H1 tab=some (.tbl ps)->iL≠tab:=fun ps hp z=>by
   have e:_=some (sV ps):=I2.hok tab _ hp;obtain⟨o,es,ep,e',d,_⟩:=hgs;rw[z]at e';have:=e'.symm.trans e;cases this;cases d
  refine PySem.W.kla_eval L.def_ ?_;rw[<-L.q_];have szr:(s1.heap.push {cls:=.type "range",data:=.fields #[.int 0 s1.toks,.int (xs.length:Int) t,.int 1 (s1.toks+1)]}).objs.size=s1.heap.objs.size+1:=fL ..;rcases htab with ht|⟨c,ht,hcO⟩
  ·refine PySem.W.kla_makeFunction (mg:=X.mg) hclo I.ok.glob hgs hcc (hhd _ I2.kIn) (I2.hok tab _ ht) kY rfl (hgt _ ht) (hbuilt _ ht) fun c' ctv h' tk hx hge hlt hrec htb=>?_;refine kws_nil ?_;have I3:=Inv.grown (ob:=DN "<lambda>" q params body scope (df X.env.cells scope.names []) ((X.mg "__name__").getD .none) c' ctv) (tk:=tk) I2 ht hx hge hlt hrec htb;have hcn:H1 c'=none:=I2.hok.fresh hge
   have nt:tab≠s1.heap.objs.size:=fun z=>by
    have:=I1.hok.lt ht;rw[z]at this;exact absurd this (ic _)
   refine fin _ _ h'.objs.size c' ctv _ (.inr ⟨c',hcn,ht,by simp⟩) I3 (bS _ (hx _ _ (bq nt) hz)) (dz _ rfl) ?_ (tG hrec fun o e=>bS _ e) ?_
   ·have:=I2.lt;exact qC (qA (cW this hge) hlt)
   ·rw[aM (dh ht hcn).symm,ax]; simp
  ·obtain⟨hcr,_⟩:=I2.hok c _ hcO;refine PySem.W.kla_makeFunctionHit (mg:=X.mg) hclo I.ok.glob hgs hcc (hhd _ I2.kIn) (I2.hok tab _ ht) kY Nl (hbuilt _ ht) fun ctv h' tk hk hsz=>?_;refine kws_nil ?_;have I3:=I2.kept (t':=tk) (h':=h'.push {cls:=.type "function",data:=.func (PySem.W.kla_fn "<lambda>" q params body scope (df X.env.cells scope.names []) ((X.mg "__name__").getD .none) (.ref c) ctv)}) fun b o e=>bS _ (hk b o e);refine fin _ _ h'.objs.size c ctv _ (.inl rfl) I3 (bS _ (hk _ _ hz)) (dz _ rfl) ?_ (tG hcr fun o e=>bS _ (hk _ _ e)) (by rw[hcO]; simp);have:=I2.lt;exact qC (cW this hsz)
end
end PP
namespace PP
open PySem PySem.Spec L2
open PyProof.Rows hiding St
open Pg PM
theorem HM{g:Int->Int}:∀{ks:List Int},ks.Pairwise (fun x y=>g x<=g y)->(∀z,(ks.filter (fun x=>g x==z)).Pairwise (·<·))->ks.Pairwise (fun x y=>g x<g y\/(g x=g y/\x<y))
 | [],_,_=>.nil
 |a::l,h,hf=>by
  rw[lV]at h;have ha:((a::l).filter (fun x=>g x==g a)).Pairwise (·<·):=hf (g a);rw[List.filter_cons_of_pos (by simp),lV]at ha;refine lV.mpr ⟨fun y hy=>?_,HM h.2 fun z=>(hf z).sublist ((Mb a l).filter _)⟩;have h1:=h.1 y hy;by_cases e:g y=g a
  ·exact .inr ⟨e.symm,ha.1 y (qx.mpr ⟨hy,by simp[e]⟩)⟩
  ·exact .inl (by omega)
theorem Pk{ks:List Int}{n:Nat}{d:Nat->Nat}(hp:ks.Perm ((dU n).map fun(k:Nat)=>(k:Int)))(hs:ks.Pairwise (fun x y=>((d x.toNat:Nat):Int)<=((d y.toNat:Nat):Int)))
  (hf:∀z,ks.filter (fun x=>((d x.toNat:Nat):Int)==z)=((dU n).map fun(k:Nat)=>(k:Int)).filter (fun x=>((d x.toNat:Nat):Int)==z)):
  ∃is:List Nat,ks=is.map (fun(k:Nat)=>(k:Int))/\is.Perm (dU n)/\is.Pairwise fun i j=>d i<d j\/(d i=d j/\i<j):=by
 have e:ks=(ks.map fM).map fun(k:Nat)=>(k:Int):=by
  rw[gB]
  have:∀x∈ks,((fun(k:Nat)=>(k:Int))∘fM) x=x:=fun x hx=>by
   obtain⟨k,_,rfl⟩:=bP.mp (hp.mem_iff.mp hx);simp
  rw[vp this,List.map_id']
 have hr:((dU n).map fun(k:Nat)=>(k:Int)).Pairwise (·<·):=by
  rw[kQ];exact vt.imp fun h=>by omega
 have pw:=HM (g:=fun x=>((d x.toNat:Nat):Int)) hs fun z=>by rw[hf z]; exact hr.sublist List.filter_sublist
 refine⟨ks.map fM,e,?_,?_⟩
 ·have:=hp.map fM;rw[gB,show(fM∘fun(k:Nat)=>(k:Int))=id from by funext k; simp,List.map_id]at this;exact this
 ·rw[e,kQ]at pw;refine pw.imp fun{i j} h=>?_;simp only[fm]at h;omega
theorem GW{A:Cn}{q:Str}{c:aa}:fP A (ra q c):=fun _ _ _ _ z=>by cases z
theorem Step.tabW{A:Cn}{G H G1 H1:Hp}(wd:Wd A G H)(s:Step A G H G1 H1){ps:Array ae}(h:sX A G1 ps):Step A G H G1 (ah H1 A.tab (.tbl ps)):=by
 obtain⟨t1,ps0,t2,t3⟩:=s.wd.tab;refine⟨⟨fun b o e=>?_,fun m dx lc opt dd e=>?_,s.wd.inj,t1,ps,ax,h⟩,s.grow,fun b o e q=>?_,s.newc⟩
 ·rw[aM (fun z=>by rw[z,t1]at e; cases e)]; exact s.wd.sub b o e
 ·obtain⟨h1,kvs,cs,h2,h3,h4⟩:=s.wd.cach m dx lc opt dd e;exact⟨h1,kvs,cs,by rw[aM (fun z=>by rw[z,t2]at h2; cases h2)]; exact h2,h3,h4⟩
 ·rw[aM (fun z=>q (.inl z))]; exact s.keep b o e q
theorem Step.tab{A:Cn}{G H G1 H1 H2:Hp}(wd:Wd A G H)(s:Step A G H G1 H1)(t:oU A.tab A.lp A.lq H1 H2):∃G2,Step A G H G2 H2/\bh G1 G2/\∀q o,ar A H G1 H1 q o->ar A H G2 H2 q o:=by
 rcases t with rfl|⟨c,hc,ht,rfl⟩
 ·exact⟨G1,s,fun _ _ e=>e,fun _ _ x=>x⟩
 ·have s2:=s.newI wd hc (GW (A:=A) (q:=A.lq) (c:=c));have g1:=s.wd.noG hc;refine⟨_,s2.tabW wd (.inr ⟨c,rfl,ax⟩),bu g1,fun q o x=>?_⟩;exact(x.newI s.wd hc GW).other fun z=>x.nc (.inl z)
structure yH(K:aw)(mg:Str->Option ae)(base:aC)(A:Ad):Prop where
 lp:A.lp=⟨54,48,54,81⟩
 lq:A.lq=("lines_that_count":Str)++".<locals>."++"<lambda>"
 code:∀f o fd,mg "lines_that_count"=some (.ref f)->K.lookup f=some o->o.data=.func fd->∃cc,fd.code=.ref cc/\∀h,K.In h->PySem.W.CodeHd h cc A.tab
 blt:∃bm o,mg "__builtins__"=some (.ref bm)/\bm≠qY/\o.cls=.type "module"/\o.dict=some qY/\o.data=.plain/\base.get? bm=some o
section
variable{P:aO}{w:aN}{K:aw}{mg:Str->Option ae}{base:aC}{A:Ad}
theorem Kn.ofC{x:Str}{st:aH}{N ps:List Str}{k:Nat}{sp:Sp}(D:Df K mg x st ps)(S:aW N ps (aI st))(len:∀vs H Q E,sp vs H Q E->vs.length=ps.length)
  (hbody:∀(f:aa)(fd:kL)(o:Obj),mg x=some (.ref f)->K.lookup f=some o->o.data=.func fd->∀(A:bJ)(outer:List Env)(s:aj)(H:Hp)(vs:List V)(Q:VK)(E:XK),cy k (A.deeper (iJ x (aI st) s.heap.objs.size f fd.code))->sp vs H Q E->
   ∃t,fo (iH aX P w K mg base N x (aI st) f fd.code A outer s H E).nox (gE st) t/\t {nx:=fun _ H'=>Q .non H',rt:=Q} (start N vs) H):Kn P w K mg base aX x (k+1) ps sp:=by
 obtain⟨f,fd,F,hm,hb⟩:=D;obtain⟨oc,od,kV,doc,pm,an,cdv,ct,osl,rfl,lk,hcd⟩:=F.ex;refine⟨f,_,Af lk hcd S len fun A outer s H vs Q E hr hsp=>?_,hm,F.kp,hb⟩;obtain⟨t,h,q⟩:=hbody f _ _ hm lk rfl A outer s H vs Q E hr hsp;exact⟨t,h.nox,q⟩
def Gh:qe:={posonlyargs:=[],args:=[{arg:="n",annotation:=none,pos:=⟨54,55,54,56⟩}],vararg:=none,kwonlyargs:=[],kw_defaults:=[],kwarg:=none,defaults:=[]}
def Gg:aJ:=.Call (.Name "len" ⟨54,58,54,61⟩) [.Attribute (.Subscript (.Name "lists" ⟨54,62,54,67⟩) (.Name "n" ⟨54,68,54,69⟩) ⟨54,62,54,70⟩) "directory" ⟨54,62,54,80⟩] [] ⟨54,58,54,81⟩
def Gi:cR:={kind:=.function,names:=[(kX "n",.local),(kX "lists",.free),(kX "len",.globalImplicit)],isGenerator:=false,isCoroutine:=false,more:=[]}
theorem OO(q:Str):yI q "lists" "directory" Gh Gg Gi where
 txt:=⟨_,_,_,_,_,_,rfl⟩
 kind:=rfl
 co:=rfl
 ge:=rfl
 vn_:=rfl
 n_:=rfl
 len_:=rfl
 cell:=by decide
 bind:=fun _ _ _ _ _=>rfl
 hd:=by decide
 hcd:=by decide
theorem AZ(T:ba K mg A)(LT:yH K mg base A):Kn P w K mg base aX "lines_that_count" 8 ["lists","is_directory","path"] (Kk K A):=by
 have sc:aW ["lists","is_directory","path","chosen","number"] ["lists","is_directory","path"] (aI BV):=bo;refine Kn.ofC T.YC sc (fun vs H Q E h=>?_) (fun f fd o hm0 hk0 hd0 A0 outer s0 H vs Q E hr h=>?_)
 ·obtain⟨_,_,_,_,_,_,_,rfl,_⟩:=h; rfl
 obtain⟨G,la,as,ls,isDir,a,p,rfl,wd,hla,hLs,hll,hgp,hs,hsl,q⟩:=h;have hu:=mr hr
 have LI:Dk (iH aX P w K mg base ["lists","is_directory","path","chosen","number"] "lines_that_count" (aI BV) f fd.code A0 outer s0 H E).nox A.tab A.lp A.lq "lists" "directory" Gh Gg Gi:={
  tx:=OO _
  q_:=LT.lq
  def_:=rfl
  free:=by decide
  clo:=fun _=>rfl
  slot:=rfl
  kind:=rfl
  code:=LT.code f o fd hm0 hk0 hd0
  blt:=LT.blt
  room:=hr.depth}
 have lp:=LT.lp
 refine⟨_,(aq (pS 3 sc.nd HH)
   (aq (fX eZ rfl (dt (RX (by rw[lp]at LI; exact LI) rfl rfl T.XS rfl T.XR T.Xe (af (cL T.Xe (pv 0)) ao))) (gN 4 sc.nd)
    (au (bz (dR (cF (Rb T) hr (af (pv 2) (af (bK (bM eT (pv 0) (pv 4) (fun _ _=>rfl)) rfl) ao))))
     (au (eC (cF (QP T) hr (af (pv 3) (af (pv 4) (af (bM eT (pv 0) (pv 4) (fun _ _=>rfl)) (af (pv 1) (af (pv 2) ao))))))))
     bE)))
   (au (aL (pv 3))))),?_⟩
 cb_eq
 intro dc hdc;have s1:=(Step.refl wd).new wd hdc (o:=.dK []);have o1:=ar.make wd (Step.refl wd) hdc (o:=.dK []);have hal:as.length=ls.length:=bR hLs;unfold KP
 cb_eq
 refine cw (ak.of (s1.keepL wd hla)) ?_;refine⟨la,as.map V.ref,fun z=>((gF ls z.toNat:Nat):Int),rfl,rfl,by rw[aE]; omega,?_,ak.of (s1.keepL wd hla),fun i x hx=>?_,fun H2 D ks ts hD hp hso hf=>?_⟩
 ·obtain⟨t1,ps,t2,t3⟩:=s1.wd.tab;rcases t3 with rfl|⟨c,rfl,hc⟩
  ·exact .inl t2
  ·rw[lp]at t2;exact .inr ⟨c,t2,s1.wd.sub _ _ hc⟩
 ·obtain⟨pa,hpa,rfl⟩:=eI hx;obtain⟨l,hl,dx,ld,ll,lv,hP⟩:=dH hLs hpa;refine⟨pa,A.plist,dx,_,ld,_,rfl,s1.wd.sub _ _ hP.at_,T.Xm,T.XC,BD,ak.of (s1.wd.sub _ _ hP.dir),?_⟩;show((gF ls ((i:Int)).toNat:Nat):Int)=_;rw[fm,cU];unfold gF;rw[hl]
 rw[aE,hal]at hp hf;rw[<-lp]at ts;obtain⟨is,rfl,hperm,hpw⟩:=Pk (d:=gF ls) hp hso hf;clear hp hso hf;obtain⟨G2,s2,sm,own⟩:=s1.tab wd ts;have o2:=own _ _ o1;have s3:=s2.newI wd hD (aT (xs:=(is.map fun(k:Nat)=>(k:Int)).map V.int));have o3:=o2.newI s2.wd hD (aT (A:=A.toCn) (xs:=(is.map fun(k:Nat)=>(k:Int)).map V.int));refine jV (ak.of ax) (fun j σ H'=>∃(G4:Hp)(kvs:List (aP×V))(g:js)(x4:Option V),σ=[some (.ref la),some (.bl isDir),some (.ref a),some (.ref dc),x4]/\Step A.toCn G H G4 H'/\ar A.toCn H G4 H' dc (.dK kvs)/\G4 D=some (.lst ((is.map fun(k:Nat)=>(k:Int)).map V.int))/\iw G4 kvs g/\kH ls p isDir (fun i n=>i∈is.take j/\∃l r,kh ls i n l r) g) ?_ ?_ ?_ ?_
 ·exact⟨_,[],fun _=>none,none,rfl,s3,o3,ax,⟨by simp,fun _ z=>(nomatch z),fun E=>.inl ⟨rfl,rfl⟩⟩,pf MN (fun _ _ h=>h.elim) fun i n k _ _ h _=>by simp at h⟩
 ·rintro j σ H' _ ⟨G4,kvs,g,x4,rfl,s4,o4,hD4,_⟩;exact ak.of (s4.wd.sub _ _ hD4)
 ·rintro j x σ H' hx ⟨G4,kvs,g,x4,rfl,s4,o4,hD4,hd4,hb4⟩;rw[gB]at hx;obtain⟨i,hji,rfl⟩:=eI hx;have hil:i<ls.length:=lU.mp (hperm.mem_iff.mp (dq hji));obtain⟨l,hl⟩:∃l,ls[i]?=some l:=⟨_,bL hil⟩;obtain⟨pa,hpa,dx,ld,ll,lv,hP⟩:=jK hLs hl;have hxa:(as.map V.ref)[i]?=some (.ref pa):=by rw[cH,hpa]; rfl
  have hP4:=hP.mono (s4.same wd);have nW:is.take (j+1)=is.take j++[i]:=by rw[List.take_add_one,hji]; rfl
  cb_eq
  refine fw (k:=i) (ak.of (s4.keepL wd hla)) hxa ?_;refine bx (s4.wd.sub _ _ hP4.at_) T.Xm T.XC BD ?_;refine⟨G4,a,ld,aD p,aD l.dir,rfl,s4.wd,hs.mono (s4.same wd),hP4.dir,hP4.dlen,fun G5 H5 v s5 hv=>?_⟩;subst hv;have s45:=s4.trans wd s5;have o5:=o4.call s5;have hD5:=s5.same s4.wd _ _ hD4
  cb_eq
  by_cases c:aD l.dir=[]\/(aD p).take ((aD l.dir).length+1)=aD l.dir++[47]
  ·rw[dT c];simp only[if_true];obtain⟨q',hq',e⟩:=(Eu hP.ok hgp).mp c;obtain⟨H0,e0,h0,s0⟩:=o5.open_ wd s45;refine fw (k:=i) (ak.of (s45.keepL wd hla)) hxa ?_;refine⟨G5,H0,dc,pa,a,kvs,ls,i,l,q',isDir,_,g,dx,ld,ll,lv,rfl,e0,h0,s0.wd,hP4.mono (s5.same s4.wd),hl,hq',by rw[<-e]; exact hgp,by rw[<-e]; exact hs.mono (s45.same wd),by rw[<-e]; exact hsl,hd4.mono (s5.same s4.wd),by rw[<-e]; exact hb4,?_,fun G6 H6 kvs' g' s6 o6 hd6 hb6=>?_⟩
   ·rintro n i' n' ⟨hi',_⟩;obtain⟨j',hj'⟩:=LW.mp hi';rw[List.getElem?_take]at hj';split at hj'
    ·rename_i hlt
     obtain⟨b1,b2⟩:=aK.mp hj';obtain⟨b3,b4⟩:=aK.mp hji;have:=yU.mp hpw j' j b1 b3 hlt;rw[b2,b4]at this;unfold fN;simp only;omega
    ·cases hj'
   ·rw[<-e]at hb6;refine⟨G6,kvs',g',_,rfl,s0.trans wd s6,⟨o5.new,o6.g,o6.nc,o6.at_⟩,s6.same s0.wd _ _ hD5,hd6,pf hb6 ?_ ?_⟩
    ·rintro i' n' (⟨h1,h2⟩|⟨rfl,r,hr⟩)
     ·exact⟨by rw[nW]; exact dn _ h1,h2⟩
     ·exact⟨by rw[nW]; exact dC _ (cD.mpr rfl),l,r,hr⟩
    ·rintro i' n' k _ _ ⟨h1,l',r',h2⟩ _;rw[nW]at h1;rcases cj.mp h1 with h1|h1
     ·exact .inl ⟨h1,l',r',h2⟩
     ·obtain rfl:=cD.mp h1
      have:l'=l:=by
       have:=h2.1;rw[hl]at this;exact(eE this).symm
      subst this;exact .inr ⟨rfl,r',h2⟩
  ·rw[dF c];simp only[aV,if_false];refine⟨G5,kvs,g,_,rfl,s45,o5,hD5,hd4.mono (s5.same s4.wd),pf hb4 ?_ ?_⟩
   ·rintro i' n' ⟨h1,h2⟩;exact⟨by rw[nW]; exact dn _ h1,h2⟩
   ·rintro i' n' k h0 hk ⟨h1,h2⟩ ⟨l',r',hra,hf⟩;rw[nW]at h1;rcases cj.mp h1 with h1|h1
    ·exact⟨h1,h2⟩
    ·obtain rfl:=cD.mp h1
     have:l'=l:=by
      have:=hra.1;rw[hl]at this;exact(eE this).symm
     subst this;obtain⟨z,ez,hz,_⟩:=uz.mp hf;refine absurd ((Eu hP.ok hgp).mpr ⟨z++p.drop k,fun y=>hz (Dm.mp y).1,?_⟩) c;rw[<-dk,<-ez,oE]
 ·rintro σ H' ⟨G4,kvs,g,x4,rfl,s4,o4,hD4,hd4,hb4⟩
  cb_eq
  refine q G4 H' dc kvs g s4 o4 hd4 fun k h0 hk=>ML hgp hb4 ?_ h0 hk;rintro i n ⟨l,r,h⟩;refine⟨?_,l,r,h⟩;rw[aE,aE,cq];exact hperm.mem_iff.mpr (lU.mpr (aK.mp h.1).1)
def pH(sa:aa)(e:Nat)(la:aa):List (Str×V):=[("starts",.ref sa),("end",.int e),("steps",.ref la)]
def iF(G:Hp)(p:aa)(l:List (Nat×Nat)):Prop:=∃ts:List aa,G p=some (.lst (ts.map V.ref))/\bH (fun t x=>G t=some (.tup [.int (x.1:Nat),.int (x.2:Nat)])) ts l
def oP(G:Hp)(p:aa)(st:List (List (Nat×Nat))):Prop:=∃as:List aa,G p=some (.lst (as.map V.ref))/\bH (iF G) as st
def iB(A:Ad)(G:Hp)(p:aa)(M:aZ):Prop:=∃dx sa la,G p=some (.ins A.machine dx (pH sa M.fin la))/\G sa=some (.lst (iv M.starts))/\oP G la M.steps
theorem iF.mono{G G':Hp}(e:bh G G'){p:aa}{l:List (Nat×Nat)}(h:iF G p l):iF G' p l:=by
 obtain⟨ts,h1,h2⟩:=h;exact⟨ts,e _ _ h1,cO (fun _ _ z=>e _ _ z) h2⟩
theorem oP.mono{G G':Hp}(e:bh G G'){p:aa}{l:List (List (Nat×Nat))}(h:oP G p l):oP G' p l:=by
 obtain⟨ts,h1,h2⟩:=h;exact⟨ts,e _ _ h1,cO (fun _ _ z=>z.mono e) h2⟩
theorem iB.mono{G G':Hp}(e:bh G G'){p:aa}{M:aZ}(h:iB A G p M):iB A G' p M:=by
 obtain⟨dx,sa,la,h1,h2,h3⟩:=h;exact⟨dx,sa,la,e _ _ h1,e _ _ h2,h3.mono e⟩
theorem wY{sa la:aa}{e:Nat}:(pH sa e la).lookup ("starts":Str)=some (.ref sa):=by rfl
theorem wX{sa la:aa}{e:Nat}:(pH sa e la).lookup ("end":Str)=some (.int e):=by rfl
theorem tV{sa la:aa}{e:Nat}:(pH sa e la).lookup ("steps":Str)=some (.ref la):=by rfl
theorem Qp{A:Cn}{C dx sa la:aa}{e:Nat}:fP A (.ins C dx (pH sa e la)):=uc (by show some ("starts":Str)≠some "cells"; decide +kernel)
def Ke:Ad->Sp:=fun A vs H Q _=>∃(x dx sa la:aa)(e:Nat),vs=[.ref x,.ref sa,.int e,.ref la]/\H x=some (.ins A.machine dx [])/\Q .non (ah H x (.ins A.machine dx (pH sa e la)))
theorem AV(T:ba K mg A):fA P w K mg base aX A.machine "Machine" 1 ["self","starts","end","steps"] (Ke A):=by
 have sc:aW ["self","starts","end","steps"] ["self","starts","end","steps"] (aI Ik):=bo;refine fA.of T.Zg sc (fun vs H Q E h=>?_) (fun f cdv A0 outer s H vs Q E hr h=>?_)
 ·obtain⟨_,_,_,_,_,rfl,_⟩:=h; rfl
 obtain⟨x,dx,sa,la,e,rfl,h1,q⟩:=h
 refine⟨_,(aq (fe (pv 0) (pv 1) rfl)
   (aq (fe (pv 0) (pv 2) rfl)
   (au (fe (pv 0) (pv 3) rfl)))),?_⟩
 cb_eq
 refine fi h1 T.Xh T.Xx (by decide) ?_
 cb_eq
 refine fi ax T.Xh T.Xw pG ?_
 cb_eq
 refine fi ax T.Xh T.Xu tU ?_;rw[upd_upd,upd_upd];exact q
theorem Aa{G H G1 H1:Hp}{Q:VK}{sa la:aa}{M:aZ}{e:Int}(wd:Wd A.toCn G H)(s:Step A.toCn G H G1 H1)(he:e=(M.fin:Int))(h1:G1 sa=some (.lst (iv M.starts)))(h2:oP G1 la M.steps)(q:∀G' H' p,Step A.toCn G H G' H'->iB A G' p M->Q (.ref p) H'):
  ∀x dx,H1 x=none->H1 dx=none->dx≠x->Ke A [.ref x,.ref sa,.int e,.ref la] (ah (ah H1 dx (.own x)) x (.ins A.machine dx [])) (fun v H2=>v=.non/\Q (.ref x) H2) E0:=by
 intro x dx hx hd hne;subst he;refine⟨x,dx,sa,la,M.fin,rfl,ax,rfl,?_⟩;rw[upd_upd];have n:=bu (o:=.ins A.machine dx (pH sa M.fin la)) (s.wd.noG hx);exact q _ _ _ (s.mkI wd hx hd hne Qp) ⟨dx,sa,la,ax,n _ _ h1,h2.mono n⟩
def Vy(A:Ad):Sp:=fun vs H Q _=>∃G,vs=[]/\Wd A.toCn G H/\∀G' H' p,Step A.toCn G H G' H'->iB A G' p jk->Q (.ref p) H'
theorem UB:(1:Int)*2^(fM 46)=((eh:Nat):Int):=by decide
theorem Rf(T:ba K mg A):Kn P w K mg base aX "path_machine" 4 [] (Vy A):=by
 have sc:aW ["dot","no_dot","steps"] [] (aI Jo):=bo;refine Kn.of T.YK sc (fun vs H Q E h=>?_) (fun f cdv A0 outer s0 H vs Q E hr h=>?_)
 ·obtain⟨_,rfl,_⟩:=h; rfl
 obtain⟨G,rfl,wd,q⟩:=h
 refine⟨_,(aq (pS 0 sc.nd (bb ji aA (bB T.XG rfl)))
   (aq (pS 1 sc.nd (bb Bj (hJ (pM T) (hr.mono (by decide)) bA rfl) (pv 0)))
   (aq (pS 2 sc.nd (br (af (br (af (dQ (af (pv 0) (af (bB T.ZT rfl) ao))) (af (dQ (af (pv 1) (af (bB T.XB rfl) ao))) ao))) (af (br (af (dQ (af (pv 0) (af (bB T.ZX rfl) ao))) (af (dQ (af (pv 1) (af (bB T.XB rfl) ao))) ao))) (af (br (af (dQ (af (hJ (pM T) (hr.mono (by decide)) bA rfl) (af (bB T.XB rfl) ao))) ao)) (af (br (af (dQ (af (hJ (pM T) (hr.mono (by decide)) bA rfl) (af (bB T.XB rfl) ao))) (af (dQ (af (bb ji aA (bB T.Xk rfl)) (af (bB T.Yc rfl) ao))) ao))) ao))))))
   (au (aL (jM (AV T) (hr.mono (by decide)) bA rfl (af (br (af (bB T.Yc rfl) ao)) (af (bB T.XB rfl) (af (pv 2) ao))))))))),?_⟩
 cb_eq
 refine⟨jf (m:=1) (k:=46) (n:=1) (by decide) (by decide),rfl,?_⟩;rw[UB]
 cb_eq
 rw[zK];refine⟨by decide,fun t1 h1=>⟨by decide,fun t2 h2=>⟨by decide,fun l1 k1=>?_⟩⟩⟩;refine⟨by decide,fun t3 h3=>⟨by decide,fun t4 h4=>⟨by decide,fun l2 k2=>?_⟩⟩⟩;refine⟨rfl,by decide,fun t5 h5=>⟨by decide,fun l3 k3=>?_⟩⟩;refine⟨rfl,by decide,fun t6 h6=>?_⟩;refine⟨jf (m:=1) (k:=47) (n:=1) (by decide) (by decide),?_⟩;rw[xJ];refine⟨by decide,fun t7 h7=>⟨by decide,fun l4 k4=>⟨by decide,fun la k5=>?_⟩⟩⟩;have e1:=(Step.refl wd).newI wd h1 (o:=.tup [.int (eh:Nat),.int 1]) cZ;have e2:=e1.newI wd h2 (o:=.tup [.int (dO:Nat),.int 3]) cZ;have e3:=e2.newI wd k1 (o:=.lst [.ref t1,.ref t2]) aT;have e4:=e3.newI wd h3 (o:=.tup [.int (eh:Nat),.int 2]) cZ;have e5:=e4.newI wd h4 (o:=.tup [.int (dO:Nat),.int 3]) cZ;have e6:=e5.newI wd k2 (o:=.lst [.ref t3,.ref t4]) aT;have e7:=e6.newI wd h5 (o:=.tup [.int (aR:Nat),.int 3]) cZ;have e8:=e7.newI wd k3 (o:=.lst [.ref t5]) aT;have e9:=e8.newI wd h6 (o:=.tup [.int (aR:Nat),.int 3]) cZ;have e10:=e9.newI wd h7 (o:=.tup [.int (bY:Nat),.int 0]) cZ;have e11:=e10.newI wd k4 (o:=.lst [.ref t6,.ref t7]) aT;have e12:=e11.newI wd k5 (o:=.lst [.ref l1,.ref l2,.ref l3,.ref l4]) aT;have n12:=bu (o:=.lst [.ref l1,.ref l2,.ref l3,.ref l4]) (e11.wd.noG k5);have n11:=(bu (o:=.lst [.ref t6,.ref t7]) (e10.wd.noG k4)).trans n12;have n10:=(bu (o:=.tup [.int (bY:Nat),.int 0]) (e9.wd.noG h7)).trans n11;have n9:=(bu (o:=.tup [.int (aR:Nat),.int 3]) (e8.wd.noG h6)).trans n10;have n8:=(bu (o:=.lst [.ref t5]) (e7.wd.noG k3)).trans n9;have n7:=(bu (o:=.tup [.int (aR:Nat),.int 3]) (e6.wd.noG h5)).trans n8;have n6:=(bu (o:=.lst [.ref t3,.ref t4]) (e5.wd.noG k2)).trans n7;have n5:=(bu (o:=.tup [.int (dO:Nat),.int 3]) (e4.wd.noG h4)).trans n6;have n4:=(bu (o:=.tup [.int (eh:Nat),.int 2]) (e3.wd.noG h3)).trans n5;have n3:=(bu (o:=.lst [.ref t1,.ref t2]) (e2.wd.noG k1)).trans n4;have n2:=(bu (o:=.tup [.int (dO:Nat),.int 3]) (e1.wd.noG h2)).trans n3
 have st:oP (ah (ah (ah (ah (ah (ah (ah (ah (ah (ah (ah (ah G t1 (.tup [.int (eh:Nat),.int 1])) t2 (.tup [.int (dO:Nat),.int 3])) l1 (.lst [.ref t1,.ref t2])) t3 (.tup [.int (eh:Nat),.int 2])) t4 (.tup [.int (dO:Nat),.int 3])) l2 (.lst [.ref t3,.ref t4])) t5 (.tup [.int (aR:Nat),.int 3])) l3 (.lst [.ref t5])) t6 (.tup [.int (aR:Nat),.int 3])) t7 (.tup [.int (bY:Nat),.int 0])) l4 (.lst [.ref t6,.ref t7])) la (.lst [.ref l1,.ref l2,.ref l3,.ref l4])) la jk.steps:=
  ⟨[l1,l2,l3,l4],ax,.cons ⟨[t1,t2],n4 _ _ ax,.cons (n2 _ _ ax) (.cons (n3 _ _ ax) .nil)⟩ (.cons ⟨[t3,t4],n7 _ _ ax,.cons (n5 _ _ ax) (.cons (n6 _ _ ax) .nil)⟩
   (.cons ⟨[t5],n9 _ _ ax,.cons (n8 _ _ ax) .nil⟩ (.cons ⟨[t6,t7],n12 _ _ ax,.cons (n10 _ _ ax) (.cons (n11 _ _ ax) .nil)⟩ .nil)))⟩
 cb_eq
 refine⟨by decide,fun sa k6=>?_⟩;have e13:=e12.newI wd k6 (o:=.lst [.int 0]) aT;exact Aa (M:=jk) wd e13 rfl ax (st.mono (bu (e12.wd.noG k6))) q
def VD(A:Ad):Sp:=fun vs H Q _=>∃(G:Hp)(n:Nat),vs=[.int n]/\Wd A.toCn G H/\n<2^10000/\∀G' H' p l,Step A.toCn G H G' H'->G' p=some (.lst (iv l))->l.length<=10000->l.Nodup->(∀t,t∈l↔n.testBit t=true)->Q (.ref p) H'
theorem Hg(T:ba K mg A):Kn P w K mg base aX "places_in" 1 ["places"] (VD A):=by
 have sc:aW ["places","place"] ["places"] (aI Jt):=bo;refine Kn.of T.YP sc (fun vs H Q E h=>?_) (fun f cdv A0 outer s0 H vs Q E hr h=>?_)
 ·obtain⟨_,_,rfl,_⟩:=h; rfl
 obtain⟨G,n,rfl,wd,hn,q⟩:=h;have hbits:lN (n:Int)<=10000:=vQ.mpr (by rw[yD]; exact hn)
 have hlow:n<2^lN (n:Int):=by
  have:=vQ.mp (aF (lN (n:Int)));rw[yD]at this;exact this
 generalize hb:lN (n:Int)=b at hbits hlow;refine⟨_,(au (aL (hO rfl sc.nd (Sj rfl T.XR (af (HG Mq Mr Ms GP (pv 0)) ao)) (own:=[("place",1)]) (fE (by kernel_rfl)) (fun _ _ _ _ _=>by exact(gN 1 sc.nd)) (fun _ _ _ _ _=>by exact(nQ (bI eB (bb jI (bb uk (pv 0) (pv 1)) aA) aA (bp _)))) (fun _ _ _ _ _=>by exact(pv 1))))),?_⟩
 cb_eq
 refine⟨rfl,Lx ?_⟩;rw[hb];refine WX (by omega) (fun D i H'=>Step A.toCn G H G H'/\ar A.toCn H G H' D (.lst (iv ((dU i).filter fun t=>n.testBit t)))) ?_ ?_ ?_
 ·intro D hD;exact⟨(Step.refl wd).new wd hD,ar.make wd (Step.refl wd) hD⟩
 ·rintro D i H' hi ⟨s1,o1⟩
  cb_eq
  refine⟨by omega,?_⟩;rw[tw];rw[List.range_succ,qt];cases ht:n.testBit i with
  |true=>
   simp only[if_true];refine⟨_,o1.at_,?_,s1.put wd o1,?_⟩
   ·rw[dG];have:=oB (fun t=>n.testBit t) (dU i);rw[iW]at this;exact bZ (m:=10000) (by omega) (by decide)
   ·rw[kO,if_pos ht,oz,<-ik];exact o1.put_
  |false=>
   simp only[aV,if_false];refine⟨s1,?_⟩;rw[kO,if_neg (by rw[ht]; decide),oz,cC];exact o1
 ·rintro D H' ⟨s1,o1⟩
  cb_eq
  refine q _ _ D _ (s1.sealO wd o1 aT) ax ?_ (List.Pairwise.filter _ List.nodup_range) fun t=>?_
  ·have:=oB (fun t=>n.testBit t) (dU b);rw[iW]at this;omega
  ·rw[qx,lU];refine⟨fun z=>z.2,fun z=>⟨?_,z⟩⟩;by_cases hlt:t<b
   ·exact hlt
   ·rw[vD (cW hlow (kd (by decide) (by omega)))]at z;cases z
theorem tK{cs:List MC}{opt k r t:Nat}(ho:ib cs (·.opt) opt)(hk:k<=cs.length)(he:oo opt (2^k) r):r.testBit t=true↔k<=t/\t<=cs.length/\∀i,k<=i->i<t->∃d,cs[i]?=some d/\d.opt=true:=by
 rw[he t];constructor
 ·rintro⟨j,h1,h2,h3⟩;rw[oH,decide_eq_true_iff]at h2;subst h2;have hall:∀i,k<=i->i<t->∃d,cs[i]?=some d/\d.opt=true:=fun i a b=>(ho i).mp (h3 i a b);refine⟨h1,?_,hall⟩;by_cases z:t=k
  ·omega
  ·obtain⟨d,hd,_⟩:=hall (t-1) (by omega) (by omega);have:=(aK.mp hd).1;omega
 ·rintro⟨h1,_,h3⟩;exact⟨k,h1,by rw[oH]; simp,fun i a b=>(ho i).mpr (h3 i a b)⟩
def VA(A:Ad):Sp:=fun vs H Q _=>∃(G:Hp)(m:aa)(cs:List MC),vs=[.ref m]/\Wd A.toCn G H/\gf A.toCn G m cs/\cs.length<=1000/\∀G' H' p M,Step A.toCn G H G' H'->iB A G' p M->jy cs M->(∀k,(M.from k).length<=cs.length+2)->M.starts.length<=cs.length+2->Q (.ref p) H'
def LD(cs:List MC)(k:Nat)(l:List (Nat×Nat)):Prop:=∀c,cs[k]?=some c->∀S t,(S,t)∈l↔(S=c.stays/\t=k)\/(S=c.moves/\k+1<=t/\t<=cs.length/\∀i,k+1<=i->i<t->∃d,cs[i]?=some d/\d.opt=true)
theorem Rh(T:ba K mg A):Kn P w K mg base aX "pattern_machine" 3 ["matcher"] (VA A):=by
 have sc:aW ["matcher","steps","place","cell","onward","target"] ["matcher"] (aI Jq):=bo;refine Kn.of T.YM sc (fun vs H Q E h=>?_) (fun f cdv A0 outer s0 H vs Q E hr h=>?_)
 ·obtain⟨_,_,_,rfl,_⟩:=h; rfl
 obtain⟨G,m,cs,rfl,wd,⟨dx,lc,opt,dd,hm,⟨as,ha,pr⟩,ho⟩,hl,q⟩:=h;have hM:gf A.toCn G m cs:=⟨dx,lc,opt,dd,hm,⟨as,ha,pr⟩,ho⟩
 refine⟨_,(aq (pS 1 sc.nd (br ao))
   (aq (fX eZ rfl (nO rfl T.Xo (af (bK (pv 0) rfl) ao)) (nM rfl (hW (gN 2 sc.nd) (hW (gN 3 sc.nd) nN)))
    (aq (BF rfl sc.nd (i:=4) rfl rfl (xT rfl rfl rfl rfl) (dt (cF (Hg T) hr (af (hU (pv 0) T.Xg (xi T) (hr.mono (by decide)) bA (af (bb ji aA (bb dP (pv 2) aA)) ao)) ao))) (own:=[("target",5)]) (fE (by kernel_rfl)) (fun _ _ _ _ _=>by exact(gN 5 sc.nd)) (fun _ _ _ _ _=>by exact jN) (fun _ _ _ _ _=>by exact(dQ (af (rL (K:=K) rfl (pv 3) rfl) (af (pv 5) ao)))))
    (au (eC (eJ eQ gh gi fV (pv 1) (af (bb rH (br (af (dQ (af (bK (pv 3) rfl) (af (pv 2) ao))) ao)) (pv 4)) ao))))))
   (aq (eC (eJ eQ gh gi fV (pv 1) (af (br ao) ao)))
   (au (aL (jM (AV T) (hr.mono (by decide)) bA rfl (af (cF (Hg T) hr (af (hU (pv 0) T.Xg (xi T) (hr.mono (by decide)) bA (af aA ao)) ao)) (af (cL T.Xe (bK (pv 0) rfl)) (af (pv 1) ao))))))))),?_⟩
 cb_eq
 refine⟨by decide,fun p hp=>?_⟩;have s1:=(Step.refl wd).new wd hp (o:=.lst []);have o1:=ar.make wd (Step.refl wd) hp (o:=.lst []);refine bx (s1.wd.sub _ _ hm) T.Xg T.Xv tZ ?_;refine qc (ak.of (s1.wd.sub _ _ ha)) (fun i σ H'=>∃(x2 x3 x4 x5:Option V)(G1:Hp)(st:List (List (Nat×Nat)))(sa:List aa),σ=[some (.ref m),some (.ref p),x2,x3,x4,x5]/\Step A.toCn G H G1 H'/\ar A.toCn H G1 H' p (.lst (sa.map V.ref))/\bH (iF G1) sa st/\st.length=i/\(∀k l,st[k]?=some l->LD cs k l/\l.length<=cs.length+2)) ?_ ?_ ?_ ?_
 ·exact⟨none,none,none,none,G,[],[],rfl,s1,o1,.nil,rfl,fun k l h=>by simp at h⟩
 ·rintro i σ H' _ ⟨_,_,_,_,G1,_,_,_,s2,_⟩;exact ak.of (s2.wd.sub _ _ (s2.same wd _ _ ha))
 ·rintro i v σ H' T0 hv ⟨x2,x3,x4,x5,G1,st,sa,rfl,s2,o2,pst,hsl,hst⟩ hT;obtain⟨pc,hpc,rfl⟩:=eI hv;obtain⟨c,hci,dc,hcell⟩:=dH pr hpc;have hi:i<cs.length:=(aK.mp hci).1;have s3:=s2.new wd hT (o:=.tup [.int (i:Nat),.ref pc]);have o3:=o2.new_ hT (o':=.tup [.int (i:Nat),.ref pc])
  cb_eq
  refine eK (s3.wd.sub _ _ (s3.same wd _ _ hm)) xb ?_;rw[jH];refine⟨jf (m:=1) (n:=1) (by decide) (by omega),?_⟩;rw[xm];refine⟨G1,m,cs,2^(i+1),rfl,s3.wd,s3.matAt wd hM,by omega,fun opt' r ho' he=>?_⟩;have hr:r<2^(cs.length+1):=Fv (tX ho') (oG (by decide) (by omega)) he;refine⟨G1,r,rfl,s3.wd,cW hr (kd (by decide) (by omega)),fun G4 H4 pl l s4 hpl hll hlnd hlm=>?_⟩;have s34:=s3.trans wd s4;have o4:=o3.call s4;have pst4:=cO (fun _ _ z=>iF.mono (s4.same s3.wd) z) pst;refine gR (ak.of (s34.wd.sub _ _ hpl)) (fun D j H'=>∃(G5:Hp)(ts:List aa),Step A.toCn G H G5 H'/\bh G4 G5/\ar A.toCn H G5 H' p (.lst (sa.map V.ref))/\ar A.toCn H G5 H' D (.lst (ts.map V.ref))/\D≠p/\bH (fun t x=>G5 t=some (.tup [.int (c.moves:Nat),.int (x:Nat)])) ts (l.take j)) ?_ ?_ ?_ ?_
  ·intro D hD;exact⟨G4,[],s34.new wd hD,bh.refl _,o4.new_ hD,ar.make wd s34 hD,(fun z=>by rw[z,o4.at_]at hD; cases hD),.nil⟩
  ·rintro D j H' _ ⟨G5,_,s5,e45,_⟩;exact ak.of (s5.wd.sub _ _ (e45 _ _ hpl))
  ·rintro D j x H' hx ⟨G5,ts,s5,e45,o5,od,hne,pts⟩;obtain⟨t,htj,rfl⟩:=mw hx
   cb_eq
   refine bx (s5.wd.sub _ _ (s5.same wd _ _ hcell)) T.Xp T.XH EL ?_;refine⟨by decide,fun tp htp=>?_⟩;have s6:=s5.newI wd htp (o:=.tup [.int (c.moves:Nat),.int (t:Nat)]) cZ;have o6:=o5.newI s5.wd htp (o':=.tup [.int (c.moves:Nat),.int (t:Nat)]) cZ;have od6:=od.newI s5.wd htp (o':=.tup [.int (c.moves:Nat),.int (t:Nat)]) cZ;have n56:=bu (o:=.tup [.int (c.moves:Nat),.int (t:Nat)]) (s5.wd.noG htp);have hj:j<l.length:=(aK.mp htj).1;have htl:=bR pts;rw[cP]at htl;refine⟨_,od6.at_,?_,_,ts++[tp],s6.put wd od6,e45.trans n56,o6.other (bq hne),?_,hne,?_⟩
   ·rw[aE];exact bZ (m:=10000) (by omega) (by decide)
   ·rw[cv]; exact od6.put_
   ·rw[PM.take_snoc htj];exact iZ (cO (fun _ _ z=>n56 _ _ z) pts) ax
  ·rintro D H' ⟨G5,ts,s5,e45,o5,od,hne,pts⟩;rw[dG,cq]at pts
   cb_eq
   refine⟨eM (ak.of o5.at_),?_⟩;refine bx (s5.wd.sub _ _ (s5.same wd _ _ hcell)) T.Xp T.XI EM ?_;refine⟨by decide,fun t1 ht1=>⟨by decide,fun l1 hl1=>?_⟩⟩;have s6:=s5.newI wd ht1 (o:=.tup [.int (c.stays:Nat),.int (i:Nat)]) cZ;have o6:=o5.newI s5.wd ht1 (o':=.tup [.int (c.stays:Nat),.int (i:Nat)]) cZ;have od6:=od.newI s5.wd ht1 (o':=.tup [.int (c.stays:Nat),.int (i:Nat)]) cZ;have n56:=bu (o:=.tup [.int (c.stays:Nat),.int (i:Nat)]) (s5.wd.noG ht1);have s7:=s6.new wd hl1 (o:=.lst [.ref t1]);have o7:=o6.new_ hl1 (o':=.lst [.ref t1]);have od7:=od6.new_ hl1 (o':=.lst [.ref t1]);have htl:=bR pts;refine sj ax od7.at_ (by rw[aE]; exact jx (bZ (m:=10001) (by show 1+ts.length<=10001; omega) (by decide))) fun l2 hl2=>?_;have s8:=s7.newI wd hl2 (o:=.lst ([.ref t1]++ts.map V.ref)) aT;have o8:=o7.newI s7.wd hl2 (o':=.lst ([.ref t1]++ts.map V.ref)) aT;have n68:=bu (o:=.lst ([.ref t1]++ts.map V.ref)) (s7.wd.noG hl2);have hstl:=bR pst;refine fZ o8.at_ (by rw[aE,hstl]; exact bZ (m:=1000) (by omega) (by decide)) ?_;have e48:bh G4 _:=e45.trans (n56.trans n68);refine⟨_,_,_,_,_,st++[(c.stays,i)::l.map fun t=>(c.moves,t)],sa++[l2],rfl,s8.put wd o8,by rw[cv]; exact o8.put_,?_,by rw[bt,dJ]; omega,?_⟩
   ·refine iZ (cO (fun _ _ z=>iF.mono e48 z) pst4) ⟨t1::ts,ax,.cons (n68 _ _ ax) ?_⟩
    have:∀{ts:List aa}{l:List Nat}{G5 G6:Hp},bh G5 G6->bH (fun t x=>G5 t=some (.tup [.int (c.moves:Nat),.int (x:Nat)])) ts l->bH (fun t(x:Nat×Nat)=>G6 t=some (.tup [.int (x.1:Nat),.int (x.2:Nat)])) ts (l.map fun t=>(c.moves,t)):=by
     intro ts l G5 G6 e h
     induction h with
     |nil=>exact .nil
     |cons h _ ih=>exact .cons (e _ _ h) ih
    exact this (n56.trans n68) pts
   ·intro k l' hk;by_cases z:k<st.length
    ·rw[jv z]at hk;exact hst k l' hk
    ·have hk':=(aK.mp hk).1;rw[bt,dJ]at hk';have e:k=st.length:=by omega
     subst e;rw[oA (aF _),qD]at hk;have hk:some ((c.stays,i)::l.map fun t=>(c.moves,t))=some l':=hk;cases hk;rw[hsl];refine⟨fun c' hc' S t=>?_,by rw[bG,aE]; have:=lC (cs.length+1) l hlnd (fun t ht=>by have:=((tK ho' (by omega) he).mp ((hlm t).mp ht)).2.1; omega); omega⟩;rw[hci]at hc';cases hc';rw[bg,bP];constructor
     ·rintro(z|⟨t',h1,h2⟩)
      ·cases z; exact .inl ⟨rfl,rfl⟩
      ·cases h2;exact .inr ⟨rfl,(tK ho' (by omega) he).mp ((hlm _).mp h1)⟩
     ·rintro(⟨rfl,rfl⟩|⟨rfl,z⟩)
      ·exact .inl rfl
      ·exact .inr ⟨t,(hlm t).mpr ((tK ho' (by omega) he).mpr z),rfl⟩
 ·rintro σ H' ⟨x2,x3,x4,x5,G1,st,sa,rfl,s2,o2,pst,hsl,hst⟩;rw[aE,bR pr]at hsl
  cb_eq
  refine⟨eM (ak.of o2.at_),by decide,fun l1 hl1=>?_⟩;have s3:=s2.newI wd hl1 (o:=.lst []) aT;have o3:=o2.newI s2.wd hl1 (o':=.lst []) aT;have n23:=bu (o:=.lst []) (s2.wd.noG hl1);have hstl:=bR pst;refine fZ o3.at_ (by rw[aE,hstl]; exact bZ (m:=1000) (by omega) (by decide)) ?_;have s4:=s3.put wd o3 (o':=.lst (sa.map V.ref++[.ref l1]));have o4:=o3.put_ (o':=.lst (sa.map V.ref++[.ref l1]));have s5:=s4.sealO wd o4 aT;have n45:=bu (o:=.lst (sa.map V.ref++[.ref l1])) o4.g
  have hSt:oP (ah (ah G1 l1 (.lst [])) p (.lst (sa.map V.ref++[.ref l1]))) p (st++[[]]):=
   ⟨sa++[l1],by rw[ax,cv]; rfl,iZ (cO (fun _ _ z=>iF.mono (n23.trans n45) z) pst) ⟨[],n45 _ _ ax,.nil⟩⟩
  cb_eq
  refine eK (s5.wd.sub _ _ (s5.same wd _ _ hm)) xb ?_;refine⟨_,m,cs,1,rfl,s5.wd,s5.matAt wd hM,by omega,fun opt' r ho' he=>?_⟩;have he':oo opt' (2^0) r:=he;have hr:r<2^(cs.length+1):=Fv (tX ho') (oG (by decide) (by omega)) he';refine⟨_,r,rfl,s5.wd,cW hr (kd (by decide) (by omega)),fun G6 H6 pl l s6 hpl hll hlnd hlm=>?_⟩;have s56:=s5.trans wd s6;have e56:=s6.same s5.wd
  cb_eq
  refine bx (s56.wd.sub _ _ (s56.same wd _ _ hm)) T.Xg T.Xv tZ ?_;refine cw (ak.of (s56.wd.sub _ _ (s56.same wd _ _ ha))) ?_
  have hat:∀k,aZ.from ⟨l,cs.length,st++[[]]⟩ k=if k<cs.length then(st[k]?).getD []else []:=by
   intro k;unfold aZ.from;show((st++[[]])[k]?).getD []=_;by_cases z:k<cs.length
   ·rw[if_pos z,jv (by omega)]
   ·rw[if_neg z,oA (by omega)];cases h:([[]]:List (List (Nat×Nat)))[k-st.length]? with
    |none=>rfl
    |some x=>
     have h1:=(aK.mp h).1;simp at h1;have:k-st.length=0:=by omega
     rw[this]at h;cases h;rfl
  refine Aa (M:=⟨l,cs.length,st++[[]]⟩) wd s56 ?_ hpl (hSt.mono e56) fun G7 H7 p7 s7 hM7=>q _ _ p7 _ s7 hM7 ⟨rfl,?_,?_,?_,?_⟩ ?_ ?_
  ·rw[aE,bR pr]
  ·show(st++[[]]).length=_;rw[bt,dJ,hsl]
  ·intro t;show t∈l↔_;rw[hlm t,tK ho' (bC _) he'];exact⟨fun⟨_,h2,h3⟩=>⟨h2,fun i hi=>h3 i (bC _) hi⟩,fun⟨h2,h3⟩=>⟨bC _,h2,fun i _ hi=>h3 i hi⟩⟩
  ·intro k c hc S t;have hk:k<cs.length:=(aK.mp hc).1;have e:st[k]?=some st[k]:=bL (by omega);rw[hat,if_pos hk,e];exact(hst k _ e).1 c hc S t
  ·rw[hat,if_neg (ic _)]
  ·intro k;rw[hat];split
   ·next hk=>
    have e:st[k]?=some st[k]:=bL (by omega);rw[e];exact(hst k _ e).2
   ·exact bC _
  ·show l.length<=_;have:=lC (cs.length+1) l hlnd (fun t ht=>by have:=((tK ho' (bC _) he').mp ((hlm t).mp ht)).2.1; omega);omega
theorem ar.re{A:Cn}{H0 H1 G H:Hp}{q:aa}{o:HO}(x:ar A H1 G H q o)(h:H0 q=none):ar A H0 G H q o:=⟨h,x.g,x.nc,x.at_⟩
theorem xq{A:Cn}{G He G1 H1:Hp}(wd:Wd A G He)(s:Step A G He G1 H1){m n:aa}{o1 o2:HO}(x:ar A He G1 H1 m o1)(y:ar A He G1 H1 n o2)(hne:m≠n):
  ∃Hb,H1=ah (ah Hb m o1) n o2/\Hb m=none/\Hb n=none/\Step A G He G1 Hb/\∀q o,ar A He G1 H1 q o->q≠m->q≠n->ar A He G1 Hb q o:=by
 obtain⟨Ha,e1,h1,sa⟩:=y.open_ wd s;have xa:ar A He G1 Ha m o1:=⟨x.new,x.g,x.nc,by have:=x.at_; rw[e1,aM hne]at this; exact this⟩;obtain⟨Hb,e2,h2,sb⟩:=xa.open_ wd sa;refine⟨Hb,by rw[e1,e2],h2,by have:=h1; rw[e2,aM (bq hne)]at this; exact this,sb,fun q o z hm hn=>⟨z.new,z.g,z.nc,?_⟩⟩;have:=z.at_;rw[e1,aM hn,e2,aM hm]at this;exact this
def hG(x:Nat×Nat):List aP:=[bW (x.1:Int),bW (x.2:Int)]
def dN:Nat->List (Nat×Nat)->List (List aP×V)
 |_,[]=> []
 |n,x::r=>(hG x,V.int (n:Nat))::dN (n+1) r
theorem Hv{x y:Nat×Nat}(h:hG x=hG y):x=y:=by
 unfold hG at h;injection h with h1 h2;injection h2 with h2 _;injection h1 with h1;injection h2 with h2;exact Prod.ext (iT h1) (iT h2)
theorem Gd:∀(l:List (Nat×Nat))(n:Nat)(x:Nat×Nat),dN n (l++[x])=dN n l++[(hG x,V.int ((n+l.length:Nat):Int))]
 | [],n,x=>rfl
 |y::l,n,x=>by
  show(hG y,V.int (n:Nat))::dN (n+1) (l++[x])=_;rw[Gd l (n+1) x,show n+1+l.length=n+(y::l).length by rw[bG]; omega];rfl
theorem Ge:∀(l:List (Nat×Nat))(n:Nat),(dN n l).length=l.length
 | [],_=>rfl
 |_::l,n=>by show(dN (n+1) l).length+1=_; rw[Ge l (n+1)]; rfl
theorem Gf:∀(l:List (Nat×Nat))(n:Nat){x:Nat×Nat},x∉l->cf (dN n l) (hG x)=none
 | [],_,_,_=>rfl
 |y::l,n,x,h=>by
  show cf ((hG y,V.int (n:Nat))::dN (n+1) l) (hG x)=none;rw[ip (fun z=>h (by rw[Hv z]; exact dD))];exact Gf l (n+1) (fun z=>h (bU _ z))
theorem Ao:∀(l:List (Nat×Nat))(n i:Nat){x:Nat×Nat},l.Nodup->l[i]?=some x->cf (dN n l) (hG x)=some (.int ((n+i:Nat):Int))
 | [],_,i,_,_,h=>by simp at h
 |y::l,n,0,x,_,h=>by
  have h:some y=some x:=h;cases h;show cf ((hG y,V.int (n:Nat))::dN (n+1) l) (hG y)=_;rw[jn rfl];rfl
 |y::l,n,i+1,x,hd,h=>by
  have h:l[i]?=some x:=h;show cf ((hG y,V.int (n:Nat))::dN (n+1) l) (hG x)=_;rw[ip (fun z=>(jw.mp hd).1 (by rw[Hv z]; exact dq h)),Ao l (n+1) i (jw.mp hd).2 h,show n+1+i=n+(i+1) by omega]
def lD(ml nd:aa):List (Str×V):=[("met",.ref ml),("numbers",.ref nd)]
theorem xr{ml nd:aa}:(lD ml nd).lookup ("met":Str)=some (.ref ml):=by rfl
theorem xt{ml nd:aa}:(lD ml nd).lookup ("numbers":Str)=some (.ref nd):=by rfl
theorem Bn{ml nd:aa}:(lD ml nd).lookup ("number_of":Str)=none:=by rfl
theorem AR{A:Cn}{C dx ml nd:aa}:fP A (.ins C dx (lD ml nd)):=uc (by show some ("met":Str)≠some "cells"; decide +kernel)
def UR(A:Ad):Sp:=fun vs H Q _=>∃(G H1:Hp)(x dx:aa),vs=[.ref x]/\H=ah (ah H1 dx (.own x)) x (.ins A.pairs dx [])/\H1 x=none/\H1 dx=none/\dx≠x/\Wd A.toCn G H1/\
 ∀H' ml nd,Step A.toCn G H1 G H'->ar A.toCn H1 G H' x (.ins A.pairs dx (lD ml nd))->ar A.toCn H1 G H' ml (.lst [])->ar A.toCn H1 G H' nd (.dT [])->ml≠nd->Q .non H'
theorem Qy(T:ba K mg A):fA P w K mg base aX A.pairs "Pairs" 1 ["self"] (UR A):=by
 have sc:aW ["self"] ["self"] (aI Iu):=bo;refine fA.of T.Zi sc (fun vs H Q E h=>?_) (fun f cdv A0 outer s0 H vs Q E hr h=>?_)
 ·obtain⟨_,_,_,_,rfl,_⟩:=h; rfl
 obtain⟨G,H1,x,dx,rfl,rfl,hx,hdx,hne,wd,q⟩:=h;have s1:Step A.toCn G H1 G (ah H1 dx (.own x)):=(Step.refl wd).new wd hdx;have hx1:ah H1 dx (.own x) x=none:=by rw[aM (bq hne)]; exact hx
 have s2:=s1.new wd hx1 (o:=.ins A.pairs dx []);have o2:=ar.make wd s1 hx1 (o:=.ins A.pairs dx [])
 refine⟨_,(aq (fe (pv 0) (br ao) rfl)
   (au (fe (pv 0) RV rfl))),?_⟩
 cb_eq
 refine⟨by decide,fun ml hml=>?_⟩;have s3:=s2.new wd hml (o:=.lst []);have o3:=o2.new_ hml (o':=.lst []);have om3:=ar.make wd s2 hml (o:=.lst []);refine fi o3.at_ T.Xj T.Xz (by decide) ?_;have hxm:x≠ml:=mD o3.at_ om3.at_ (by intro z; cases z);have s4:=s3.put wd o3 (o':=.ins A.pairs dx (bT "met" (.ref ml) []));have o4:=o3.put_ (o':=.ins A.pairs dx (bT "met" (.ref ml) []));have om4:=om3.other (bq hxm) (o':=.ins A.pairs dx (bT "met" (.ref ml) []))
 cb_eq
 intro nd hnd;have s5:=s4.new wd hnd (o:=.dT []);have o5:=o4.new_ hnd (o':=.dT []);have om5:=om4.new_ hnd (o':=.dT []);have on5:=ar.make wd s4 hnd (o:=.dT []);refine fi o5.at_ T.Xj T.XA pG ?_;have hxn:x≠nd:=mD o5.at_ on5.at_ (by intro z; cases z);have hmn:ml≠nd:=mD om5.at_ on5.at_ (by intro z; cases z);exact q _ ml nd (s5.put wd o5) o5.put_ (om5.other (bq hxm)) (on5.other (bq hxn)) hmn
def ng(G:Hp)(mts:List aa)(met:List (Nat×Nat)):Prop:=bH (fun t(x:Nat×Nat)=>G t=some (.tup [.int (x.1:Nat),.int (x.2:Nat)])) mts met
theorem ng.mono{G G':Hp}(e:bh G G'){mts:List aa}{met:List (Nat×Nat)}(h:ng G mts met):ng G' mts met:=cO (fun t x z=>e t _ z) h
def Kl(A:Ad):Sp:=fun vs H Q _=>∃(G H0:Hp)(pp dx ml nd:aa)(met:List (Nat×Nat))(mts:List aa)(p q:Nat),vs=[.ref pp,.int p,.int q]/\H=ah (ah H0 ml (.lst (mts.map V.ref))) nd (.dT (dN 0 met))/\H0 ml=none/\H0 nd=none/\ml≠nd/\Wd A.toCn G H0/\G pp=some (.ins A.pairs dx (lD ml nd))/\
 ng G mts met/\met.Nodup/\met.length<=1000000/\
 ∀G' H' met' mts' n,Step A.toCn G H0 G' H'->ar A.toCn H0 G' H' ml (.lst (mts'.map V.ref))->ar A.toCn H0 G' H' nd (.dT (dN 0 met'))->ng G' mts' met'->met'=(if(p,q)∈met then met else met++[(p,q)])->met'.Nodup->met'[n]?=some (p,q)->Q (.int (n:Nat)) H'
section
variable{H:Hp}{Q:VK}{a b:aa}{kvs:List (List aP×V)}{k:List aP}{v:V}
theorem WT{n:Bool}(h:H a=some (.dT kvs))(hb:H b=some (.tup (k.map kV)))(q:Q (.bl (n^^(cf kvs k).isSome)) H):ql n (.ref a) (.ref b) H Q:=⟨a,_,rfl,fj.t h hb,q⟩
theorem Ly(h:H a=some (.dT kvs))(hb:H b=some (.tup (k.map kV)))(e:cf kvs k=some v)(q:Q v H):yw (.ref a) (.ref b) H Q:=⟨a,v,rfl,by rw[<-e]; exact fj.t h hb,q⟩
theorem WU{R:Hp->Prop}(h:H a=some (.dT kvs))(hb:H b=some (.tup (k.map kV)))(l:kvs.length<aY)(q:R (ah H a (.dT (dj kvs k v)))):yx (.ref a) (.ref b) v H R:=⟨a,_,rfl,lO.t h hb l,q⟩
end
theorem AW(T:ba K mg A):cM P w K mg base aX A.pairs "number_of" 1 ["self","first","second"] (Kl A):=by
 have sc:aW ["self","first","second","pair"] ["self","first","second"] (aI Iv):=bo;refine cM.of T.Zs sc (fun vs H Q E h=>?_) (fun f cdv A0 outer s0 H vs Q E hr h=>?_)
 ·obtain⟨_,_,_,_,_,_,_,_,_,_,rfl,_⟩:=h; rfl
 obtain⟨G,H0,pp,dx,ml,nd,met,mts,p,q,rfl,rfl,hml,hnd,hne,wd,hpp,hpi,hnod,hlen,fin⟩:=h;have hu:=mr hr;have s1:=(Step.refl wd).new wd hml (o:=.lst (mts.map V.ref));have om1:=ar.make wd (Step.refl wd) hml (o:=.lst (mts.map V.ref));have hnd1:ah H0 ml (.lst (mts.map V.ref)) nd=none:=by rw[aM (bq hne)]; exact hnd
 have s2:=s1.new wd hnd1 (o:=.dT (dN 0 met));have om2:=om1.new_ hnd1 (o':=.dT (dN 0 met));have on2:=ar.make wd s1 hnd1 (o:=.dT (dN 0 met))
 refine⟨_,(aq (pS 3 sc.nd (dQ (af (pv 1) (af (pv 2) ao))))
   (aq (bz (rN (By hu (pv 3) (bK (pv 0) rfl)))
    (aq (xx hu (bK (pv 0) rfl) (pv 3) (cL T.Xe (bK (pv 0) rfl)) rfl)
    (au (eC (eJ eQ gh gi fV (bK (pv 0) rfl) (af (pv 3) ao)))))
    bE)
   (au (aL (mH hu (bK (pv 0) rfl) (pv 3) (fun _ _=>rfl)))))),?_⟩
 cb_eq
 refine⟨by decide,fun t ht=>?_⟩;have s3:=s2.newI wd ht (o:=.tup [.int (p:Int),.int (q:Int)]) cZ;have om3:=om2.newI s2.wd ht (o':=.tup [.int (p:Int),.int (q:Int)]) cZ;have on3:=on2.newI s2.wd ht (o':=.tup [.int (p:Int),.int (q:Int)]) cZ;have n23:=bu (o:=.tup [.int (p:Int),.int (q:Int)]) (s2.wd.noG ht);have hpp3:=n23 _ _ hpp;have hpi3:=hpi.mono n23;have htG:ah G t (.tup [.int (p:Int),.int (q:Int)]) t=some (.tup ((hG (p,q)).map kV)):=ax;refine bx (s3.wd.sub _ _ hpp3) T.Xj T.XA xt ?_;refine WT on3.at_ (s3.wd.sub _ _ htG) ?_
 cb_eq
 by_cases hm:(p,q)∈met
 ·obtain⟨i,hi,ei⟩:=iV hm;have hi':met[i]?=some (p,q):=by rw[bL hi,ei]
  have hv:=Ao met 0 i hnod hi';rw[hv];simp only[mZ,qj,eX,aV,if_false];refine bx (s3.wd.sub _ _ hpp3) T.Xj T.XA xt ?_;refine Ly on3.at_ (s3.wd.sub _ _ htG) hv ?_;rw[sO];exact fin _ _ met mts i s3 om3 on3 hpi3 (by rw[if_pos hm]) hnod hi'
 ·have hv:=Gf met 0 hm;rw[hv];simp only[qF,qj,eD,if_true];refine bx (s3.wd.sub _ _ hpp3) T.Xj T.Xz xr ?_;refine cw (ak.of om3.at_) ?_;rw[aE,bR hpi]
  cb_eq
  refine bx (s3.wd.sub _ _ hpp3) T.Xj T.XA xt ?_;refine WU on3.at_ (s3.wd.sub _ _ htG) (by rw[Ge]; exact bZ (m:=1000000) hlen (by decide)) ?_
  have ek:dj (dN 0 met) (hG (p,q)) (V.int (met.length:Nat))=dN 0 (met++[(p,q)]):=by
   rw[BH _ hv,Gd,sO]
  have s4:=s3.put wd on3 (o':=.dT (dN 0 (met++[(p,q)])));have on4:=on3.put_ (o':=.dT (dN 0 (met++[(p,q)])));have om4:=om3.other hne (o':=.dT (dN 0 (met++[(p,q)])));rw[ek]
  cb_eq
  refine bx (s4.wd.sub _ _ hpp3) T.Xj T.Xz xr ?_;refine⟨eM (ak.of om4.at_),fZ om4.at_ (by rw[aE,bR hpi]; exact bZ (m:=1000000) hlen (by decide)) ?_⟩;have s5:=s4.put wd om4 (o':=.lst (mts.map V.ref++[.ref t]));have om5:=om4.put_ (o':=.lst (mts.map V.ref++[.ref t]));have on5:=on4.other (bq hne) (o':=.lst (mts.map V.ref++[.ref t]));have hnod':(met++[(p,q)]).Nodup:=yS.mpr ⟨hnod,by simp,fun x hx y hy e=>hm (by rw[cD.mp hy]at e; rw[<-e]; exact hx)⟩;have hi':(met++[(p,q)])[met.length]?=some (p,q):=by rw[oA (aF _),qD]; rfl
  cb_eq
  refine bx (s5.wd.sub _ _ hpp3) T.Xj T.XA xt ?_;refine Ly on5.at_ (s5.wd.sub _ _ htG) (Ao _ 0 met.length hnod' hi') ?_;rw[sO];exact fin _ _ (met++[(p,q)]) (mts++[t]) met.length s5 (by rw[cv]; exact om5) on5 (iZ hpi3 ax) (by rw[if_neg hm]) hnod' hi'
end
section
variable{P:aO}{w:aN}{K:aw}{mg:Str->Option ae}{base:aC}{A:Ad}
structure PS(A:Ad)(He G H:Hp)(pp dx ml nd:aa)(met:List (Nat×Nat))(mts:List aa)(a b:Nat):Prop where
 om:ar A.toCn He G H ml (.lst (mts.map V.ref))
 on:ar A.toCn He G H nd (.dT (dN 0 met))
 ne:ml≠nd
 at_:G pp=some (.ins A.pairs dx (lD ml nd))
 pi:ng G mts met
 nod:met.Nodup
 bd:∀x∈met,x.1<a/\x.2<b
theorem AU{He G G1 H1:Hp}{pp dx ml nd:aa}{met:List (Nat×Nat)}{mts:List aa}{a b p q:Nat}{Q':VK}{E:XK}(wd:Wd A.toCn G He)(s:Step A.toCn G He G1 H1)(ps:PS A He G1 H1 pp dx ml nd met mts a b)(hp:p<a)(hq:q<b)(hab:a*b<=1000000)
  (k:∀G2 H2 met' mts' n,Step A.toCn G He G2 H2->bh G1 G2->PS A He G2 H2 pp dx ml nd met' mts' a b->(∃more,met'=met++more)->met'[n]?=some (p,q)->(∀z o,ar A.toCn He G1 H1 z o->z≠ml->z≠nd->ar A.toCn He G2 H2 z o)->Q' (.int (n:Nat)) H2):
  Kl A [.ref pp,.int (p:Nat),.int (q:Nat)] H1 Q' E:=by
 obtain⟨Hb,e1,h1,h2,sb,hoth⟩:=xq wd s ps.om ps.on ps.ne;refine⟨G1,Hb,pp,dx,ml,nd,met,mts,p,q,rfl,e1,h1,h2,ps.ne,sb.wd,ps.at_,ps.pi,ps.nod,dW (Bo ps.nod ps.bd) hab,fun G2 H2 met' mts' n s2 om on hpi hmet hnod hn=>?_⟩;have e12:=s2.same sb.wd;refine k G2 H2 met' mts' n (sb.trans wd s2) e12 ⟨om.re ps.om.new,on.re ps.on.new,ps.ne,e12 _ _ ps.at_,hpi,hnod,fun x hx=>?_⟩ ?_ hn fun z o ho hz1 hz2=>(hoth z o ho hz1 hz2).call s2
 ·rw[hmet]at hx;split at hx
  ·exact ps.bd x hx
  ·rcases cj.mp hx with hx|hx
   ·exact ps.bd x hx
   ·rw[cD.mp hx]; exact⟨hp,hq⟩
 ·rw[hmet];split
  ·exact⟨[],by rw[cC]⟩
  ·exact⟨_,rfl⟩
theorem PS.step{He G G1 H H1:Hp}{pp dx ml nd:aa}{met:List (Nat×Nat)}{mts:List aa}{a b:Nat}(ps:PS A He G H pp dx ml nd met mts a b)(e:bh G G1)(h:∀z o,z=ml\/z=nd->ar A.toCn He G H z o->ar A.toCn He G1 H1 z o):PS A He G1 H1 pp dx ml nd met mts a b:=
 ⟨h _ _ (.inl rfl) ps.om,h _ _ (.inr rfl) ps.on,ps.ne,e _ _ ps.at_,ps.pi.mono e,ps.nod,ps.bd⟩
structure qk(D:(Nat×Nat)->(Nat×Nat)->Prop)(met:List (Nat×Nat))(l:List (Nat×Nat)):Prop where
 here:∀Z n,(Z,n)∈l->∃x y,D x y/\Z=x.1&&&y.1/\Z≠0/\met[n]?=some (x.2,y.2)
 all:∀x y,D x y->x.1&&&y.1≠0->∃n,(x.1&&&y.1,n)∈l/\met[n]?=some (x.2,y.2)
theorem jG{met:List (Nat×Nat)}{n:Nat}{x:Nat×Nat}(h:met[n]?=some x)(more:List (Nat×Nat)):(met++more)[n]?=some x:=by
 rw[jv (aK.mp h).1];exact h
theorem qk.more{D D':(Nat×Nat)->(Nat×Nat)->Prop}{met:List (Nat×Nat)}{l:List (Nat×Nat)}(h:qk D met l)(more:List (Nat×Nat))(h1:∀x y,D x y↔D' x y):qk D' (met++more) l:=
 ⟨fun Z n hz=>by
  obtain⟨x,y,a,b,c,d⟩:=h.here Z n hz;exact⟨x,y,(h1 x y).mp a,b,c,jG d more⟩,fun x y hd hz=>by
  obtain⟨n,a,b⟩:=h.all x y ((h1 x y).mpr hd) hz;exact⟨n,a,jG b more⟩⟩
def VP(K:aw)(A:Ad):Sp:=fun vs H Q _=>∃(G H0:Hp)(pp dx ml nd:aa)(met:List (Nat×Nat))(mts:List aa)(fa sa:aa)(lA lB:List (Nat×Nat))(a b:Nat),vs=[.ref fa,.ref sa,.ref pp]/\H=ah (ah H0 ml (.lst (mts.map V.ref))) nd (.dT (dN 0 met))/\H0 ml=none/\H0 nd=none/\ml≠nd/\Wd A.toCn G H0/\G pp=some (.ins A.pairs dx (lD ml nd))/\
 ng G mts met/\met.Nodup/\(∀x∈met,x.1<a/\x.2<b)/\iF G fa lA/\iF G sa lB/\(∀x∈lA,x.2<a)/\(∀x∈lB,x.2<b)/\a*b<=1000000/\lA.length*lB.length<=1000000/\
 ∀G' H' met' mts' pr l,Step A.toCn G H0 G' H'->PS A H0 G' H' pp dx ml nd met' mts' a b->(∃more,met'=met++more)->iF G' pr l->qk (fun x y=>x∈lA/\y∈lB) met' l->l.length<=lA.length*lB.length->Q (.ref pr) H'
theorem Rr(T:ba K mg A):Kn P w K mg base aX "shared_steps" 2 ["first_steps","second_steps","pairs"] (VP K A):=by
 have sc:aW ["first_steps","second_steps","pairs","shared","step","other","byte_set"] ["first_steps","second_steps","pairs"] (aI JF):=bo;refine Kn.of T.Zb sc (fun vs H Q E h=>?_) (fun f cdv A0 outer s0 H vs Q E hr h=>?_)
 ·obtain⟨_,_,_,_,_,_,_,_,_,_,_,_,_,_,rfl,_⟩:=h; rfl
 obtain⟨G,H0,pp,dx,ml,nd,met,mts,fa,sa,lA,lB,a,b,rfl,rfl,hml,hnd,hne,wd,hpp,hpi,hnod,hbd,⟨ta,hfa,pra⟩,⟨tb,hsa,prb⟩,hA,hB,hab,hll,fin⟩:=h;have s1:=(Step.refl wd).new wd hml (o:=.lst (mts.map V.ref));have om1:=ar.make wd (Step.refl wd) hml (o:=.lst (mts.map V.ref));have hnd1:ah H0 ml (.lst (mts.map V.ref)) nd=none:=by rw[aM (bq hne)]; exact hnd
 have s2:=s1.new wd hnd1 (o:=.dT (dN 0 met));have om2:=om1.new_ hnd1 (o':=.dT (dN 0 met));have on2:=ar.make wd s1 hnd1 (o:=.dT (dN 0 met));have lenA:=bR pra;have lenB:=bR prb
 refine⟨_,(aq (pS 3 sc.nd (br ao))
   (aq (fX eZ rfl (dt (pv 0)) (gN 4 sc.nd)
    (au (fX eZ rfl (dt (pv 1)) (gN 5 sc.nd)
     (aq (pS 6 sc.nd (bb jI (bM dg (pv 4) aA (fun _ _=>rfl)) (bM dg (pv 5) aA (fun _ _=>rfl))))
     (au (bz (bI uj (pv 6) aA (bp _))
      (au (eC (eJ eQ gh gi fV (pv 3) (af (dQ (af (pv 6) (af (hU (pv 2) T.Xj (AW T) (hr.mono (by decide)) bA (af (bM dg (pv 4) aA (fun _ _=>rfl)) (af (bM dg (pv 5) aA (fun _ _=>rfl)) ao))) ao))) ao))))
      bE))))))
   (au (aL (pv 3))))),?_⟩
 cb_eq
 refine⟨by decide,fun sh hsh=>?_⟩;have s3:=s2.new wd hsh (o:=.lst []);have om3:=om2.new_ hsh (o':=.lst []);have on3:=on2.new_ hsh (o':=.lst []);have os3:=ar.make wd s2 hsh (o:=.lst []);have hshm:sh≠ml:=fun z=>by rw[z,om2.at_]at hsh; cases hsh
 have hshn:sh≠nd:=fun z=>by rw[z,on2.at_]at hsh; cases hsh
 let Inv:=fun(D:(Nat×Nat)->(Nat×Nat)->Prop)(bound:Nat)(H':Hp)=>∃(G1:Hp)(met1:List (Nat×Nat))(mts1:List aa)(l:List (Nat×Nat))(ts:List aa),Step A.toCn G H0 G1 H'/\PS A H0 G1 H' pp dx ml nd met1 mts1 a b/\(∃more,met1=met++more)/\ar A.toCn H0 G1 H' sh (.lst (ts.map V.ref))/\ng G1 ts l/\qk D met1 l/\l.length<=bound
 refine jV (ak.of (s3.wd.sub _ _ hfa)) (fun i σ H'=>∃(x4 x5 x6:Option V),σ=[some (.ref fa),some (.ref sa),some (.ref pp),some (.ref sh),x4,x5,x6]/\Inv (fun x y=>x∈lA.take i/\y∈lB) (i*lB.length) H') ?_ ?_ ?_ ?_
 ·refine⟨none,none,none,rfl,G,met,mts,[],[],s3,⟨om3,on3,hne,hpp,hpi,hnod,hbd⟩,⟨[],by rw[cC]⟩,os3,.nil,⟨(fun Z n h=>by cases h),fun x y h=>?_⟩,bC _⟩;rw[eO]at h;cases h.1
 ·rintro i σ H' _ ⟨_,_,_,_,G1,_,_,_,_,s4,_⟩;exact ak.of (s4.wd.sub _ _ (s4.same wd _ _ hfa))
 ·rintro i v σ H' hv ⟨x4,x5,x6,rfl,G1,met1,mts1,l,ts,s4,ps4,hmore,os4,hpl,hcov,hlb⟩;obtain⟨t1,ht1,rfl⟩:=eI hv;obtain⟨x,hxi,hxt⟩:=dH pra ht1;have hi:i<lA.length:=(aK.mp hxi).1
  have hiL:i*lB.length+lB.length<=lA.length*lB.length:=by
   have:(i+1)*lB.length<=lA.length*lB.length:=vB _ hi;rw[oF,vC]at this;exact this
  cb_eq
  refine jV (ak.of (s4.wd.sub _ _ (s4.same wd _ _ hsa))) (fun j σ H'=>∃(x5 x6:Option V),σ=[some (.ref fa),some (.ref sa),some (.ref pp),some (.ref sh),some (.ref t1),x5,x6]/\Inv (fun x' y=>(x'∈lA.take i/\y∈lB)\/(x'=x/\y∈lB.take j)) (i*lB.length+j) H') ?_ ?_ ?_ ?_
  ·refine⟨_,_,rfl,G1,met1,mts1,l,ts,s4,ps4,hmore,os4,hpl,?_,hlb⟩;have:=hcov.more (D':=fun x' y=>(x'∈lA.take i/\y∈lB)\/(x'=x/\y∈lB.take 0)) [] (fun x' y=>⟨.inl,fun z=>z.elim id (fun z=>by rw[eO]at z; cases z.2)⟩);rw[cC]at this;exact this
  ·rintro j σ H' _ ⟨_,_,_,G2,_,_,_,_,s5,_⟩;exact ak.of (s5.wd.sub _ _ (s5.same wd _ _ hsa))
  ·rintro j v σ H' hv2 ⟨y5,y6,rfl,G2,met2,mts2,l2,ts2,s5,ps5,hmore2,os5,hpl2,hcov2,hlb2⟩;obtain⟨t2,ht2,rfl⟩:=eI hv2;obtain⟨y,hyj,hyt⟩:=dH prb ht2;have hj:j<lB.length:=(aK.mp hyj).1;have hx5:=s5.wd.sub _ _ (s5.same wd _ _ hxt);have hy5:=s5.wd.sub _ _ (s5.same wd _ _ hyt)
   have hDiff:∀x' y',((x'∈lA.take i/\y'∈lB)\/(x'=x/\y'∈lB.take (j+1)))↔((x'∈lA.take i/\y'∈lB)\/(x'=x/\y'∈lB.take j))\/(x'=x/\y'=y):=by
    intro x' y';rw[PM.take_snoc hyj,cj,cD];constructor
    ·rintro(z|⟨z,z2|z2⟩)
     ·exact .inl (.inl z)
     ·exact .inl (.inr ⟨z,z2⟩)
     ·exact .inr ⟨z,z2⟩
    ·rintro((z|⟨z,z2⟩)|⟨z,z2⟩)
     ·exact .inl z
     ·exact .inr ⟨z,.inl z2⟩
     ·exact .inr ⟨z,.inr z2⟩
   cb_eq
   refine cG (k:=0) (bQ.of hx5) rfl ?_;refine cG (k:=0) (bQ.of hy5) rfl ?_
   cb_eq
   rw[ny];by_cases hz:x.1&&&y.1=0
   ·rw[hz];rw[show decide (((0:Nat):Int)=0)=true from rfl];simp only[eX,aV,if_false];refine⟨_,_,rfl,G2,met2,mts2,l2,ts2,s5,ps5,hmore2,os5,hpl2,⟨fun Z n h=>?_,fun x' y' hd hnz=>?_⟩,by omega⟩
    ·obtain⟨x',y',a1,a2,a3,a4⟩:=hcov2.here Z n h;exact⟨x',y',(hDiff x' y').mpr (.inl a1),a2,a3,a4⟩
    ·rcases(hDiff x' y').mp hd with hd|⟨rfl,rfl⟩
     ·exact hcov2.all x' y' hd hnz
     ·exact absurd hz hnz
   ·rw[show decide (((x.1&&&y.1:Nat):Int)=0)=false from dF (by omega)];simp only[eD,if_true];refine⟨eM (ak.of os5.at_),?_⟩;refine eK (s5.wd.sub _ _ ps5.at_) Bn ?_;refine cG (k:=1) (bQ.of hx5) rfl ?_;refine cG (k:=1) (bQ.of hy5) rfl ?_;refine AU wd s5 ps5 (hA x (dq hxi)) (hB y (dq hyj)) hab fun G3 H3 met3 mts3 n s6 e23 ps6 hm6 hn6 hoth=>?_;have os6:=hoth _ _ os5 hshm hshn;obtain⟨more,rfl⟩:=hm6;refine⟨by decide,fun t3 ht3=>?_⟩;have s7:=s6.newI wd ht3 (o:=.tup [.int ((x.1&&&y.1:Nat):Int),.int (n:Nat)]) cZ;have os7:=os6.newI s6.wd ht3 (o':=.tup [.int ((x.1&&&y.1:Nat):Int),.int (n:Nat)]) cZ;have n67:=bu (o:=.tup [.int ((x.1&&&y.1:Nat):Int),.int (n:Nat)]) (s6.wd.noG ht3);have ps7:=ps6.step n67 (fun z o _ ho=>ho.newI s6.wd ht3 (o':=.tup [.int ((x.1&&&y.1:Nat):Int),.int (n:Nat)]) cZ);have hpl2l:=bR hpl2;refine fZ os7.at_ (by rw[aE,hpl2l]; exact bZ (m:=1000000) (by omega) (by decide)) ?_;have s8:=s7.put wd os7 (o':=.lst (ts2.map V.ref++[.ref t3]));have os8:=os7.put_ (o':=.lst (ts2.map V.ref++[.ref t3]));have ps8:=ps7.step (bh.refl _) (H1:=ah (ah H3 t3 (.tup [.int ((x.1&&&y.1:Nat):Int),.int (n:Nat)])) sh (.lst (ts2.map V.ref++[.ref t3]))) (fun z o hz ho=>ho.other (by rcases hz with rfl|rfl; exact bq hshm; exact bq hshn));refine⟨_,_,rfl,_,met2++more,mts3,l2++[(x.1&&&y.1,n)],ts2++[t3],s8,ps8,?_,by rw[cv]; exact os8,?_,⟨fun Z m h=>?_,fun x' y' hd hnz=>?_⟩,by rw[bt,dJ]; omega⟩
    ·obtain⟨mo,rfl⟩:=hmore2;exact⟨mo++more,by rw[dk]⟩
    ·exact iZ (hpl2.mono (e23.trans n67)) ax
    ·rcases cj.mp h with h|h
     ·obtain⟨x',y',a1,a2,a3,a4⟩:=hcov2.here Z m h;exact⟨x',y',(hDiff x' y').mpr (.inl a1),a2,a3,jG a4 more⟩
     ·cases cD.mp h;exact⟨x,y,(hDiff x y).mpr (.inr ⟨rfl,rfl⟩),rfl,hz,hn6⟩
    ·rcases(hDiff x' y').mp hd with hd|⟨rfl,rfl⟩
     ·obtain⟨m,a1,a2⟩:=hcov2.all x' y' hd hnz;exact⟨m,dn _ a1,jG a2 more⟩
     ·exact⟨n,dC _ (by simp),hn6⟩
  ·rintro σ H' ⟨y5,y6,rfl,G2,met2,mts2,l2,ts2,s5,ps5,hmore2,os5,hpl2,hcov2,hlb2⟩;rw[aE,lenB]at hcov2 hlb2;refine⟨_,_,_,rfl,G2,met2,mts2,l2,ts2,s5,ps5,hmore2,os5,hpl2,?_,by rw[oF,vC]; exact hlb2⟩
   have:=hcov2.more (D':=fun x y=>x∈lA.take (i+1)/\y∈lB) [] (fun x' y'=>by
    rw[cq,PM.take_snoc hxi,cj,cD];constructor
    ·rintro(⟨z,z2⟩|⟨z,z2⟩)
     ·exact⟨.inl z,z2⟩
     ·exact⟨.inr z,z2⟩
    ·rintro⟨z|z,z2⟩
     ·exact .inl ⟨z,z2⟩
     ·exact .inr ⟨z,z2⟩)
   rw[cC]at this;exact this
 ·rintro σ H' ⟨x4,x5,x6,rfl,G1,met1,mts1,l,ts,s4,ps4,hmore,os4,hpl,hcov,hlb⟩;rw[aE,lenA]at hcov hlb;rw[cq]at hcov
  cb_eq
  have n:=bu (o:=.lst (ts.map V.ref)) os4.g;refine fin _ _ met1 mts1 sh l (s4.sealO wd os4 aT) (ps4.step n (fun z o hz ho=>ho.seal_ os4 (by rcases hz with rfl|rfl; exact bq hshm; exact bq hshn) aT)) hmore ⟨ts,ax,hpl.mono n⟩ hcov hlb
structure kS(M:aZ)(c:Nat):Prop where
 fin:M.fin<M.steps.length
 starts:∀p∈M.starts,p<M.steps.length
 to:∀p S t,(S,t)∈M.from p->t<M.steps.length
 fl:∀k,(M.from k).length<=c
 sl:M.starts.length<=c
theorem RL:kS jk 2:=by
 refine⟨by decide,fun p hp=>?_,fun p S t h=>HF h,fun k=>?_,by decide⟩
 ·have hp:p∈ [0]:=hp;simp at hp;subst hp
  decide
 ·by_cases hk:k<4
  ·match k,hk with
   |0,_=>decide
   |1,_=>decide
   |2,_=>decide
   |3,_=>decide
  ·unfold aZ.from;rw[show jk.steps[k]?=none from gT (by show 4<=k; omega)]
   decide
theorem RH{cs:List MC}{M:aZ}(h:jy cs M)(h1:∀k,(M.from k).length<=cs.length+2)(h2:M.starts.length<=cs.length+2):kS M (cs.length+2):=
 ⟨by rw[h.fin,h.len]; omega,fun p hp=>by have:=((h.starts p).mp hp).1; rw[h.len]; omega,fun p S t ht=>by have:=(Bv h ht).2; rw[h.len]; omega,h1,h2⟩
theorem RO{p S t:Nat}(h:(S,t)∈jk.from p):S<2^256:=by
 have e1:eh<2^256:=by decide
 have e2:dO<2^256:=by decide
 have e3:aR<2^256:=by decide
 have e4:bY<2^256:=by decide
 have hp:p<4:=wJ h
 match p,hp with
 |0,_=>have h:(S,t)∈ [(eh,1),(dO,3)]:=h; simp only[bg,qH,iX,or_false]at h; rcases h with⟨rfl,_⟩|⟨rfl,_⟩<;>assumption
 |1,_=>have h:(S,t)∈ [(eh,2),(dO,3)]:=h; simp only[bg,qH,iX,or_false]at h; rcases h with⟨rfl,_⟩|⟨rfl,_⟩<;>assumption
 |2,_=>have h:(S,t)∈ [(aR,3)]:=h; simp only[bg,qH,iX,or_false]at h; rw[h.1]; assumption
 |3,_=>have h:(S,t)∈ [(aR,3),(bY,0)]:=h; simp only[bg,qH,iX,or_false]at h; rcases h with⟨rfl,_⟩|⟨rfl,_⟩<;>assumption
structure vc(D:Nat->Nat->Prop)(met:List (Nat×Nat))(l:List Nat):Prop where
 here:∀n,n∈l->∃x y,D x y/\met[n]?=some (x,y)
 all:∀x y,D x y->∃n,n∈l/\met[n]?=some (x,y)
theorem vc.more{D D':Nat->Nat->Prop}{met:List (Nat×Nat)}{l:List Nat}(h:vc D met l)(more:List (Nat×Nat))(h1:∀x y,D x y↔D' x y):vc D' (met++more) l:=
 ⟨fun n hz=>by
  obtain⟨x,y,a,d⟩:=h.here n hz;exact⟨x,y,(h1 x y).mp a,jG d more⟩,fun x y hd=>by
  obtain⟨n,a,b⟩:=h.all x y ((h1 x y).mpr hd);exact⟨n,a,jG b more⟩⟩
def UX(A:Ad):Sp:=fun vs H Q _=>∃(G:Hp)(fa sa:aa)(M1 M2:aZ)(c1 c2:Nat),vs=[.ref fa,.ref sa]/\Wd A.toCn G H/\iB A G fa M1/\iB A G sa M2/\kS M1 c1/\kS M2 c2/\(∀p S t,(S,t)∈M1.from p->S<2^256)/\M1.steps.length*M2.steps.length<=1000000/\c1*c2<=1000000/\
 ∀G' H' p M met,Step A.toCn G H G' H'->iB A G' p M->uZ M1 M2 M met->mX M->kS M (c1*c2)->M.steps.length<=M1.steps.length*M2.steps.length->Q (.ref p) H'
theorem rh{M:aZ}{p:Nat}(h:p<M.steps.length):M.steps[p]?=some (M.from p):=by
 unfold aZ.from;rw[bL h];rfl
theorem QO(T:ba K mg A):Kn P w K mg base aX "both" 3 ["first","second"] (UX A):=by
 have sc:aW ["first","second","pairs","end","starts","start","other","steps","pair"] ["first","second"] (aI IP):=bo;refine Kn.of T.Yk sc (fun vs H Q E h=>?_) (fun f cdv A0 outer s0 H vs Q E hr h=>?_)
 ·obtain⟨_,_,_,_,_,_,_,rfl,_⟩:=h; rfl
 obtain⟨G,fa,sb,M1,M2,c1,c2,rfl,wd,⟨d1,sa1,la1,hf,hs1,⟨as1,hl1,pl1⟩⟩,⟨d2,sa2,la2,hs,hs2,⟨as2,hl2,pl2⟩⟩,bd1,bd2,hset,hab,hcc,q⟩:=h;have n1:=bR pl1;have n2:=bR pl2
 refine⟨_,(aq (pS 2 sc.nd (HI (Qy T) (hr.mono (by decide)) bA rfl))
   (aq (pS 3 sc.nd (hU (pv 2) T.Xj (AW T) (hr.mono (by decide)) bA (af (bK (pv 0) rfl) (af (bK (pv 1) rfl) ao))))
   (aq (pS 4 sc.nd (br ao))
   (aq (fX eZ rfl (dt (bK (pv 0) rfl)) (gN 5 sc.nd)
    (au (fX eZ rfl (dt (bK (pv 1) rfl)) (gN 6 sc.nd)
     (au (eC (eJ eQ gh gi fV (pv 4) (af (hU (pv 2) T.Xj (AW T) (hr.mono (by decide)) bA (af (pv 5) (af (pv 6) ao))) ao)))))))
   (aq (pS 7 sc.nd (br ao))
   (aq (pT eZ (bI pN (cL T.Xe (pv 7)) (cL T.Xe (bK (pv 2) rfl)) (bp _))
    (aq (pS 8 sc.nd (bM eT (bK (pv 2) rfl) (cL T.Xe (pv 7)) (fun _ _=>rfl)))
    (au (eC (eJ eQ gh gi fV (pv 7) (af (cF (Rr T) hr (af (bM eT (bK (pv 0) rfl) (bM dg (pv 8) aA (fun _ _=>rfl)) (fun _ _=>rfl)) (af (bM eT (bK (pv 1) rfl) (bM dg (pv 8) aA (fun _ _=>rfl)) (fun _ _=>rfl)) (af (pv 2) ao)))) ao))))))
   (au (aL (jM (AV T) (hr.mono (by decide)) bA rfl (af (pv 4) (af (pv 3) (af (pv 7) ao)))))))))))),?_⟩
 cb_eq
 intro pp dx hpp hdx hne;refine⟨G,H,pp,dx,rfl,rfl,hpp,hdx,hne,wd,fun H1 ml nd s1 o1 om1 on1 hmn=>⟨rfl,?_⟩⟩;have s2:=s1.sealO wd o1 AR;have e02:=bu (o:=.ins A.pairs dx (lD ml nd)) o1.g;have hpm:pp≠ml:=mD o1.at_ om1.at_ (by intro z; cases z);have hpn:pp≠nd:=mD o1.at_ on1.at_ (by intro z; cases z)
 have ps2:PS A H (ah G pp (.ins A.pairs dx (lD ml nd))) H1 pp dx ml nd [] [] M1.steps.length M2.steps.length:=
  ⟨om1.seal_ o1 (bq hpm) AR,on1.seal_ o1 (bq hpn) AR,hmn,ax,.nil,yT,fun x hx=>by cases hx⟩
 cb_eq
 refine eK (s2.wd.sub _ _ ps2.at_) Bn ?_;refine bx (s2.wd.sub _ _ (e02 _ _ hf)) T.Xh T.Xw wX ?_;refine bx (s2.wd.sub _ _ (e02 _ _ hs)) T.Xh T.Xw wX ?_;refine AU wd s2 ps2 bd1.fin bd2.fin hab fun G3 H3 met3 mts3 en s3 e23 ps3 hm3 hn3 hoth3=>?_
 cb_eq
 refine⟨by decide,fun stl hstl=>?_⟩;have s4:=s3.new wd hstl (o:=.lst []);have os4:=ar.make wd s3 hstl (o:=.lst []);have ps4:=ps3.step (bh.refl _) (H1:=ah H3 stl (.lst [])) (fun z o _ ho=>ho.new_ hstl);have hsm:stl≠ml:=fun z=>by rw[z,ps3.om.at_]at hstl; cases hstl
 have hsn:stl≠nd:=fun z=>by rw[z,ps3.on.at_]at hstl; cases hstl
 let Inv:=fun(D:Nat->Nat->Prop)(bound:Nat)(H':Hp)=>∃(G1:Hp)(met1:List (Nat×Nat))(mts1:List aa)(L:List Nat),Step A.toCn G H G1 H'/\PS A H G1 H' pp dx ml nd met1 mts1 M1.steps.length M2.steps.length/\(∃more,met1=met3++more)/\ar A.toCn H G1 H' stl (.lst (iv L))/\vc D met1 L/\L.length<=bound
 refine bx (s4.wd.sub _ _ (s4.same wd _ _ hf)) T.Xh T.Xx wY ?_;refine jV (ak.of (s4.wd.sub _ _ (s4.same wd _ _ hs1))) (fun i σ H'=>∃(x5 x6:Option V),σ=[some (.ref fa),some (.ref sb),some (.ref pp),some (.int (en:Nat)),some (.ref stl),x5,x6,none,none]/\Inv (fun x y=>x∈M1.starts.take i/\y∈M2.starts) (i*M2.starts.length) H') ?_ ?_ ?_ ?_
 ·refine⟨none,none,rfl,G3,met3,mts3,[],s4,ps4,⟨[],by rw[cC]⟩,os4,⟨(fun n h=>by cases h),fun x y h=>?_⟩,bC _⟩;rw[eO]at h;cases h.1
 ·rintro i σ H' _ ⟨_,_,_,G1,_,_,_,s5,_⟩;exact ak.of (s5.wd.sub _ _ (s5.same wd _ _ hs1))
 ·rintro i v σ H' hv ⟨x5,x6,rfl,G1,met1,mts1,L,s5,ps5,hmore,os5,hcov,hLb⟩;obtain⟨x,hxi,rfl⟩:=mw hv;have hi:i<M1.starts.length:=(aK.mp hxi).1
  have hiL:i*M2.starts.length+M2.starts.length<=c1*c2:=by
   have h1:(i+1)*M2.starts.length<=M1.starts.length*M2.starts.length:=vB _ hi;have h2:M1.starts.length*M2.starts.length<=c1*c2:=qB bd1.sl bd2.sl;rw[oF,vC]at h1;omega
  cb_eq
  refine bx (s5.wd.sub _ _ (s5.same wd _ _ hs)) T.Xh T.Xx wY ?_;refine jV (ak.of (s5.wd.sub _ _ (s5.same wd _ _ hs2))) (fun j σ H'=>∃(x6:Option V),σ=[some (.ref fa),some (.ref sb),some (.ref pp),some (.int (en:Nat)),some (.ref stl),some (.int (x:Nat)),x6,none,none]/\Inv (fun x' y=>(x'∈M1.starts.take i/\y∈M2.starts)\/(x'=x/\y∈M2.starts.take j)) (i*M2.starts.length+j) H') ?_ ?_ ?_ ?_
  ·refine⟨_,rfl,G1,met1,mts1,L,s5,ps5,hmore,os5,?_,hLb⟩;have:=hcov.more (D':=fun x' y=>(x'∈M1.starts.take i/\y∈M2.starts)\/(x'=x/\y∈M2.starts.take 0)) [] (fun x' y=>⟨.inl,fun z=>z.elim id (fun z=>by rw[eO]at z; cases z.2)⟩);rw[cC]at this;exact this
  ·rintro j σ H' _ ⟨_,_,G2,_,_,_,s6,_⟩;exact ak.of (s6.wd.sub _ _ (s6.same wd _ _ hs2))
  ·rintro j v σ H' hv2 ⟨y6,rfl,G2,met2,mts2,L2,s6,ps6,hmore2,os6,hcov2,hLb2⟩;obtain⟨y,hyj,rfl⟩:=mw hv2;have hj:j<M2.starts.length:=(aK.mp hyj).1
   cb_eq
   refine⟨eM (ak.of os6.at_),?_⟩;refine eK (s6.wd.sub _ _ ps6.at_) Bn ?_;refine AU wd s6 ps6 (bd1.starts x (dq hxi)) (bd2.starts y (dq hyj)) hab fun G7 H7 met7 mts7 n s7 e27 ps7 hm7 hn7 hoth7=>?_;have os7:=hoth7 _ _ os6 hsm hsn;obtain⟨more,rfl⟩:=hm7;refine fZ os7.at_ (by rw[dG]; exact bZ (m:=1000000) (by omega) (by decide)) ?_;have s8:=s7.put wd os7 (o':=.lst (iv L2++[.int (n:Nat)]));have os8:=os7.put_ (o':=.lst (iv L2++[.int (n:Nat)]));have ps8:=ps7.step (bh.refl _) (H1:=ah H7 stl (.lst (iv L2++[.int (n:Nat)]))) (fun z o hz ho=>ho.other (by rcases hz with rfl|rfl; exact bq hsm; exact bq hsn));refine⟨_,rfl,G7,met2++more,mts7,L2++[n],s8,ps8,?_,by rw[<-ik]; exact os8,⟨fun m h=>?_,fun x' y' hd=>?_⟩,by rw[bt,dJ]; omega⟩
   ·obtain⟨mo,rfl⟩:=hmore2;exact⟨mo++more,by rw[dk]⟩
   ·rcases cj.mp h with h|h
    ·obtain⟨x',y',a1,a2⟩:=hcov2.here m h;refine⟨x',y',?_,jG a2 more⟩;rcases a1 with a1|⟨a1,a3⟩
     ·exact .inl a1
     ·exact .inr ⟨a1,by rw[PM.take_snoc hyj]; exact dn _ a3⟩
    ·rw[cD.mp h];exact⟨x,y,.inr ⟨rfl,by rw[PM.take_snoc hyj]; simp⟩,hn7⟩
   ·rw[PM.take_snoc hyj,cj,cD]at hd;rcases hd with hd|⟨hd,hd2|hd2⟩
    ·obtain⟨m,a1,a2⟩:=hcov2.all x' y' (.inl hd);exact⟨m,dn _ a1,jG a2 more⟩
    ·obtain⟨m,a1,a2⟩:=hcov2.all x' y' (.inr ⟨hd,hd2⟩);exact⟨m,dn _ a1,jG a2 more⟩
    ·rw[hd,hd2];exact⟨n,dC _ (by simp),hn7⟩
  ·rintro σ H' ⟨y6,rfl,G2,met2,mts2,L2,s6,ps6,hmore2,os6,hcov2,hLb2⟩;rw[dG]at hcov2 hLb2;refine⟨_,_,rfl,G2,met2,mts2,L2,s6,ps6,hmore2,os6,?_,by rw[oF,vC]; exact hLb2⟩
   have:=hcov2.more (D':=fun x y=>x∈M1.starts.take (i+1)/\y∈M2.starts) [] (fun x' y'=>by
    rw[cq,PM.take_snoc hxi,cj,cD];constructor
    ·rintro(⟨z,z2⟩|⟨z,z2⟩)
     ·exact⟨.inl z,z2⟩
     ·exact⟨.inr z,z2⟩
    ·rintro⟨z|z,z2⟩
     ·exact .inl ⟨z,z2⟩
     ·exact .inr ⟨z,z2⟩)
   rw[cC]at this;exact this
 ·rintro σ H' ⟨x5,x6,rfl,G5,met5,mts5,L,s5,ps5,hmore5,os5,hcovS,hLb⟩;rw[dG,cq]at hcovS;rw[dG]at hLb;have s6:=s5.sealO wd os5 aT;have n56:=bu (o:=.lst (iv L)) os5.g;have ps6:=ps5.step n56 (H1:=H') (fun z o hz ho=>ho.seal_ os5 (by rcases hz with rfl|rfl; exact bq hsm; exact bq hsn) aT)
  cb_eq
  refine⟨by decide,fun spl hspl=>?_⟩;have s7:=s6.new wd hspl (o:=.lst []);have ol7:=ar.make wd s6 hspl (o:=.lst []);have ps7:=ps6.step (bh.refl _) (H1:=ah H' spl (.lst [])) (fun z o _ ho=>ho.new_ hspl);have hlm:spl≠ml:=fun z=>by rw[z,ps6.om.at_]at hspl; cases hspl
  have hln:spl≠nd:=fun z=>by rw[z,ps6.on.at_]at hspl; cases hspl
  refine qd (fun mm σ H'=>∃(x5 x6 x8:Option V)(G8:Hp)(met:List (Nat×Nat))(mts:List aa)(st:List (List (Nat×Nat)))(sa:List aa),mm=M1.steps.length*M2.steps.length-st.length/\σ=[some (.ref fa),some (.ref sb),some (.ref pp),some (.int (en:Nat)),some (.ref stl),x5,x6,some (.ref spl),x8]/\Step A.toCn G H G8 H'/\
    bh (ah G5 stl (.lst (iv L))) G8/\PS A H G8 H' pp dx ml nd met mts M1.steps.length M2.steps.length/\(∃more,met=met5++more)/\ar A.toCn H G8 H' spl (.lst (sa.map V.ref))/\bH (iF G8) sa st/\st.length<=met.length/\∀(i:Nat) l p q,st[i]?=some l->met[i]?=some (p,q)->qk (fun x y=>x∈M1.from p/\y∈M2.from q) met l/\l.length<=c1*c2)
   ⟨_,_,_,_,_,met5,mts5,[],[],rfl,rfl,s7,bh.refl _,ps7,⟨[],by rw[cC]⟩,ol7,.nil,bC _,(fun i l p q h _=>by simp at h)⟩ ?_
  rintro mm σ H8 ⟨y5,y6,y8,G8,met,mts,st,sa,rfl,rfl,s8,e68,ps8,hmore8,ol8,pst,hstl8,hcov⟩;have hlsa:=bR pst;have hlm8:=bR ps8.pi;have hmb:=Bo ps8.nod ps8.bd
  cb_eq
  refine cw (ak.of ol8.at_) ?_;refine bx (s8.wd.sub _ _ ps8.at_) T.Xj T.Xz xr ?_;refine cw (ak.of ps8.om.at_) ?_
  cb_eq
  rw[aE,aE,hlsa,hlm8];by_cases hlt:st.length<met.length
  ·rw[dT (by omega)];simp only[if_true];refine⟨_,fun _ _ z=>z,?_⟩;refine bx (s8.wd.sub _ _ ps8.at_) T.Xj T.Xz xr ?_;refine cw (ak.of ol8.at_) ?_;rw[aE,hlsa];have hget:met[st.length]?=some met[st.length]:=bL hlt;generalize met[st.length]=pq at hget;obtain⟨p,q'⟩:=pq;obtain⟨tp,htp,htG⟩:=jK ps8.pi hget;refine fw (ak.of ps8.om.at_) (by rw[cH,htp]; rfl) ?_
   cb_eq
   refine⟨eM (ak.of ol8.at_),?_⟩;obtain⟨hp1,hq1⟩:=ps8.bd _ (dq hget);obtain⟨pa1,hpa1,hSt1⟩:=jK pl1 (rh hp1);obtain⟨pa2,hpa2,hSt2⟩:=jK pl2 (rh hq1);have e08:=s8.same wd;refine bx (s8.wd.sub _ _ (e08 _ _ hf)) T.Xh T.Xu tV ?_;refine cG (k:=0) (bQ.of (s8.wd.sub _ _ htG)) rfl ?_;refine fw (ak.of (s8.wd.sub _ _ (e08 _ _ hl1))) (by rw[cH,hpa1]; rfl) ?_;refine bx (s8.wd.sub _ _ (e08 _ _ hs)) T.Xh T.Xu tV ?_;refine cG (k:=1) (bQ.of (s8.wd.sub _ _ htG)) rfl ?_;refine fw (ak.of (s8.wd.sub _ _ (e08 _ _ hl2))) (by rw[cH,hpa2]; rfl) ?_;obtain⟨Hb,eb,hb1,hb2,sbb,hoth⟩:=xq wd s8 ps8.om ps8.on ps8.ne;have hlc:(M1.from p).length*(M2.from q').length<=c1*c2:=qB (bd1.fl p) (bd2.fl q');refine⟨G8,Hb,pp,dx,ml,nd,met,mts,pa1,pa2,M1.from p,M2.from q',M1.steps.length,M2.steps.length,rfl,eb,hb1,hb2,ps8.ne,sbb.wd,ps8.at_,ps8.pi,ps8.nod,ps8.bd,hSt1.mono e08,hSt2.mono e08,fun x hx=>bd1.to p x.1 x.2 hx,fun x hx=>bd2.to q' x.1 x.2 hx,hab,by omega,fun G9 H9 met9 mts9 pr l s9 ps9 hm9 hl9 hc9 hlen9=>?_⟩;have s89:=sbb.trans wd s9;have e89:=s9.same sbb.wd;have ol9:=(hoth _ _ ol8 hlm hln).call s9;have ps9':PS A H G9 H9 pp dx ml nd met9 mts9 M1.steps.length M2.steps.length:=⟨ps9.om.re ps8.om.new,ps9.on.re ps8.on.new,ps9.ne,ps9.at_,ps9.pi,ps9.nod,ps9.bd⟩;have hmb9:=Bo ps9.nod ps9.bd;obtain⟨more,rfl⟩:=hm9;refine fZ ol9.at_ (by rw[aE,hlsa]; exact bZ (m:=1000000) (by omega) (by decide)) ?_;have s10:=s89.put wd ol9 (o':=.lst (sa.map V.ref++[.ref pr]));have ol10:=ol9.put_ (o':=.lst (sa.map V.ref++[.ref pr]));have ps10:=ps9'.step (bh.refl _) (H1:=ah H9 spl (.lst (sa.map V.ref++[.ref pr]))) (fun z o hz ho=>ho.other (by rcases hz with rfl|rfl; exact bq hlm; exact bq hln));refine⟨M1.steps.length*M2.steps.length-(st.length+1),by omega,_,_,_,G9,met++more,mts9,st++[l],sa++[pr],by rw[bt,dJ],rfl,s10,e68.trans e89,ps10,?_,by rw[cv]; exact ol10,iZ (cO (fun _ _ z=>iF.mono e89 z) pst) hl9,by rw[bt,bt,dJ]; omega,?_⟩
   ·obtain⟨mo,rfl⟩:=hmore8;exact⟨mo++more,by rw[dk]⟩
   ·intro i l' p' q'' hi hpi;by_cases z:i<st.length
    ·rw[jv z]at hi;rw[jv (by omega)]at hpi;obtain⟨h1,h2⟩:=hcov i l' p' q'' hi hpi;exact⟨h1.more more (fun _ _=>fk),h2⟩
    ·have hi':=(aK.mp hi).1;rw[bt,dJ]at hi';have e:i=st.length:=by omega
     subst e;rw[oA (aF _),qD]at hi;have hi:some l=some l':=hi;cases hi;rw[jG hget more]at hpi;cases hpi;exact⟨hc9,by omega⟩
  ·rw[dF (by omega)];simp only[aV,if_false];have hsl:st.length=met.length:=by omega
   have s9:=s8.sealO wd ol8 aT;have n89:=bu (o:=.lst (sa.map V.ref)) ol8.g;obtain⟨more,hmet⟩:=hmore8;obtain⟨more5,hmet5⟩:=hmore5;have hS:=hcovS.more more (D':=fun x y=>x∈M1.starts/\y∈M2.starts) (fun _ _=>fk);rw[<-hmet]at hS;have hen:met[en]?=some (M1.fin,M2.fin):=by rw[hmet,hmet5]; exact jG (jG hn3 more5) more
   refine Aa (M:=⟨L,en,st⟩) wd s9 rfl (n89 _ _ (e68 _ _ ax)) ⟨sa,ax,cO (fun _ _ z=>iF.mono n89 z) pst⟩ fun G10 H10 p10 s10 hM10=>?_
   have hst:DZ M1 M2 met st:=⟨fun i l p q' hi hpi Z n hz=>by
     obtain⟨x,y,a1,a2,a3,a4⟩:=(hcov i l p q' hi hpi).1.here Z n hz;exact⟨x.1,x.2,y.1,y.2,a1.1,a1.2,a2,a3,a4⟩,fun i l p q' hi hpi S t S' u h1 h2 hz=>by
     obtain⟨n,a1,a2⟩:=(hcov i l p q' hi hpi).1.all (S,t) (S',u) ⟨h1,h2⟩ hz;exact⟨n,a1,a2⟩⟩
   have hB:uZ M1 M2 ⟨L,en,st⟩ met:=⟨hst,hsl,ps8.nod,hen,fun n hn=>by
     obtain⟨x,y,a1,a2⟩:=hS.here n hn;exact⟨x,y,a1.1,a1.2,a2⟩,fun p q' h1 h2=>hS.all p q' ⟨h1,h2⟩⟩
   have hto:∀p S t,(S,t)∈aZ.from ⟨L,en,st⟩ p->t<st.length/\S≠0/\S<2^256:=fun p S t ht=>by
    have hp:p<st.length:=wJ ht;have el:st[p]?=some (aZ.from ⟨L,en,st⟩ p):=rh (M:=⟨L,en,st⟩) hp;have em:met[p]?=some met[p]:=bL (by omega);generalize met[p]=pq at em;obtain⟨x,y,a1,a2,a3,a4⟩:=(hcov p _ pq.1 pq.2 el em).1.here S t ht;refine⟨by rw[hsl]; exact(aK.mp a4).1,a3,?_⟩;rw[a2];exact vy Nat.and_le_left (hset _ _ _ a1.1)
   have hstl:∀p∈L,p<st.length:=fun p hp=>by
    obtain⟨x,y,_,a2⟩:=hS.here p hp;rw[hsl]; exact(aK.mp a2).1
   have henl:en<st.length:=by rw[hsl]; exact(aK.mp hen).1
   refine q _ _ p10 _ met s10 hM10 hB ⟨henl,hstl,hto⟩ ⟨henl,hstl,fun p S t ht=>(hto p S t ht).1,fun k=>?_,?_⟩ (by show st.length<=_; rw[hsl]; exact hmb)
   ·by_cases hk:k<st.length
    ·have el:st[k]?=some (aZ.from ⟨L,en,st⟩ k):=rh (M:=⟨L,en,st⟩) hk;have em:met[k]?=some met[k]:=bL (by omega);generalize met[k]=pq at em;exact(hcov k _ pq.1 pq.2 el em).2
    ·unfold aZ.from;rw[gT (by show st.length<=k; omega)];exact bC _
   ·show L.length<=_;have h2:M1.starts.length*M2.starts.length<=c1*c2:=qB bd1.sl bd2.sl;omega
theorem xu{α β:Type}{F F':α->β->Prop}:∀{bs:List α}{rows:List β}{t:Nat}{b:α}{r':β},bH F bs rows->bs.Nodup->bs[t]?=some b->(∀q o,q≠b->F q o->F' q o)->F' b r'->bH F' bs (rows.set t r')
 |_,_,t,_,_,.nil,_,h,_,_=>by simp at h
 |x::xs,_,0,b,r',.cons _ tl,hd,h,hF,hb=>by
  simp at h;subst h;refine .cons hb (paired_keep tl fun q hq o=>hF q o fun z=>?_);exact(jw.mp hd).1 (z▸hq)
 |x::xs,_,t+1,b,r',.cons hx tl,hd,h,hF,hb=>by
  have h:xs[t]?=some b:=h;refine .cons (hF _ _ (fun z=>(jw.mp hd).1 (z▸dq h)) hx) (xu tl (jw.mp hd).2 h hF hb)
where
 paired_keep {α β:Type} {F F':α->β->Prop}:∀{bs:List α}{rows:List β},bH F bs rows->(∀q,q∈bs->∀o,F q o->F' q o)->bH F' bs rows
  |_,_,.nil,_=>.nil
  |_,_,.cons h t,k=>.cons (k _ dD _ h) (paired_keep t fun q hq=>k q (bU _ hq))
abbrev qG(A:Cn)(H G H1:Hp)(bs:List aa)(rows:List (List Nat)):Prop:=bH (fun b r=>ar A H G H1 b (.lst (iv r))) bs rows
theorem JK{A:Cn}{G H H1:Hp}(wd:Wd A G H):∀{bs:List aa}{rows:List (List Nat)}{G1:Hp},Step A G H G1 H1->qG A H G1 H1 bs rows->bs.Nodup->
  ∃G2,Step A G H G2 H1/\bh G1 G2/\bH (fun b r=>G2 b=some (.lst (iv r))) bs rows/\∀q o,q∉bs->ar A H G1 H1 q o->ar A H G2 H1 q o
 |_,_,G1,s,.nil,_=>⟨G1,s,bh.refl _,.nil,fun _ _ _ h=>h⟩
 |b::bs,r::rows,G1,s,.cons h t,hd=>by
  have hd:=jw.mp hd;have s2:=s.sealO wd h aT;have n2:=bu (o:=.lst (iv r)) h.g;have t2:qG A H (ah G1 b (.lst (iv r))) H1 bs rows:=xu.paired_keep t fun q hq o ho=>ho.seal_ h (fun z=>hd.1 (z▸hq)) aT;obtain⟨G2,s3,e3,p3,k3⟩:=JK wd s2 t2 hd.2;refine⟨G2,s3,n2.trans e3,.cons (e3 _ _ ax) p3,fun q o hq ho=>k3 q o (fun z=>hq (bU _ z)) (ho.seal_ h (fun z=>hq (z▸dD)) aT)⟩
structure lM(M:aZ)(c i j:Nat)(rows:List (List Nat)):Prop where
 len:rows.length=M.steps.length
 at_:∀(t:Nat)(r:List Nat),rows[t]?=some r->∀p,p∈r↔(p<i/\oj M p t)\/(p=i/\∃S,(S,t)∈(M.from i).take j)
 le:∀(t:Nat)(r:List Nat),rows[t]?=some r->r.length<=i*c+j
theorem lM.next{M:aZ}{c i:Nat}{rows:List (List Nat)}(h:lM M c i (M.from i).length rows)(hc:(M.from i).length<=c):lM M c (i+1) 0 rows:=
 ⟨h.len,fun t r ht p=>by
  rw[h.at_ t r ht p,cq,eO];constructor
  ·rintro(⟨a,b⟩|⟨rfl,b⟩)
   ·exact .inl ⟨by omega,b⟩
   ·exact .inl ⟨by omega,b⟩
  ·rintro(⟨a,b⟩|⟨_,S,b⟩)
   ·by_cases z:p=i
    ·subst z; exact .inr ⟨rfl,b⟩
    ·exact .inl ⟨by omega,b⟩
   ·exact absurd b iX,fun t r ht=>by
  have:=h.le t r ht;rw[oF];omega⟩
theorem lM.put{M:aZ}{c i j S t:Nat}{rows:List (List Nat)}{r:List Nat}(h:lM M c i j rows)(hj:(M.from i)[j]?=some (S,t))(hr:rows[t]?=some r):lM M c i (j+1) (rows.set t (r++[i])):=
 ⟨by rw[List.length_set]; exact h.len,fun t' r' ht p=>by
  have hts:=take_snoc hj;rw[hts];by_cases z:t=t'
  ·subst z;rw[sG (aK.mp hr).1]at ht;cases ht;rw[cj,h.at_ t r hr p];constructor
   ·rintro((a|⟨a,S',b⟩)|a)
    ·exact .inl a
    ·exact .inr ⟨a,S',dn _ b⟩
    ·exact .inr ⟨cD.mp a,S,dC _ (cD.mpr rfl)⟩
   ·rintro(a|⟨a,S',b⟩)
    ·exact .inl (.inl a)
    ·exact .inr (cD.mpr a)
  ·rw[qv z]at ht;rw[h.at_ t' r' ht p];constructor
   ·rintro(a|⟨a,S',b⟩)
    ·exact .inl a
    ·exact .inr ⟨a,S',dn _ b⟩
   ·rintro(a|⟨a,S',b⟩)
    ·exact .inl a
    ·rcases cj.mp b with b|b
     ·exact .inr ⟨a,S',b⟩
     ·cases cD.mp b;exact absurd rfl z,fun t' r' ht=>by
  by_cases z:t=t'
  ·subst z;rw[sG (aK.mp hr).1]at ht;cases ht;have:=h.le t r hr;rw[bt,dJ];omega
  ·rw[qv z]at ht;have:=h.le t' r' ht;omega⟩
def VC(A:Ad):Sp:=fun vs H Q _=>∃(G:Hp)(m:aa)(M:aZ)(c:Nat),vs=[.ref m]/\Wd A.toCn G H/\iB A G m M/\kS M c/\M.steps.length<=1000000/\M.steps.length*c+c<=16000000/\
 ∀G' H' p bs rows,Step A.toCn G H G' H'->G' p=some (.lst (bs.map V.ref))->bH (fun b r=>G' b=some (.lst (iv r))) bs rows->lM M c M.steps.length 0 rows->Q (.ref p) H'
theorem Rj(T:ba K mg A):Kn P w K mg base aX "places_before" 1 ["machine"] (VC A):=by
 have sc:aW ["machine","before","place","steps","step"] ["machine"] (aI Js):=bo;refine Kn.of T.YO sc (fun vs H Q E h=>?_) (fun f cdv A0 outer s0 H vs Q E hr h=>?_)
 ·obtain⟨_,_,_,_,rfl,_⟩:=h; rfl
 obtain⟨G,m,M,c,rfl,wd,⟨dx,sa,la,hm,hsa,as,hla,pla⟩,bd,hn,hnc,q⟩:=h;have hlas:=bR pla
 refine⟨_,(aq (BF rfl sc.nd (i:=1) rfl rfl (xT rfl rfl rfl rfl) (dt (bK (pv 0) rfl)) (own:=[("place",2)]) (fE (by kernel_rfl)) (fun _ _ _ _ _=>by exact(gN 2 sc.nd)) (fun _ _ _ _ _=>by exact jN) (fun _ _ _ _ _=>by exact(br ao)))
   (aq (fX eZ rfl (nO rfl T.Xo (af (bK (pv 0) rfl) ao)) (nM rfl (hW (gN 2 sc.nd) (hW (gN 3 sc.nd) nN)))
    (au (fX eZ rfl (dt (pv 3)) (gN 4 sc.nd)
     (au (eC (eJ eQ gh gi fV (bM eT (pv 1) (bM dg (pv 4) aA (fun _ _=>rfl)) (fun _ _=>rfl)) (af (pv 2) ao)))))))
   (au (aL (pv 1))))),?_⟩
 cb_eq
 refine bx (wd.sub _ _ hm) T.Xh T.Xu tV ?_;refine gR (ak.of (wd.sub _ _ hla)) (fun D i H'=>∃bs:List aa,bs.length=i/\Step A.toCn G H G H'/\ar A.toCn H G H' D (.lst (bs.map V.ref))/\D∉bs/\bs.Nodup/\qG A.toCn H G H' bs (List.replicate i [])) ?_ ?_ ?_ ?_
 ·intro D hD;exact⟨[],rfl,(Step.refl wd).new wd hD,ar.make wd (Step.refl wd) hD,by simp,yT,.nil⟩
 ·rintro D i H' _ ⟨bs,_,s1,_⟩;exact ak.of (s1.wd.sub _ _ hla)
 ·rintro D i v H' hv ⟨bs,hbl,s1,o1,hD,hnd,hrows⟩
  cb_eq
  have hi:=(aK.mp hv).1;rw[aE,hlas]at hi;refine⟨by decide,fun b hb=>?_⟩;have hDb:D≠b:=fun z=>by rw[<-z,o1.at_]at hb; cases hb
  refine⟨_,by rw[aM hDb]; exact o1.at_,?_,?_⟩
  ·rw[aE,hbl]; exact bZ (m:=1000000) (by omega) (by decide)
  have s2:=s1.new wd hb (o:=.lst []);have o2:=o1.new_ hb (o':=.lst []);have ob:=ar.make wd s1 hb (o:=.lst []);refine⟨bs++[b],by rw[bt,hbl]; rfl,s2.put wd o2,?_,?_,?_,?_⟩
  ·rw[cv]; exact o2.put_
  ·intro z;rcases cj.mp z with z|z
   ·exact hD z
   ·exact hDb (cD.mp z)
  ·refine yS.mpr ⟨hnd,by simp,fun x hx y hy z=>?_⟩;rw[cD.mp hy]at z;rw[z]at hx;obtain⟨k,hk,ek⟩:=iV hx;obtain⟨r,_,hr⟩:=dH hrows (i:=k) (by rw[bL hk,ek]);rw[hr.at_]at hb;cases hb
  ·rw[<-Ma,List.replicate_succ'];refine jJ (xu.paired_keep hrows fun x hx r hr=>(hr.new_ hb).other fun z=>hD (z▸hx)) (.cons (ob.other (bq hDb)) .nil)
 ·rintro D H' ⟨bs,hbl,s1,o1,hD,hnd,hrows⟩;rw[aE,hlas]at hbl hrows
  cb_eq
  refine bx (s1.wd.sub _ _ hm) T.Xh T.Xu tV ?_;refine qc (ak.of (s1.wd.sub _ _ hla)) (fun i σ H'=>∃(x2 x3 x4:Option V)(rows:List (List Nat)),σ=[some (.ref m),some (.ref D),x2,x3,x4]/\Step A.toCn G H G H'/\ar A.toCn H G H' D (.lst (bs.map V.ref))/\qG A.toCn H G H' bs rows/\lM M c i 0 rows) ?_ ?_ ?_ ?_
  ·refine⟨_,_,_,_,rfl,s1,o1,hrows,by rw[LV],fun t r ht p=>?_,fun t r ht=>?_⟩
   ·have:=dq ht;rw[(List.mem_replicate.mp this).2];constructor
    ·intro z; cases z
    ·rintro(⟨z,_⟩|⟨_,S,z⟩)
     ·omega
     ·rw[eO]at z; cases z
   ·have:=dq ht;rw[(List.mem_replicate.mp this).2];exact bC _
  ·rintro i σ H' _ ⟨_,_,_,_,_,s2,_⟩;exact ak.of (s2.wd.sub _ _ hla)
  ·rintro i v σ H' T0 hv ⟨x2,x3,x4,rows,rfl,s2,o2,hrows2,hbef⟩ hT;obtain⟨pa,hpa,rfl⟩:=eI hv;have hi:i<M.steps.length:=by rw[<-hlas]; exact(aK.mp hpa).1
   obtain⟨l,hl,ts,hts,pts⟩:=dH pla hpa;have hl':=hl;rw[rh hi]at hl';cases hl';have s3:=s2.new wd hT (o:=.tup [.int (i:Nat),.ref pa]);have o3:=o2.new_ hT (o':=.tup [.int (i:Nat),.ref pa]);have hrows3:qG A.toCn H G (ah H' T0 (.tup [.int (i:Nat),.ref pa])) bs rows:=cO (fun _ _ z=>z.new_ hT) hrows2
   cb_eq
   refine jV (ak.of (s3.wd.sub _ _ hts)) (fun j σ H'=>∃(x4:Option V)(rows:List (List Nat)),σ=[some (.ref m),some (.ref D),some (.int (i:Nat)),some (.ref pa),x4]/\Step A.toCn G H G H'/\ar A.toCn H G H' D (.lst (bs.map V.ref))/\qG A.toCn H G H' bs rows/\lM M c i j rows) ?_ ?_ ?_ ?_
   ·exact⟨_,_,rfl,s3,o3,hrows3,hbef⟩
   ·rintro j σ H' _ ⟨_,_,_,s4,_⟩;exact ak.of (s4.wd.sub _ _ hts)
   ·rintro j v σ H' hv ⟨y4,rows4,rfl,s4,o4,hrows4,hbef4⟩;obtain⟨tt,htt,rfl⟩:=eI hv;obtain⟨⟨S,t⟩,hst,htG⟩:=dH pts htt;have ht:=bd.to i S t (dq hst);have hjl:=(aK.mp hst).1;have hbr:bs[t]?=some bs[t]:=bL (by rw[hbl]; exact ht);generalize bs[t]=b at hbr;obtain⟨r,hrt,hob⟩:=dH hrows4 hbr;have hDb:D≠b:=fun z=>hD (z▸dq hbr)
    cb_eq
    refine cG (k:=1) (bQ.of (s4.wd.sub _ _ htG)) rfl ?_;refine fw (ak.of o4.at_) (by rw[cH,hbr]; rfl) ?_;refine⟨eM (ak.of hob.at_),?_⟩
    cb_eq
    have hrl:=hbef4.le t r hrt;have hil:i*c<=M.steps.length*c:=vB c (by omega);have hfl:=bd.fl i;refine fZ hob.at_ ?_ ?_
    ·rw[dG]; exact bZ (m:=16000000) (by omega) (by decide)
    cb_eq
    refine⟨_,_,rfl,s4.put wd hob,o4.other hDb,?_,hbef4.put hst hrt⟩;refine xu hrows4 hnd hbr (fun x r hx hr=>hr.other hx) ?_;rw[<-ik];exact hob.put_
   ·rintro σ H' ⟨y4,rows4,rfl,s4,o4,hrows4,hbef4⟩;rw[aE,bR pts]at hbef4;exact⟨_,_,_,_,rfl,s4,o4,hrows4,hbef4.next (bd.fl i)⟩
  ·rintro σ H' ⟨x2,x3,x4,rows,rfl,s2,o2,hrows2,hbef⟩;rw[aE,hlas]at hbef
   cb_eq
   obtain⟨G2,s3,e3,p3,k3⟩:=JK wd s2 hrows2 hnd;have o3:=k3 D _ hD o2;have n4:=bu (o:=.lst (bs.map V.ref)) o3.g;exact q _ _ D bs rows (s3.sealO wd o3 aT) ax (cO (fun _ _ z=>n4 _ _ z) p3) hbef
theorem uV{n:Nat}{te:TE}{f:Int->Int->Int}{D:iy}{σ:L2.St}{H:Hp}{i:Int}(h:σ[n]?=some (some (.int i)))(q:te σ H fun y H1=>∃j,y=.int j/\D.nx (σ.set n (some (.int (f i j)))) H1):rW n te (nG f) D σ H:=by
 refine⟨_,h,?_⟩
 have e:(fun y H1=>∃j,y=V.int j/\D.nx (σ.set n (some (.int (f i j)))) H1)=fun y H1=>nG f (.int i) y H1 fun z H2=>D.nx (σ.set n (some z)) H2:=by
  funext y H1
  exact propext ⟨fun⟨j,e,q⟩=>⟨i,j,rfl,e,q⟩,fun⟨i',j,e1,e2,q⟩=>by cases e1; exact⟨j,e2,q⟩⟩
 rw[<-e];exact q
theorem OD{l:List Nat}{i n:Nat}(h:l[i]?=some n):(iv l)[i]?=some (.int n):=by
 unfold iv;rw[cH,h];rfl
def dl(L:List (Nat×Nat)):List (aP×V):=L.map fun x=>(bW (x.1:Int),V.int (x.2:Nat))
theorem wF:∀{L:List (Nat×Nat)}{p:Nat},p∉L.map (·.1)->cf (dl L) (bW (p:Int))=none
 | [],_,_=>rfl
 |x::L,p,h=>by
  show cf ((bW (x.1:Int),V.int (x.2:Nat))::dl L) _=none;rw[ip (fun z=>h (by simp only[bW.injEq,Di]at z; rw[<-z]; exact dD))];exact wF fun z=>h (bU _ z)
theorem px:∀{L:List (Nat×Nat)}{p d:Nat},(L.map (·.1)).Nodup->(p,d)∈L->cf (dl L) (bW (p:Int))=some (.int (d:Nat))
 |x::L,p,d,hn,h=>by
  show cf ((bW (x.1:Int),V.int (x.2:Nat))::dl L) _=_;have hn:=jw.mp hn;rcases bg.mp h with h|h
  ·subst h;exact jn rfl
  ·have hp:p∈L.map (·.1):=bP.mpr ⟨_,h,rfl⟩;rw[ip (fun z=>hn.1 (by simp only[bW.injEq,Di]at z; show x.1∈_; rw[z]; exact hp))];exact px hn.2 h
theorem Fm{L:List (Nat×Nat)}{p:Nat}(hn:(L.map (·.1)).Nodup):(cf (dl L) (bW (p:Int))).isSome=decide (p∈L.map (·.1)):=by
 by_cases h:p∈L.map (·.1)
 ·obtain⟨⟨a,d⟩,hx,rfl⟩:=bP.mp h;rw[px hn hx,dT h];rfl
 ·rw[wF h,dF h];rfl
theorem Fn(L:List (Nat×Nat))(p d:Nat):dl (L++[(p,d)])=dl L++[(bW (p:Int),V.int (d:Nat))]:=by
 unfold dl;rw[cv];rfl
theorem Qo{A:Cn}{kvs:List (aP×V)}:fP A (.dK kvs):=fun _ _ _ _ z=>by cases z
def qO(L:List (Nat×Nat)):Prop:=∀(j:Nat)(x:Nat×Nat),L[j]?=some x->x.2<=j
theorem Wc(p:Nat):qO [(p,0)]:=fun j x h=>by
 match j with
 |0=>cases h; exact aF _
 |j+1=>cases h
theorem Wb{L:List (Nat×Nat)}{i p:Nat}{x:Nat×Nat}(h:qO L)(e:L[i]?=some x):qO (L++[(p,x.2+1)]):=fun j y hy=>by
 have hi:=(aK.mp e).1;have h1:=h i x e;by_cases hj:j<L.length
 ·rw[jv hj]at hy;exact h j y hy
 ·rw[oA (by omega)]at hy
  have:j-L.length=0:=by
   have:=(aK.mp hy).1;simp at this;omega
  rw[this]at hy;cases hy;show x.2+1<=j;omega
def Ve(A:Ad):Sp:=fun vs H Q _=>∃(G:Hp)(m:aa)(M:aZ)(c:Nat),vs=[.ref m]/\Wd A.toCn G H/\iB A G m M/\kS M c/\mX M/\M.steps.length<=1000000/\M.steps.length*c+c<=16000000/\
 ∀G' H' p L,Step A.toCn G H G' H'->G' p=some (.dK (dl L))->iA M L L.length->qO L->Q (.ref p) H'
theorem QS(T:ba K mg A):Kn P w K mg base aX "fewest_bytes_left" 2 ["machine"] (Ve A):=by
 have sc:aW ["machine","before","left","reached","index","place","earlier"] ["machine"] (aI IV):=bo;refine Kn.of T.Yq sc (fun vs H Q E h=>?_) (fun f cdv A0 outer s0 H vs Q E hr h=>?_)
 ·obtain⟨_,_,_,_,rfl,_⟩:=h; rfl
 obtain⟨G,m,M,c,rfl,wd,hmac,bd,ok,hn,hnc,q⟩:=h;have hu:=mr hr
 refine⟨_,(aq (pS 1 sc.nd (cF (Rj T) hr (af (pv 0) ao)))
   (aq (pS 2 sc.nd (RU (Sm (bK (pv 0) rfl) aA Sn) rfl rfl (by simp) (by decide)))
   (aq (pS 3 sc.nd (br (af (bK (pv 0) rfl) ao)))
   (aq (pS 4 sc.nd aA)
   (aq (pT eZ (bI pN (pv 4) (cL T.Xe (pv 3)) (bp _))
    (aq (pS 5 sc.nd (bM eT (pv 3) (pv 4) (fun _ _=>rfl)))
    (aq (uo (i:=4) sc.nd rfl (by first|exact Or.inl rfl|exact kU rfl) aA wR)
    (au (fX eZ rfl (dt (bM eT (pv 1) (pv 5) (fun _ _=>rfl))) (gN 6 sc.nd)
     (au (bz (rN (By hu (pv 6) (pv 2)))
      (aq (xx hu (pv 2) (pv 6) (bb dP (mH hu (pv 2) (pv 5) (fun _ _=>rfl)) aA) rfl)
      (au (eC (eJ eQ gh gi fV (pv 3) (af (pv 6) ao)))))
      bE)))))))
   (au (aL (pv 2)))))))),?_⟩
 cb_eq
 refine⟨G,m,M,c,rfl,wd,hmac,bd,hn,hnc,fun G1 H1 pb bs rows s1 hpb hrows hbef=>?_⟩;have hlb:=bR hrows;obtain⟨dx,sa,la,hm,hsa,as,hla,pla⟩:=hmac.mono (s1.same wd)
 cb_eq
 intro dp hdp;have s2:=s1.new wd hdp (o:=.dK []);have o2:=ar.make wd s1 hdp (o:=.dK []);simp only[xW]
 cb_eq
 refine bx (s2.wd.sub _ _ hm) T.Xh T.Xw wX ?_
 cb_eq
 refine⟨o2.at_,[(bW (M.fin:Int),.int 0)],rfl,by show 1<=15; decide,?_⟩;rw[show rE [] [((bW (M.fin:Int):aP),V.int 0)]=dl [(M.fin,0)]from rfl];have s3:=s2.put wd o2 (o':=.dK (dl [(M.fin,0)]));have o3:=o2.put_ (o':=.dK (dl [(M.fin,0)]));refine bx (s3.wd.sub _ _ hm) T.Xh T.Xw wX ?_
 cb_eq
 refine⟨by decide,fun rp hrp=>?_⟩;have s4:=s3.new wd hrp (o:=.lst (iv [M.fin]));have o4:=o3.new_ hrp (o':=.lst (iv [M.fin]));have r4:=ar.make wd s3 hrp (o:=.lst (iv [M.fin]));have hdr:dp≠rp:=fun z=>by rw[<-z,o3.at_]at hrp; cases hrp
 refine qd (fun mm σ H'=>∃(x5 x6:Option V)(L:List (Nat×Nat))(i:Nat),mm=M.steps.length-i/\σ=[some (.ref m),some (.ref pb),some (.ref dp),some (.ref rp),some (.int (i:Nat)),x5,x6]/\Step A.toCn G H G1 H'/\ar A.toCn H G1 H' dp (.dK (dl L))/\ar A.toCn H G1 H' rp (.lst (iv (L.map Prod.fst)))/\iA M L i/\i<=L.length/\qO L)
  ⟨_,_,_,[(M.fin,0)],0,rfl,rfl,s4,o4,r4,Pe ok,bC _,Wc _⟩ ?_
 rintro mm σ H5 ⟨x5,x6,L,i,rfl,rfl,s5,o5,r5,hL,hi,hst⟩;have hLb:=hL.bound
 cb_eq
 refine cw (ak.of r5.at_) ?_;rw[dG,aE]
 cb_eq
 by_cases hlt:i<L.length
 ·rw[dT (by omega)];simp only[if_true];refine⟨_,fun _ _ z=>z,?_⟩;have hg:L[i]?=some L[i]:=bL hlt;generalize L[i]=x at hg;obtain⟨pl,dd⟩:=x;refine fw (ak.of r5.at_) (OD (by rw[cH,hg]; rfl)) ?_
  cb_eq
  refine uV rfl ?_
  cb_eq
  have hpl:=hL.lt _ (dq hg);obtain⟨r,hrr⟩:∃r,rows[pl]?=some r:=⟨_,bL (by rw[hbef.len]; exact hpl)⟩;obtain⟨b,hb,hbG⟩:=jK hrows hrr;refine fw (ak.of (s5.wd.sub _ _ hpb)) (by rw[cH,hb]; rfl) ?_
  have hbe:∀p,p∈r↔oj M p pl:=fun p=>by
   rw[hbef.at_ pl r hrr p];constructor
   ·rintro(⟨_,z⟩|⟨_,S,z⟩)
    ·exact z
    ·rw[eO]at z; cases z
   ·intro z;obtain⟨S,hS⟩:=z;exact .inl ⟨wJ hS,S,hS⟩
  refine jV (ak.of (s5.wd.sub _ _ hbG)) (fun j σ H'=>∃(x6:Option V)(L':List (Nat×Nat)),σ=[some (.ref m),some (.ref pb),some (.ref dp),some (.ref rp),some (.int ((i+1:Nat):Int)),some (.int (pl:Nat)),x6]/\Step A.toCn G H G1 H'/\ar A.toCn H G1 H' dp (.dK (dl L'))/\ar A.toCn H G1 H' rp (.lst (iv (L'.map Prod.fst)))/\lS M L' i (pl,dd) (r.take j)/\qO L') ?_ ?_ ?_ ?_
  ·exact⟨_,L,rfl,s5,o5,r5,by rw[eO]; exact Pd hL hg,hst⟩
  ·rintro j σ H' _ ⟨_,_,_,s6,_⟩;exact ak.of (s6.wd.sub _ _ hbG)
  ·rintro j v σ H6 hv ⟨y6,L',rfl,s6,o6,r6,hL',hst'⟩;obtain⟨p,hp,rfl⟩:=mw hv;have hL'b:=hL'.bound
   cb_eq
   refine uW (k:=bW (p:Int)) o6.at_ ?_;rw[Fm hL'.nd]
   cb_eq
   rw[take_snoc hp];by_cases hin:p∈L'.map (·.1)
   ·rw[dT hin];simp only[qj,eX,aV,if_false];exact⟨_,_,rfl,s6,o6,r6,Pc hL' hin,hst'⟩
   ·rw[dF hin];simp only[qj,eD,if_true];refine mO (k:=bW (pl:Int)) o6.at_ (px hL'.nd (dq hL'.at_)) ?_
    cb_eq
    have hnone:=wF hin;refine CS (k:=bW (p:Int)) o6.at_ ?_ ?_
    ·unfold dl; rw[aE]; exact bZ (m:=1000000) (by omega) (by decide)
    rw[BH _ hnone];have o7:=o6.put_ (o':=.dK (dl (L'++[(p,dd+1)])));have s7:=s6.put wd o6 (o':=.dK (dl (L'++[(p,dd+1)])));have r7:=r6.other (bq hdr) (o':=.dK (dl (L'++[(p,dd+1)])));rw[Fn]at o7 s7 r7;refine⟨eM (ak.of r7.at_),?_⟩
    cb_eq
    refine fZ r7.at_ ?_ ?_
    ·rw[dG,aE]; exact bZ (m:=1000000) (by omega) (by decide)
    cb_eq
    refine⟨_,L'++[(p,dd+1)],rfl,s7.put wd r7,?_,?_,Pa ok hL' hin ((hbe p).mp (dq hp)),Wb hst' hL'.at_⟩
    ·rw[Fn]; exact o7.other hdr
    ·rw[cv,<-ik]; exact r7.put_
  ·rintro σ H6 ⟨y6,L',rfl,s6,o6,r6,hL',hst'⟩;rw[dG,cq]at hL';have hL'b:=hL'.bound;refine⟨M.steps.length-(i+1),by omega,_,_,L',i+1,rfl,rfl,s6,o6,r6,Pb hL' (fun p hp=>(hbe p).mpr hp),?_,hst'⟩;exact(aK.mp hL'.at_).1
 ·rw[dF (by omega)];simp only[aV,if_false];have e:i=L.length:=by omega
  subst e
  cb_eq
  exact q _ _ dp L (s5.sealO wd o5 Qo) ax hL hst
theorem Po{S b:Nat}(h:kb S b):∃r,S=2^(b+1)*r+2^b:=by
 refine⟨S / 2^(b+1),?_⟩
 have h0:S%2^b=0:=by
  refine Me fun i=>?_;rw[Nat.testBit_mod_two_pow,DD];by_cases hi:i<b
  ·have:S.testBit i=false:=by
    cases z:S.testBit i with
    |false=>rfl
    |true=>have:=h.2 i z; omega
   rw[this]; simp
  ·simp[hi]
 have h1:S%2^(b+1)=2^b:=by
  have e:=Nat.mod_pow_succ (x:=S) (b:=2) (k:=b);have hb:=h.1;rw[Nat.testBit_eq_decide_div_mod_eq]at hb;have hb:=of_decide_eq_true hb;rw[e,h0,hb]; omega
 have:=Nat.div_add_mod S (2^(b+1));omega
theorem Pn{S b:Nat}(h:kb S b):vb (S:Int) (-(S:Int))=((2^b:Nat):Int):=by
 obtain⟨r,hr⟩:=Po h;have hpos:0<2^b:=Nat.two_pow_pos b;have hS:S≠0:=by omega
 obtain⟨k,hk⟩:∃k,S=k+1:=⟨S-1,by omega⟩
 have key:S-(S&&&k)=2^b:=by
  have:S&&&k=2^(b+1)*r:=by
   have hk2:k=2^(b+1)*r+(2^b-1):=by omega
   refine Me fun i=>?_;have hlt:2^b<2^(b+1):=oG (by decide) (by omega);rw[lX,hr,hk2,Mg _ hlt,Mg _ (by omega)];rw[Nat.testBit_two_pow_mul];by_cases hi:i<b+1
   ·rw[if_pos hi,if_pos hi,oH,Mh];have: ¬b+1<=i:=by omega
    simp only[dF this,uX];by_cases h2:b=i
    ·subst h2; simp
    ·simp[h2]
   ·rw[if_neg hi,if_neg hi,Bool.and_self];have:b+1<=i:=by omega
    simp[this]
  omega
 unfold vb CW;rw[dT (by omega:(0:Int)<=(S:Int)),dF (by omega: ¬(0:Int)<= -(S:Int))];show(S:Int)-((fM (S:Int)&&&fM (- -(S:Int)-1):Nat):Int)=_;rw[fm,show fM (- -(S:Int)-1)=k by omega];have hle:S&&&k<=S:=Nat.and_le_left;omega
theorem MS(b:Nat):lN ((2^b:Nat):Int)=b+1:=by
 have h1:=vQ (x:=((2^b:Nat):Int)) (m:=b+1);have h2:=vQ (x:=((2^b:Nat):Int)) (m:=b);rw[yD]at h1 h2;have h3:=h1.mpr (oG (by decide) (by omega));have h4: ¬lN ((2^b:Nat):Int)<=b:=fun z=>by have:=h2.mp z; omega
 omega
def Vq(A:Ad):Sp:=fun vs H Q _=>∃(S b:Nat),vs=[.int S]/\kb S b/\Q (.int (b:Nat)) H
theorem Rc(T:ba K mg A):Kn P w K mg base aX "lowest_byte" 1 ["byte_set"] (Vq A):=by
 have sc:aW ["byte_set"] ["byte_set"] (aI Jh):=bo;refine Kn.of T.YD sc (fun vs H Q E h=>?_) (fun f cdv A0 outer s0 H vs Q E hr h=>?_)
 ·obtain⟨_,_,rfl,_⟩:=h; rfl
 obtain⟨S,b,rfl,hl,q⟩:=h;refine⟨_,(au (aL (bb rJ (HG Mq Mr Ms GP (bb jI (pv 0) (gP gQ (pv 0)))) aA))),?_⟩
 cb_eq
 refine⟨rfl,Lx ?_⟩;rw[Pn hl,MS]
 cb_eq
 rw[show(((b+1:Nat):Int)-1)=((b:Nat):Int) by omega];exact q
def LF(x:V)(H1:Hp)(R:aa->Prop):Prop:=∃a,x=.ref a/\yF H1 a/\R a
theorem SW{td ty:TE}{σ:L2.St}{H:Hp}{Q:VK}:KJ td ty σ H Q=td σ H fun x H1=>LF x H1 fun a=>ty σ H1 fun y H2=>∃o,fj H2 a y o/\Q (o.getD .non) H2:=rfl
theorem Wf{M:aZ}{L:List (Nat×Nat)}{k:Nat}:oQ M L [] k []:=fun S t=>⟨fun h=>(by cases h),fun⟨⟨p,h,_⟩,_⟩=>(by cases h)⟩
theorem Wg{M:aZ}{L:List (Nat×Nat)}{k p:Nat}{ps:List Nat}{ss:List (Nat×Nat)}(h:oQ M L ps k ss):oQ M L (ps++[p]) k (ss++(M.from p).filter fun x=>decide ((x.2,k)∈L)):=fun S t=>by
 rw[cj,h S t,qx];constructor
 ·rintro(⟨⟨q,h1,h2⟩,h3⟩|⟨h1,h2⟩)
  ·exact⟨⟨q,dn _ h1,h2⟩,h3⟩
  ·exact⟨⟨p,dC _ (cD.mpr rfl),h1⟩,of_decide_eq_true h2⟩
 ·rintro⟨⟨q,h1,h2⟩,h3⟩;rcases cj.mp h1 with h1|h1
  ·exact .inl ⟨⟨q,h1,h2⟩,h3⟩
  ·cases cD.mp h1;exact .inr ⟨h2,dT h3⟩
def VR(A:Ad):Sp:=fun vs H Q _=>∃(G:Hp)(m pa da:aa)(M:aZ)(c k:Nat)(ps:List Nat)(L:List (Nat×Nat)),vs=[.ref m,.ref pa,.ref da,.int k]/\Wd A.toCn G H/\iB A G m M/\kS M c/\G pa=some (.lst (iv ps))/\(∀p∈ps,p<M.steps.length)/\G da=some (.dK (dl L))/\(L.map (·.1)).Nodup/\ps.length*c<=16000000/\c<=16000000/\
 ∀G' H' p ts ss,Step A.toCn G H G' H'->G' p=some (.lst (ts.map V.ref))->bH (fun t x=>G' t=some (.tup [.int (x.1:Nat),.int (x.2:Nat)])) ts ss->oQ M L ps k ss->ss.length<=ps.length*c->Q (.ref p) H'
theorem NN{L:List (Nat×Nat)}{t k:Nat}(hn:(L.map (·.1)).Nodup):(∃d,cf (dl L) (bW (t:Int))=some (.int (d:Nat))/\(t,d)∈L/\decide ((d:Int)=(k:Int))=decide ((t,k)∈L))\/(cf (dl L) (bW (t:Int))=none/\decide ((t,k)∈L)=false):=by
 by_cases h:t∈L.map (·.1)
 ·obtain⟨⟨a,d⟩,hx,rfl⟩:=bP.mp h;refine .inl ⟨d,px hn hx,hx,?_⟩;by_cases e:d=k
  ·subst e;rw[dT hx,dT rfl]
  ·rw[dF (by omega),dF fun z=>e ?_];have h1:=px hn hx;rw[px hn z]at h1;injection h1 with h1;injection h1 with h1;omega
 ·exact .inr ⟨wF h,dF fun z=>h (bP.mpr ⟨_,z,rfl⟩)⟩
theorem Rv(T:ba K mg A):Kn P w K mg base aX "steps_to" 1 ["machine","places","left","many"] (VR A):=by
 have sc:aW ["machine","places","left","many","found","place","step"] ["machine","places","left","many"] (aI JI):=bo;refine Kn.of T.Ze sc (fun vs H Q E h=>?_) (fun f cdv A0 outer s0 H vs Q E hr h=>?_)
 ·obtain⟨_,_,_,_,_,_,_,_,_,rfl,_⟩:=h; rfl
 obtain⟨G,m,pa,da,M,c,k,ps,L,rfl,wd,⟨dx,sa,la,hm,hsa,as,hla,pla⟩,bd,hpa,hps,hda,hnd,hpc,hc,q⟩:=h;have hu:=mr hr
 refine⟨_,(aq (pS 4 sc.nd (br ao))
   (aq (fX eZ rfl (dt (pv 1)) (gN 5 sc.nd)
    (au (eC (eJ eQ zj zk xg (pv 4) (af (hO rfl sc.nd (dt (bM eT (bK (pv 0) rfl) (pv 5) (fun _ _=>rfl))) (own:=[("step",6)]) (fE (by kernel_rfl)) (fun _ _ _ _ _=>by exact(gN 6 sc.nd)) (fun _ _ _ _ _=>by exact(nQ (bI eB (RT hu (pv 2) (bM (wU (K:=K) rfl) (pv 6) aA (fun _ _=>rfl)) ⟨rfl,rfl,rfl,rfl⟩) (pv 3) (bp _)))) (fun _ _ _ _ _=>by exact(pv 6))) ao)))))
   (au (aL (pv 4))))),?_⟩
 cb_eq
 refine⟨by decide,fun fp hfp=>?_⟩;have s1:=(Step.refl wd).new wd hfp (o:=.lst []);have o1:=ar.make wd (Step.refl wd) hfp (o:=.lst []);refine jV (ak.of (s1.wd.sub _ _ hpa)) (fun i σ H'=>∃(x5 x6:Option V)(ts:List aa)(ss:List (Nat×Nat)),σ=[some (.ref m),some (.ref pa),some (.ref da),some (.int (k:Nat)),some (.ref fp),x5,x6]/\Step A.toCn G H G H'/\ar A.toCn H G H' fp (.lst (ts.map V.ref))/\bH (fun t x=>G t=some (.tup [.int (x.1:Nat),.int (x.2:Nat)])) ts ss/\oQ M L (ps.take i) k ss/\ss.length<=i*c) ?_ ?_ ?_ ?_
 ·exact⟨_,_,[],[],rfl,s1,o1,.nil,by rw[eO]; exact Wf,bC _⟩
 ·rintro i σ H' _ ⟨_,_,_,_,_,s2,_⟩;exact ak.of (s2.wd.sub _ _ hpa)
 ·rintro i v σ H2 hv ⟨x5,x6,ts,ss,rfl,s2,o2,pts,hss,hsl⟩;obtain⟨p,hp,rfl⟩:=mw hv;have hpl:=hps p (dq hp);have hil:=(aK.mp hp).1;obtain⟨a1,ha1,us,hus,pus⟩:=jK pla (rh hpl);have hfl:=bd.fl p
  have hic:i*c+c<=ps.length*c:=by
   have:=vB c (show i+1<=ps.length from hil);rw[oF]at this;omega
  cb_eq
  refine⟨eM (ak.of o2.at_),?_⟩;refine bx (s2.wd.sub _ _ hm) T.Xh T.Xu tV ?_;refine fw (ak.of (s2.wd.sub _ _ hla)) (by rw[cH,ha1]; rfl) ?_;refine gR (ak.of (s2.wd.sub _ _ hus)) (fun D j H'=>∃(vs:List aa),Step A.toCn G H G H'/\ar A.toCn H G H' fp (.lst (ts.map V.ref))/\ar A.toCn H G H' D (.lst (vs.map V.ref))/\D≠fp/\bH (fun t x=>G t=some (.tup [.int (x.1:Nat),.int (x.2:Nat)])) vs (((M.from p).take j).filter fun x=>decide ((x.2,k)∈L))) ?_ ?_ ?_ ?_
  ·intro D hD;exact⟨[],s2.new wd hD,o2.new_ hD,ar.make wd s2 hD,(fun z=>by rw[z,o2.at_]at hD; cases hD),.nil⟩
  ·rintro D j H' _ ⟨_,s3,_⟩;exact ak.of (s3.wd.sub _ _ hus)
  ·rintro D j v H3 hv ⟨vs,s3,o3,d3,hDf,pvs⟩;obtain⟨u,hu1,rfl⟩:=eI hv;obtain⟨⟨S,t⟩,hst,htG⟩:=dH pus hu1;have hjl:=(aK.mp hst).1;have hlv:=bR pvs
   have hvl:vs.length<=j:=by
    rw[hlv];refine dW (oB _ _) ?_;rw[cP]; omega
   cb_eq
   simp only[SW]
   cb_eq
   refine⟨da,rfl,.inl ⟨_,.inl (s3.wd.sub _ _ hda)⟩,?_⟩;refine cG (k:=1) (bQ.of (s3.wd.sub _ _ htG)) rfl ?_;rw[take_snoc hst,qt];refine⟨_,fj.k (k:=bW (t:Int)) (s3.wd.sub _ _ hda),?_⟩;rcases NN (t:=t) (k:=k) hnd with⟨d,e1,_,e2⟩|⟨e1,e2⟩
   ·rw[e1];simp only[Option.getD_some]
    cb_eq
    rw[e2];by_cases hin:(t,k)∈L
    ·rw[dT hin];simp only[if_true];refine⟨_,d3.at_,?_,vs++[u],s3.put wd d3,o3.other (bq hDf),?_,hDf,?_⟩
     ·rw[aE]; exact bZ (m:=16000000) (by omega) (by decide)
     ·rw[cv]; exact d3.put_
     ·refine jJ pvs ?_;rw[kO,if_pos (dT hin),oz];exact .cons htG .nil
    ·rw[dF hin];simp only[aV,if_false];refine⟨vs,s3,o3,d3,hDf,?_⟩;rw[kO,if_neg (by simp[hin]),oz,cC];exact pvs
   ·rw[e1];simp only[DG]
    cb_eq
    refine⟨vs,s3,o3,d3,hDf,?_⟩;have hin:(t,k)∉L:=of_decide_eq_false e2;rw[kO,if_neg (by simp[hin]),oz,cC];exact pvs
  ·rintro D H3 ⟨vs,s3,o3,d3,hDf,pvs⟩;rw[aE,bR pus,cq]at pvs;have hlv:=bR pvs
   have hvl:vs.length<=c:=by
    rw[hlv];exact dW (oB _ _) hfl
   have hlt:=bR pts
   cb_eq
   refine yk o3.at_ d3.at_ ?_ ?_
   ·rw[aE,aE,hlt];have:(16000000:Nat)<=aY:=by decide
    omega
   cb_eq
   refine⟨_,_,ts++vs,_,rfl,s3.put wd o3,?_,jJ pts pvs,by rw[take_snoc hp]; exact Wg hss,?_⟩
   ·rw[cv]; exact o3.put_
   ·rw[bt,<-hlv,oF]; omega
 ·rintro σ H2 ⟨x5,x6,ts,ss,rfl,s2,o2,pts,hss,hsl⟩;rw[dG,cq]at hss;rw[dG]at hsl
  cb_eq
  exact q _ _ fp ts ss (s2.sealO wd o2 aT) ax (cO (fun t x z=>bu o2.g _ _ z) pts) hss hsl
end
end PP
namespace PP
open PySem PySem.Spec L2
def nq(xs:Array Nat):Prop:=∀(i j x y:Nat),i<j->xs[i]?=some x->xs[j]?=some y->x<y
structure yp(xs:Array Nat)(j k:Nat):Prop where
 le:k<=xs.size
 lo:∀(i x:Nat),i<k->xs[i]?=some x->x<j
 hi:∀(i x:Nat),k<=i->xs[i]?=some x->j<=x
theorem zF{xs:Array Nat}{j:Nat}(hr:nq xs):∀(fuel lo hi:Nat),lo<=hi->hi<=xs.size->hi-lo<=fuel->(∀(i x:Nat),i<lo->xs[i]?=some x->x<j)->(∀(i x:Nat),hi<=i->xs[i]?=some x->j<=x)->yp xs j (zw xs j fuel lo hi)
 |0,lo,hi,h1,h2,h3,h4,h5=>by
  have e:lo=hi:=by omega
  subst e;exact⟨h2,h4,h5⟩
 |fuel+1,lo,hi,h1,h2,h3,h4,h5=>by
  unfold zw;by_cases hlt:lo<hi
  ·rw[if_pos hlt];have hm:(lo+hi) / 2<xs.size:=by omega
   have hg:xs[(lo+hi) / 2]?=some xs[(lo+hi) / 2]:=iQ hm;have hd:xs.getD ((lo+hi) / 2) j=xs[(lo+hi) / 2]:=by rw[nZ,hg]; rfl
   show yp xs j (if xs.getD ((lo+hi) / 2) j<j then zw xs j fuel ((lo+hi) / 2+1) hi else zw xs j fuel lo ((lo+hi) / 2));rw[hd];by_cases hx:xs[(lo+hi) / 2]<j
   ·rw[if_pos hx];refine zF hr fuel _ _ (by omega) h2 (by omega) (fun i x hi2 hx'=>?_) h5;by_cases e:i=(lo+hi) / 2
    ·subst e; rw[hg]at hx'; cases hx'; exact hx
    ·have:=hr i _ _ _ (by omega) hx' hg; omega
   ·rw[if_neg hx];refine zF hr fuel _ _ (by omega) (by omega) (by omega) h4 (fun i x hi2 hx'=>?_);by_cases e:i=(lo+hi) / 2
    ·subst e; rw[hg]at hx'; cases hx'; omega
    ·have:=hr _ i _ _ (by omega) hg hx'; omega
  ·rw[if_neg hlt];have e:lo=hi:=by omega
   subst e;exact⟨h2,h4,h5⟩
theorem Ew{xs:Array Nat}(hr:nq xs)(j:Nat):yp xs j (iD xs j):=
 zF hr _ _ _ (bC _) (aF _) (by omega) (fun i x h=>by omega) (fun i x h e=>by rw[yn h]at e; cases e)
theorem BQ{xs:Array Nat}(h:xs.toList.Pairwise (·<·)):nq xs:=fun i j x y hij hx hy=>by
 rw[<-ir]at hx hy;obtain⟨a1,a2⟩:=aK.mp hx;obtain⟨b1,b2⟩:=aK.mp hy;have:=yU.mp h i j a1 b1 hij;omega
theorem Su{xs:Array Nat}(h:nq xs):xs.toList.Pairwise (·<·):=yU.mpr fun i j hi hj hij=>
 h i j _ _ hij (by rw[<-ir]; exact bL hi) (by rw[<-ir]; exact bL hj)
theorem Uo{xs:Array Nat}{j:Nat}(hr:nq xs)(hn:xs[iD xs j]?≠some j):nq (bV.insertAt xs (iD xs j) j):=by
 have hb:=Ew hr j;refine BQ ?_;rw[bV.toList_insertAt];have hp:=Su hr;refine LX.mpr ⟨hp.take,lV.mpr ⟨fun x hx=>?_,hp.drop⟩,fun x hx y hy=>?_⟩
 ·obtain⟨i,hi,e⟩:=iV hx
  have e2:xs[iD xs j+i]?=some x:=by
   rw[<-ir,<-vk,bL hi,e]
  have h1:=hb.hi _ x (by omega) e2;by_cases z:x=j
  ·subst z;by_cases zi:i=0
   ·subst zi; exact absurd e2 hn
   ·have hlt:iD xs x<xs.size:=by
     by_cases q:iD xs x<xs.size
     ·exact q
     ·rw[yn (by omega)]at e2; cases e2
    have e3:xs[iD xs x]?=some xs[iD xs x]:=iQ hlt;have h2:=hr _ _ _ _ (by omega) e3 e2;have h3:=hb.hi _ _ (aF _) e3;omega
  ·omega
 ·have h1:∀x,x∈xs.toList.take (iD xs j)->x<j:=fun x hx=>by
   obtain⟨i,hi,e⟩:=iV hx;rw[cP]at hi;rw[List.getElem_take]at e;exact hb.lo i x (by omega) (by rw[<-ir,bL (by omega),e])
  rcases bg.mp hy with rfl|hy
  ·exact h1 x hx
  ·obtain⟨i,hi,e⟩:=iV hy
   have e2:xs[iD xs j+i]?=some y:=by
    rw[<-ir,<-vk,bL hi,e]
   have:=hb.hi _ y (by omega) e2;have:=h1 x hx;omega
structure eR(led:Bool)(t:bV):Prop where
 rise:nq t.place
 dum:t.dummies= #[]
 led:t.led=led
theorem Wt(led:Bool):eR led (.fresh 0 0 led):=⟨fun i j x y _ h=>by simp[bV.fresh]at h,rfl,rfl⟩
theorem xY{led:Bool}{t:bV}(h:eR led t)(n:Nat):eR led (t.standIn n):=⟨by
 refine BQ ?_;show(Array.range n).toList.Pairwise (·<·);rw[Array.toList_range];exact vt,rfl,h.led⟩
theorem Ww{led:Bool}{t:bV}(h:eR led t)(b:Bool):eR led {t with plain:=b}:=⟨h.rise,h.dum,h.led⟩
theorem FN(j:Nat):bV.has #[] j=false:=by
 unfold bV.has;simp
theorem Kb{led:Bool}{t:bV}(h:eR led t)(j:Nat):t.slot j=(if t.place[iD t.place j]?==some j then .live (iD t.place j)else .empty):=by
 unfold bV.slot;rw[h.dum,FN];rfl
theorem HK{led:Bool}{t:bV}(h:eR led t)(hashAt:Nat->Int)(hh:Int):∀(fuel:Nat)(p:bV.Probe)(j:Nat)(d:Option Nat),p.dummy=none->bV.probe.go t hashAt hh fuel p=some (.empty j d)->d=none/\t.slot j=.empty
 |0,p,j,d,_,e=>by cases e
 |fuel+1,p,j,d,hp,e=>by
  unfold bV.probe.go at e
  have hadv:∀p:bV.Probe,p.dummy=none->(t.advance p).dummy=none:=fun p hp=>by
   unfold bV.advance;split
   ·exact hp
   ·exact hp
  cases hs:t.slot p.j with
  |empty=>
   rw[hs]at e;simp only[Mj.injEq,bV.Met.empty.injEq]at e;obtain⟨rfl,rfl⟩:=e;exact⟨hp,hs⟩
  |dummy=>
   rw[Kb h]at hs;split at hs<;>cases hs
  |live i=>
   rw[hs]at e;dsimp only at e;split at e
   ·cases e
   ·exact HK h hashAt hh fuel _ j d (hadv p hp) e
theorem Lh{led:Bool}{t:bV}{hh:Int}{slot:Nat}{wd:Bool}(h:eR led t)(hf:t.freeSlot hh=some (slot,wd)):eR led (t.put slot).1:=by
 have hsl:t.slot slot=.empty:=by
  unfold bV.freeSlot at hf;split at hf
  ·rename_i j d e
   obtain⟨rfl,h2⟩:=HK h _ _ _ (t.probeStart hh) j d rfl e;cases hf;exact h2
  ·cases hf
 rw[Kb h]at hsl
 have hn:t.place[iD t.place slot]?≠some slot:=fun z=>by
  rw[z]at hsl;simp at hsl
 refine⟨Uo h.rise hn,?_,h.led⟩;show(if bV.has t.dummies slot then _ else t.dummies)= #[];rw[h.dum,FN];rfl
theorem Wv{led:Bool}{t:bV}(h:eR led t)(es:Array (Int×ae))(hh:Int)(x:ae):eR led (layNew t es hh x).2.1:=by
 unfold layNew;split
 ·rename_i slot wd e
  show eR led (bV.orStandIn (t.put slot).1 _);unfold bV.orStandIn;split
  ·exact Lh h e
  ·exact xY (Lh h e) _
 ·exact xY h _
theorem Wu{mask finger moves:Nat}{led plain:Bool}{hs:Array Int}{t:bV}{o:Array Nat}(e:bV.laid mask finger moves led plain hs=some (t,o)):eR led t:=by
 unfold bV.laid at e;cases hl:bV.layClean mask hs with
 |none=>rw[hl]at e; cases e
 |some owner=>
  rw[hl]at e;cases e;refine⟨BQ ?_,rfl,rfl⟩;show(((dU (mask+1)).filterMap fun j=>(owner.getD j none).map (j,·)).map (·.1)).Pairwise (·<·);refine kQ.mpr (List.pairwise_filterMap.mpr (vt.imp fun{a b} hab x hx y hy=>?_));cases ha:owner.getD a none with
  |none=>rw[ha]at hx; cases hx
  |some u=>
   rw[ha]at hx;cases hx;cases hb:owner.getD b none with
   |none=>rw[hb]at hy; cases hy
   |some u=>
    rw[hb]at hy;cases hy;exact hab
theorem Wx{led:Bool}{t:bV}(h:eR led t)(es:Array (Int×ae))(n:Nat):eR led (relayAll t es n).2.1:=by
 unfold relayAll;split
 ·rename_i t' order e
  dsimp only;unfold bV.relaid at e;have:=Wu e;rw[h.led]at this;split
  ·exact this
  ·exact xY h _
 ·exact xY h _
end PP
namespace PP
open PySem PySem.Spec L2 PyProof.Rows
section
variable{prog:aO}{w:aN}
def gD(prog:aO)(w:aN)(led:Bool)(h:aC)(a:aa)(S:Int->Bool)(n:Nat):Prop:=
 ∃o es ep t,h.get? a=some o/\o.ExactSet/\o.data=.set es ep t/\ElemsOf (intKind prog w) es.toList/\(∀k,S k=true↔∃e∈es.toList,(intKind prog w).is k e.2=true)/\es.size<lH/\t.fits es.size=true/\es.size=n/\eR led t
theorem gD.at{led:Bool}{h h':aC}{a:aa}{S:Int->Bool}{n:Nat}(x:gD prog w led h a S n)(e:∀o,h.get? a=some o->h'.get? a=some o):gD prog w led h' a S n:=by
 obtain⟨o,es,ep,t,ho,r⟩:=x;exact⟨o,es,ep,t,e _ ho,r⟩
theorem gD.congr{led:Bool}{h:aC}{a:aa}{S S':Int->Bool}{n n':Nat}(x:gD prog w led h a S n)(e:∀k,S k=S' k)(en:n=n'):gD prog w led h a S' n':=by
 have:S=S':=funext e;subst this;subst en;exact x
variable{A:bJ}{E:ae->aj->Prop}{s:aj}
theorem JQ{led:Bool}{h:aC}{a:aa}{o:Obj}{es:Array (Int×ae)}{ep:Nat}{t:bV}(ho:h.get? a=some o)(hex:o.ExactSet)(hd:o.data=.set es ep t)
  {es':Array (Int×ae)}{t':bV}{S':Int->Bool}(hel:ElemsOf (intKind prog w) es'.toList)(hmem:∀k,S' k=true↔∃e∈es'.toList,(intKind prog w).is k e.2=true)(hb:es'.size<lH)(hf:t'.fits es'.size=true)(ht:eR led t'):
  (h.update a (vG es' t')).get? a=some {o with data:=.set es' (ep+1) t'}/\gD prog w led (h.update a (vG es' t')) a S' es'.size:=by
 have hg:(h.update a (vG es' t')).get? a=some {o with data:=.set es' (ep+1) t'}:=by
  have:=lQ (vG es' t') ho (by rw[putSet_of es' t' hd]; rfl);rw[putSet_of es' t' hd]at this; exact this
 exact⟨hg,_,es',ep+1,t',hg,hex,rfl,hel,hmem,hb,hf,rfl,ht⟩
theorem Eh{led:Bool}{g:Bool->Sem Unit}(hg:∀(b:Bool)(s₁:aj)(Q':Unit->aj->Prop),Q' () s₁->az (aB prog w) A (g b) Q' E s₁)
  {a:aa}{o:Obj}{es:Array (Int×ae)}{ep:Nat}{t:bV}(ho:s.heap.get? a=some o)(hex:o.ExactSet)(hd:o.data=.set es ep t)
  {es1:Array (Int×ae)}{t2:bV}{S':Int->Bool}(hel1:ElemsOf (intKind prog w) es1.toList)(hmem1:∀k',S' k'=true↔∃e∈es1.toList,(intKind prog w).is k' e.2=true)
  (hb1:es1.size<lH)(hf2:t2.fits es1.size=true)(ht2:eR led t2){wasDummy:Bool}{R:Option Bool->aj->Prop}
  (h:∀h',lP a s.heap h'->gD prog w led h' a S' es1.size->R (some true) {s with heap:=h'}):
  az (aB prog w) A (do
    storeSet a es1 t2
    if(!wasDummy&&t2.tooFull)=true then do
      g (relayAll t2 es1 (qN es1.size)).2.2
      storeSet a (relayAll t2 es1 (qN es1.size)).1 (relayAll t2 es1 (qN es1.size)).2.1
      pure (some true)
     else pure (some true)) R E s:=by
 refine ay (wpAny_storeSet_of ho hd ?_ (fits_of_scanBound hb1));obtain⟨ho1,hS1⟩:=JQ ho hex hd hel1 hmem1 hb1 hf2 ht2;have hsb1:=ou s.heap a (vG es1 t2);split
 ·have hp:=relayAll_perm t2 es1 (qN es1.size);have hfr:=relayAll_fits t2 es1 (qN es1.size);have htr:=Wx ht2 es1 (qN es1.size);generalize hRl:relayAll t2 es1 (qN es1.size)=Rl at hp hfr htr⊢;obtain⟨es2,t3,gave2⟩:=Rl;dsimp only at hp hfr htr⊢;have hel2:ElemsOf (intKind prog w) es2.toList:=hel1.perm hp;have hmem2:∀k',S' k'=true↔∃e∈es2.toList,(intKind prog w).is k' e.2=true:=fun k'=>(hmem1 k').trans ⟨fun⟨e,he,q⟩=>⟨e,hp.mem_iff.mpr he,q⟩,fun⟨e,he,q⟩=>⟨e,hp.mem_iff.mp he,q⟩⟩;have hsz:es2.size=es1.size:=by rw[<-gc,hp.length_eq,gc]
  have hb2:es2.size<lH:=by rw[hsz]; exact hb1
  refine ay (hg _ _ _ ?_);refine ay (wpAny_storeSet_of ho1 rfl ?_ (fits_of_scanBound hb2));obtain⟨_,hS2⟩:=JQ ho1 hex rfl hel2 hmem2 hb2 hfr htr;rw[hsz]at hS2;exact aU (h _ (hsb1.trans (ou _ a _)) hS2)
 ·exact aU (h _ hsb1 hS1)
theorem MA{led:Bool}{a:aa}{S:Int->Bool}{n:Nat}{k:Int}{x:ae}{Q:Bool->aj->Prop}(hkey:(intKind prog w).is k x=true)(hsc:x.scannable=true)(hS:gD prog w led s.heap a S n)
  (hroom:S k=false->n+1<lH)
  (h:∀h',lP a s.heap h'->gD prog w led h' a (fun k'=>S k'||decide (k'=k)) (if S k then n else n+1)->Q (!S k) {s with heap:=h'}):
  az (aB prog w) A (setAddHashed a x ((intKind prog w).hash k)) Q E s:=by
 obtain⟨o,es,ep,t,ho,hex,hd,hel,hmem,hb,hf,hn,ht⟩:=hS;unfold setAddHashed setAddHashedIn;refine sg (ay (qb ho hd hf ?_));dsimp only;rw[byScan_of hsc hb hel];simp only[↓reduceIte];unfold setAddByScan;refine ay ?_;refine ay (uT ?_);refine ay (wpAny_setScan_of hkey ho hd hf hel ?_);cases hr:List.findIdx? (fun e=>(intKind prog w).is k e.2) es.toList with
 |some j=>
  dsimp only;obtain⟨hj,hpj,_⟩:=Dr.mp hr;have hSk:S k=true:=(hmem k).mpr ⟨es.toList[j],yO hj,hpj⟩;refine aU (aU ?_);have e:s={s with heap:=s.heap}:=by cases s; rfl
  have:=h s.heap (lP.refl a s.heap) ⟨o,es,ep,t,ho,hex,hd,hel,fun k'=>by
   rw[qi,decide_eq_true_eq,<-hmem k'];exact⟨fun hk=>hk.elim id (fun e=>e▸hSk),.inl⟩,hb,hf,by rw[hSk]; exact hn,ht⟩
  rw[hSk]at this; rw[e]; exact this
 |none=>
  dsimp only
  have hSk:S k=false:=by
   cases hk:S k with
   |false=>rfl
   |true=>obtain⟨e,he,hp⟩:=(hmem k).mp hk; have:=LP.mp hr e he; rw[hp]at this; exact CU this
  have hb1:es.size+1<lH:=by rw[hn]; exact hroom hSk
  have hgw:∀(b:Bool){s₁:aj}{Q':Unit->aj->Prop},Q' () s₁->az (aB prog w) A (match b with|true=>rule "set.scan.the-table-gave-way"|false=>pure ()) Q' E s₁:=
   fun b s₁ Q' hq=>by cases b<;>first|exact aU hq|exact uT hq
  have hperm:=layNew_perm t es ((intKind prog w).hash k) x;have hfits:=layNew_fits t es ((intKind prog w).hash k) x;have htok:=Wv ht es ((intKind prog w).hash k) x;generalize hL:layNew t es ((intKind prog w).hash k) x=L at hperm hfits htok⊢;obtain⟨es1,t1,wasDummy,gave⟩:=L;dsimp only at hperm hfits htok⊢;rw[Array.toList_push]at hperm;have hel1:ElemsOf (intKind prog w) es1.toList:=(hel.push hkey hsc).perm hperm;have hmem1:∀k',(S k'||decide (k'=k))=true↔∃e∈es1.toList,(intKind prog w).is k' e.2=true:=mem_push_iff hkey hmem hperm;have hb1':es1.size<lH:=by rw[<-gc,hperm.length_eq,bt,gc]; simpa using hb1
  refine ay (hgw _ ?_);have hsz1:es1.size=n+1:=by rw[<-gc,hperm.length_eq,bt,gc,hn]; rfl
  have hend:∀h',lP a s.heap h'->gD prog w led h' a (fun k'=>S k'||decide (k'=k)) es1.size->Q true {s with heap:=h'}:=by
   intro h' hsb hS'; have:=h h' hsb; rw[hSk]at this; rw[hsz1]at hS'; exact this hS'
  split
  ·refine ay ?_;rw[hashByValue_scannable 8 hsc];refine aU ?_;refine Eh (led:=led) ?_ ho hex hd hel1 hmem1 hb1' ?_ ?_ ?_
   ·intro b s₁ Q' hq; cases b<;>first|exact aU hq|exact uT hq
   ·split
    ·exact hfits
    ·exact bV.fits_plain_off hfits
   ·split
    ·exact htok
    ·exact Ww htok _
   ·intro h' hsb hS'; dsimp only; exact aU (hend h' hsb hS')
  ·refine ay (aU ?_);simp only[↓reduceIte];refine Eh ?_ ho hex hd hel1 hmem1 hb1' hfits htok ?_
   ·intro b s₁ Q' hq; cases b<;>first|exact aU hq|exact uT hq
   ·intro h' hsb hS'; dsimp only; exact aU (hend h' hsb hS')
end
theorem FC(val:Nat->Int):∀i,(gH val i).Nodup
 |0=>yT
 |i+1=>by
  rw[Ac];unfold step_dedup;have ih:=FC val i;by_cases h:((gH val i).any (·==val i))=true
  ·simp only[h,if_true];exact ih
  ·rw[if_neg h];refine yS.mpr ⟨ih,by simp,fun a ha b hb=>?_⟩;rw[cD.mp hb];intro e;exact h (ow.mpr ⟨a,ha,by rw[e]; exact beq_self_eq_true _⟩)
theorem tN(val:Nat->Int)(i:Nat)(k:Int):k∈gH val i↔∃j,j<i/\val j=k:=by
 have h:=firstMet_any val i k
 have e:∀l:List Int,l.any (·==k)=true↔k∈l:=fun l=>by
  rw[ow];exact⟨fun⟨x,h1,h2⟩=>by rw[<-eq_of_beq h2]; exact h1,fun h=>⟨k,h,beq_self_eq_true _⟩⟩
 rw[<-e,h,e,bP];exact⟨fun⟨j,h1,h2⟩=>⟨j,lU.mp h1,h2⟩,fun⟨j,h1,h2⟩=>⟨j,lU.mpr h1,h2⟩⟩
theorem Og{val:Nat->Int}{i m:Nat}(h:∀j,j<i->0<=val j/\val j<m):(gH val i).length<=m:=by
 have e:((gH val i).map fM).length=(gH val i).length:=aE _;rw[<-e];refine PM.lC m _ (kQ.mpr (sA ?_ (FC val i))) fun x hx=>?_
 ·intro a b ha hb hab z;obtain⟨j,hj,rfl⟩:=(tN val i a).mp ha;obtain⟨j',hj',rfl⟩:=(tN val i b).mp hb;have:=h j hj;have:=h j' hj';exact hab (by omega)
 ·obtain⟨a,ha,rfl⟩:=bP.mp hx;obtain⟨j,hj,rfl⟩:=(tN val i a).mp ha;have:=h j hj;omega
section
variable{prog:aO}{w:aN}{A:bJ}{R:Result->aj->Prop}{I:aa}{fp wr:List aa}{G:Array GenState->Array GenState->Prop}{n:Nat}{P:Nat->ae->Prop}{St:Nat->aj->Prop}
theorem WD{led:Bool}(W:WalksS prog w A.in1 I fp wr G n P St)(S:aa)(hSf:S∉fp)
  (val:Nat->Int)(hval:∀i v,P i v->∃t,v=.int (val i) t)(hb:∀i,i<=n->(gH val i).length<lH):
  ∀(k i:Nat)(s:aj),n-i=k->i<=n->St i s->
   gD prog w led s.heap S (fun k'=>(gH val i).any (·==k')) (gH val i).length->
   (∀s',Moved (S::wr) G s s'->gD prog w led s'.heap S (fun k'=>(gH val n).any (·==k')) (gH val n).length->R (.ok (.ret .none)) s')->
   gW (aB prog w) A (.builtin "set.update.loop" ⟨[.ref S,.ref I],[]⟩) R s:=by
 have hSw:S∉wr:=fun h=>hSf (W.sub _ h);have hsub:∀b∈wr,b∈S::wr:=fun b hb=>bU _ hb;intro k
 induction k with
 |zero=>
  intro i s hk hi hst hS hR;have hin:i=n:=by omega
  subst hin;refine pj LH ?_;rw[qg Dg _];show az _ A.in1 (jO (.ref I)>>=_) _ _ s;refine ay (W.done s _ _ hst fun s' hm=>?_);show az _ A.in1 (ret iG) _ _ s';exact aU (hR s' (hm.mono hsub) (hS.at fun o ho=>hm.heap S _ hSw ho))
 |succ k ih=>
  intro i s hk hi hst hS hR;have hlt:i<n:=by omega
  refine pj LH ?_;rw[qg Dg _];show az _ A.in1 (jO (.ref I)>>=_) _ _ s;refine ay (W.item i s _ _ hlt hst fun v s' hP hst' hm=>?_);obtain⟨t,rfl⟩:=hval i v hP;have hS':gD prog w led s'.heap S (fun k'=>(gH val i).any (·==k')) (gH val i).length:=hS.at fun o ho=>hm.heap S _ hSw ho;show az _ A.in1 (holding [km (val i) t] (setAdd S (.int (val i) t))>>=_) _ _ s';refine ay (sg ?_);unfold setAdd;refine sg ?_;refine ay ((intKind prog w).pyHash (k:=val i) (intKind_is _ _ _ _) ?_)
  have hroom:(gH val i).any (·==val i)=false->(gH val i).length+1<lH:=fun z=>by
   have:=hb (i+1) hlt;rw[Ac,step_length,if_neg (by rw[z]; decide)]at this;exact this
  refine MA (s:={s' with toks:=s'.toks+1}) (k:=val i) (intKind_is _ _ _ _) rfl hS' hroom fun h' hsb hS2=>?_
  have hSi:gD prog w led h' S (fun k'=>(gH val (i+1)).any (·==k')) (gH val (i+1)).length:=
   hS2.congr (fun k'=>by rw[Ac,step_any]) (by rw[Ac,step_length])
  refine aU ⟨pR Dg _,ih (i+1) _ (by omega) hlt (W.frame _ s' _ _ hst' (sN _) fun b hb o e=>?_) hSi fun s'' hm'' hS''=>?_⟩
  ·rw[hsb.2 b (fun h:b=S=>hSf (by rw[<-h]; exact hb))]; exact e
  ·refine hR s'' (Moved.trans W.gtrans ((hm.mono hsub).then_heap (sN _) fun b o hb e=>?_) hm'') hS'';rw[hsb.2 b (fun h:b=S=>hb (by rw[h]; exact dD))]; exact e
end
section
variable{prog:aO}{w:aN}{A:bJ}{E:ae->aj->Prop}{s:aj}
abbrev nI(w:aN):Bool:=!w.params.followText "set-order"
theorem PY(a:ae){Q₁:ae->aj->Prop}
  (h:Q₁ (.ref s.heap.objs.size) {s with heap:=s.heap.push {cls:=.type "set",dict:=none,data:=.set #[] 0 (.fresh 0 0 (nI w))}}):
  gW (aB prog w) A (.call (.builtin "set.__new__") ⟨[.type "set",a],[]⟩) (wants Q₁ E) s:=by
 refine codeAny_of_tree ?_;show az _ A.in1 (do checkBuiltinCall "set.__new__" ⟨[.type "set",a],[]⟩; again (.builtin "set.__new__" ⟨[.type "set",a],[]⟩)) _ _ s;refine ay (pZ (F.newCall_set_1 a) (aU ⟨pR F.plain_set_new _,pj F.entry_set_new ?_⟩));rw[qg F.plain_set_new _];unfold Builtin.«set.__new__» Builtin.Frozenset.newClass;have hsub:=sub_set_self;obtain⟨hp,g,d,tk,os⟩:=s;dsimp only
 wp_walk
 refine uS (aU ?_);dsimp only;simp only[newObj];refine ay (wpAny_alloc (aU ?_));exact aU h
theorem Nb{l:aa}{items:Array ae}{ns:List Int}{Q:ae->aj->Prop}
  (hh:A.handled=none)(hl:s.heap.IsList l items)(hi:Mm items.toList ns)(hb:∀i,i<=items.size->(gH (fun i=>ns.getD i 0) i).length<lH)
  (h:∀(h':aC)(tk:Nat),gD prog w (nI w) h' s.heap.objs.size (fun k'=>(zh (fun i=>ns.getD i 0) items.size).any (·==k')) (zh (fun i=>ns.getD i 0) items.size).length->
   (∀b o,b<s.heap.objs.size->s.heap.get? b=some o->h'.get? b=some o)->Q (.ref s.heap.objs.size) {s with heap:=h',toks:=tk}):
  az (aB prog w) A (call (.type "set") [.ref l]) Q E s:=by
 obtain⟨c,tl,hmro⟩:=ot.mro;have hmade:=ot.made;have hsub:=ot.sub;refine yh (codeAny_of_tree ?_);show az _ _ (callAny (.type "set") _) _ _ _;refine aU ⟨Code.quiet_builtin _ (by decide +kernel),pj F.entry_type_call ?_⟩;rw[bJ.under_plain (weight_type_call_type "set" [.ref l] []) rfl];have h1:=ot.notType;have h2:=ot.canCreate;have hct:=F.typeCall_set_1 (.ref l)
 repeat (any_goals (first|assumption|wp_step))
 refine qZ (PY (.ref l) (E:=E) (Q₁:=fun obj s₁=>obj=.ref s.heap.objs.size/\s₁={s with heap:=s.heap.push {cls:=.type "set",dict:=none,data:=.set #[] 0 (.fresh 0 0 (nI w))}}) ⟨rfl,rfl⟩) fun r s₁ hr=>?_;cases r with
 |error e=>exact hr
 |ok fl=>
  cases fl with
  |ret obj=>
   obtain⟨rfl,rfl⟩:=hr;generalize hled:nI w=led at*;have hS:(s.heap.push {cls:=.type "set",dict:=none,data:=.set #[] 0 (.fresh 0 0 led)}).get? s.heap.objs.size=some {cls:=.type "set",dict:=none,data:=.set #[] 0 (.fresh 0 0 led)}:=dz _ rfl;have hT:aj.TypeIs {s with heap:=s.heap.push {cls:=.type "set",dict:=none,data:=.set #[] 0 (.fresh 0 0 led)}} (.ref s.heap.objs.size) "set":=⟨_,hS,rfl⟩;have hli:=ot.init.lookup;have hbi:=ot.init.bind (.ref s.heap.objs.size)
   repeat (any_goals (first|assumption|wp_step))
   refine qZ (codeAny_call_builtin (R:=wants (fun r s₂=>r=.none/\∃h' tk,s₂={s with heap:=h',toks:=tk}/\
     gD prog w led h' s.heap.objs.size (fun k'=>(zh (fun i=>ns.getD i 0) items.size).any (·==k')) (zh (fun i=>ns.getD i 0) items.size).length/\
     (∀b o,b<s.heap.objs.size->s.heap.get? b=some o->h'.get? b=some o)) E) ot.init.plain F.entry_set_init (check_set_init_1 hT ?_)) fun r₂ s₂ hr₂=>?_
   ·obtain⟨ol,hol,hcl,nl,hdl⟩:=hl;obtain⟨ocls,odict,odata,oslots⟩:=ol;simp only at hcl hdl;subst hcl; subst hdl;have hol':(s.heap.push {cls:=.type "set",dict:=none,data:=.set #[] 0 (.fresh 0 0 led)}).get? l=some {cls:=.type "list",dict:=odict,data:=.seq items nl,slots:=oslots}:=bS _ hol;have hsls:=F.sub_list_set;have hslf:=F.sub_list_frozenset;have hne:(nr "list"==nr "dict")=false:=by decide
    have hl1:(s.heap.push {cls:=.type "set",dict:=none,data:=.set #[] 0 (.fresh 0 0 led)}).IsList l items:=⟨_,hol',rfl,nl,rfl⟩;unfold Builtin.«set.__init__» noKeywords Builtin.Frozenset.updateFrom;generalize hPI:pyIter=PI
    wp_walk
    subst hPI;refine Lu hl1 ?_;refine ay (Lv ?_);have hlS:l<s.heap.objs.size:=bO hol;have hh3:A.in1.in1.in1.handled=none:=by simp[hh]
    have hneI:l≠(s.heap.push {cls:=.type "set",dict:=none,data:=.set #[] 0 (.fresh 0 0 led)}).objs.size:=by
     rw[fL]; exact cJ (mY hlS)
    have hSf:s.heap.objs.size∉ [(s.heap.push {cls:=.type "set",dict:=none,data:=.set #[] 0 (.fresh 0 0 led)}).objs.size,l]:=by
     rw[fL]; simp only[bg,cD,iX,or_false,not_or];exact⟨cJ (vz _),qC hlS⟩
    have hval:∀(i:Nat)(v:ae),items[i]?=some v->∃t,v=.int ((fun i=>ns.getD i 0) i) t:=fun i v hv=>
     Mm.int_at hi i v (by rw[ir]; exact hv)
    refine WD (led:=led) ((Walks.list hh3 _ l hneI items).toS) s.heap.objs.size
     hSf (fun i=>ns.getD i 0) hval hb (items.size-0) 0 _ (by omega) (bC _)
     ⟨⟨_,dz _ rfl,rfl,rfl⟩,(hl1.push _)⟩ ?hS0 ?hR
    case hS0=>
     have hget:((s.heap.push {cls:=.type "set",dict:=none,data:=.set #[] 0 (.fresh 0 0 led)}).push {cls:=.type "list_iterator",data:=.fields #[.ref l,.int 0 0]}).get? s.heap.objs.size
       =some {cls:=.type "set",dict:=none,data:=.set #[] 0 (.fresh 0 0 led)}:=bS _ hS
     exact⟨_,#[],0,_,hget,⟨rfl,rfl,rfl⟩,rfl,fun e he=>by simp at he,fun k=>by simp[firstMet_zero],by decide,by rfl,rfl,Wt led⟩
    case hR=>
     intro s' hm hS';obtain⟨h',g',d',tk',os'⟩:=s';have eg:g'=s.gens:=hm.gens;have ed:d'=s.drawn:=hm.drawn;have eo:os'=s.os:=hm.os;subst eg; subst ed; subst eo;show az _ _ _ _ _ _;refine aU ?_;show az _ _ (ret iG) _ _ _;refine aU ⟨rfl,h',tk',rfl,hS',fun b o hb e=>?_⟩;have hb1:b≠s.heap.objs.size:=cJ hb
     have hb2:b≠(s.heap.push {cls:=.type "set",dict:=none,data:=.set #[] 0 (.fresh 0 0 led)}).objs.size:=by
      rw[fL]; exact cJ (mY hb)
     exact hm.heap b o (by simp only[bg,cD,iX,or_false,not_or]; exact⟨hb1,hb2⟩) (bS _ (bS _ e))
   ·cases r₂ with
    |error e=>exact hr₂
    |ok fl₂=>
     cases fl₂ with
     |ret r=>
      obtain⟨rfl,h',tk,rfl,hS',hk'⟩:=hr₂
      repeat (any_goals (first|assumption|wp_step))
      exact h _ _ hS' hk'
     |_=>exact hr₂.elim
  |_=>exact hr.elim
end
theorem Hu:Manifest.owners.lookup (String.ofList ['r','o','t','a','r','e','t','i','_','t','e','s'].reverse)=some Manifest.sig_set_iterator:=by kernel_rfl
theorem kB:Slot "set_iterator" "__next__" "set_iterator.__next__":=
 .of (owner:="set_iterator") (n:="__next__") (by rw[typeLookup_type,MX]; kernel_rfl) (by decide +kernel) (by decide +kernel) (by decide +kernel)
  (by first|exact .inl (by decide +kernel)|exact .inr (by decide +kernel)) (by rw[Gb]; kernel_rfl)
theorem wH:entryFor table "set_iterator.__next__"=some Builtin.«set_iterator.__next__» :=entryFor_of_tree (by kernel_rfl)
theorem we(a:ae):argsOk "set_iterator.__next__" ⟨[a],[]⟩:=by
 unfold argsOk; rw[signature?_of (id:="set_iterator.__next__") (n:=['_','_','t','x','e','n','_','_']) (o:=['r','o','t','a','r','e','t','i','_','t','e','s']) (by kernel_rfl) Hu]; kernel_rfl
theorem Kc:Slot "set_iterator" "__iter__" "set_iterator.__iter__":=
 .of (owner:="set_iterator") (n:="__iter__") (by rw[typeLookup_type,MX]; kernel_rfl) (by decide +kernel) (by decide +kernel) (by decide +kernel)
  (by first|exact .inl (by decide +kernel)|exact .inr (by decide +kernel)) (by rw[Gb]; kernel_rfl)
theorem MF(a:ae):argsOk "set_iterator.__iter__" ⟨[a],[]⟩:=by
 unfold argsOk; rw[signature?_of (id:="set_iterator.__iter__") (n:=['_','_','r','e','t','i','_','_']) (o:=['r','o','t','a','r','e','t','i','_','t','e','s']) (by kernel_rfl) Hu]; kernel_rfl
theorem NZ:entryFor table "set_iterator.__iter__"=some Builtin.«dict_keyiterator.__iter__» :=
 entryFor_alias (id':="dict_keyiterator.__iter__") (by kernel_rfl) (by first|rfl|decide +kernel|(unfold String.splitOn; simp+decide [String.splitOnAux])) (by decide +kernel) (by kernel_rfl)
theorem NY:entryFor table "set.__iter__"=some Builtin.«frozenset.__iter__» :=
 entryFor_alias (id':="frozenset.__iter__") (by kernel_rfl) (by first|rfl|decide +kernel|(unfold String.splitOn; simp+decide [String.splitOnAux])) (by decide +kernel) (by kernel_rfl)
theorem zZ{α:Type}:∀{l:List α}{i:Nat}(h:i<l.length),(l[i]::l.eraseIdx i).Perm l
 |a::t,0,h=>.refl _
 |a::t,i+1,h=>by
  have h':i<t.length:=by simpa using h
  show(t[i]::a::t.eraseIdx i).Perm (a::t);exact(List.Perm.swap _ _ _).trans (List.Perm.cons _ (zZ h'))
theorem HJ{α:Type}(next:Nat->Nat):∀(fuel k:Nat)(left:List α)(out:Array α),left.length<=fuel->(pQ.go next fuel k left out).toList.Perm (out.toList++left)
 |0,k,left,out,h=>by
  have:left=[]:=mV.mp (by omega);subst this;unfold pQ.go;rw[cC]
 |fuel+1,k,left,out,h=>by
  unfold pQ.go;cases e:left[next k%left.length]? with
  |none=>
   dsimp only
   have:left=[]:=by
    cases left with
    |nil=>rfl
    |cons a t=>
     rw[bL (Nat.mod_lt _ (by simp))]at e;cases e
   rw[this,cC]
  |some x=>
   dsimp only;obtain⟨hi,ex⟩:=aK.mp e;refine(HJ next fuel (k+1) _ _ (by rw[Du hi]; omega)).trans ?_;rw[Array.toList_push,dk];refine List.Perm.append_left _ ?_;rw[<-ex];exact zZ hi
theorem Sk{α:Type}(next:Nat->Nat)(xs:Array α):(pQ next xs).toList.Perm xs.toList:=by
 have:=HJ next xs.size 0 xs.toList #[] (by simp)
 exact this
section
variable{prog:aO}{w:aN}{A:bJ}{E:ae->aj->Prop}{s:aj}
theorem Nk{src:Source}{n:Nat}{Q:Nat->aj->Prop}(hn:n≠0)(h:∀k d,k<n->Q k {s with drawn:=d}):az (aB prog w) A (choose src n) Q E s:=by
 intro Γ p _;unfold choose;rw[Sem.wp_choose];exact⟨hn,h _ _ (Nat.mod_lt _ (by omega))⟩
theorem Fq{α:Type}:∀(n:Nat)(xs:List α)(s:aj)(Q:List α->aj->Prop),xs.length<=n->(∀ys d,ys.Perm xs->Q ys {s with drawn:=d})->az (aB prog w) A (drawOrder n xs) Q E s
 |0,xs,s,Q,hl,h=>by
  have:xs=[]:=mV.mp (by omega);subst this;exact aU (h [] s.drawn .nil)
 |n+1,[],s,Q,hl,h=>by
  exact aU (h [] s.drawn .nil)
 |n+1,x::xs,s,Q,hl,h=>by
  unfold drawOrder;refine ay (Nk (by simp) fun k d hk=>?_);rw[bL hk];dsimp only;refine ay (Fq n _ _ _ (by rw[Du hk]; simp at hl⊢; omega) fun ys d' hp=>?_);exact aU (h _ d' ((List.Perm.cons _ hp).trans (zZ hk)))
def gj(h:aC)(I a:aa)(first:ae)(i n ep:Nat):Prop:=∃o,h.get? I=some o/\o.cls=.type "set_iterator"/\o.data=.fields #[first,cb (i:Int),.ref a,cb (n:Int),cb (ep:Int)]
theorem gj.typeIs{I a:aa}{f:ae}{i n ep:Nat}(x:gj s.heap I a f i n ep):s.TypeIs (.ref I) "set_iterator":=let⟨o,ho,hc,_⟩:=x; ⟨o,ho,hc⟩
theorem gj.at{h h':aC}{I a:aa}{f:ae}{i n ep:Nat}(x:gj h I a f i n ep)(e:∀o,h.get? I=some o->h'.get? I=some o):gj h' I a f i n ep:=let⟨o,ho,r⟩:=x; ⟨o,e _ ho,r⟩
structure gk(h:aC)(a:aa)(es:Array (Int×ae))(ep:Nat)(t:bV):Prop where
 ex:∃o,h.get? a=some o/\o.ExactSet/\o.data=.set es ep t
 fits:t.fits es.size=true
theorem gk.at{h h':aC}{a:aa}{es:Array (Int×ae)}{ep:Nat}{t:bV}(x:gk h a es ep t)(e:∀o,h.get? a=some o->h'.get? a=some o):gk h' a es ep t:=by
 obtain⟨⟨o,ho,r⟩,f⟩:=x;exact⟨⟨o,e _ ho,r⟩,f⟩
def qE(prog:aO)(w:aN)(a:aa)(es:Array (Int×ae))(ep:Nat)(t:bV)(sl:Nat->Nat)(ord:List ae):Prop:=
 ∀(A:bJ)(E:ae->aj->Prop)(s:aj)(i:Nat)(Q:Option (ae×Nat)->aj->Prop),i<=ord.length->gk s.heap a es ep t->Q ((ord[i]?).map fun x=>(x,sl (i+1))) s->az (aB prog w) A (setNext a (sl i) i ep) Q E s
theorem Qi{I a:aa}{sl:Nat->Nat}{ord:List ae}{es:Array (Int×ae)}{ep i:Nat}{t:bV}{x:ae}{Q:Option ae->aj->Prop}(N:qE prog w a es ep t sl ord)(hn:ord.length=es.size)(hIa:a≠I)
  (hit:gj s.heap I a (cb (sl i:Int)) i es.size ep)(hs:gk s.heap a es ep t)(hx:ord[i]?=some x)
  (hQ:∀h',gj h' I a (cb (sl (i+1):Int)) (i+1) es.size ep->lP I s.heap h'->Q (some x) {s with heap:=h'}):az (aB prog w) A (jO (.ref I)) Q E s:=by
 obtain⟨o,ho,hc,hd⟩:=id hit;obtain⟨⟨oS,hoS,hex,hdS⟩,hf⟩:=id hs;unfold jO
 refine ay (CL (CM (name:=kX "__next__") hit.typeIs kB
  (rZ kB hit.typeIs wH ?_ (we _))))
 unfold Builtin.«set_iterator.__next__»;refine ay (pZ (a:=(cK I,[])) rfl ?_);dsimp only;refine ay (CO ho hd ?_);dsimp only[cb];refine ay (yj hoS hdS hf ?_);have hne:(((es.size:Int)) != (es.size:Int))=false:=by simp
 rw[hne];simp only[aV,if_false,fm];have hil:i<ord.length:=(aK.mp hx).1;refine ay (N _ _ _ i _ (by omega) hs ?_);rw[hx];simp only[kT];refine ay (qa ho hd (by simp) ?_);have ho1:=lQ (vF fun v=>v.setIfInBounds 0 (cb (sl (i+1):Int))) ho (vE (ke hd _));refine ay (qa ho1 (ke hd _) (by simp) ?_);refine aU ⟨x,rfl,aU (hQ _ ?_ ((ou ..).trans (ou ..)))⟩;refine⟨_,lQ _ ho1 (vE (ke (ke hd _) _)),(DF ..).trans ((DF ..).trans hc),?_⟩;rw[ke (ke hd _)];simp[cb]
theorem Qh{I a:aa}{sl:Nat->Nat}{ord:List ae}{es:Array (Int×ae)}{ep:Nat}{t:bV}{Q:Option ae->aj->Prop}(hh:A.handled=none)(N:qE prog w a es ep t sl ord)(hn:ord.length=es.size)
  (hit:gj s.heap I a (cb (sl ord.length:Int)) ord.length es.size ep)(hs:gk s.heap a es ep t)
  (hQ:∀h',aC.ExtBut I s.heap h'->Q none {s with heap:=h'}):az (aB prog w) A (jO (.ref I)) Q E s:=by
 obtain⟨o,ho,hc,hd⟩:=id hit;obtain⟨⟨oS,hoS,hex,hdS⟩,hf⟩:=id hs;unfold jO
 refine ay (CL (CM (name:=kX "__next__") hit.typeIs kB
  (rZ kB hit.typeIs wH ?_ (we _))))
 unfold Builtin.«set_iterator.__next__»;refine ay (pZ (a:=(cK I,[])) rfl ?_);dsimp only;refine ay (CO ho hd ?_);dsimp only[cb];refine ay (yj hoS hdS hf ?_);have hne:(((es.size:Int)) != (es.size:Int))=false:=by simp
 rw[hne];simp only[aV,if_false,fm];refine ay (N _ _ _ ord.length _ (aF _) hs ?_);rw[gT (aF _)];simp only[Option.map_none];refine ay (qa ho hd (by simp) ?_);refine ay ?_;simp only[newExc,newTuple];refine ay (mM ?_ (by size_fits));refine ay (m:=Ab _ _) (pZ (a:=iG) (by first|rfl|(simp only[Ab]; rfl)) ?_);refine mM ?_ (by size_fits);simp only[raiseNew];refine ay (wpAny_handled ?_)
 first|rw[show A.in1.handled=none from hh]|rw[hh]
 refine ay (aU (wpAny_throw ?_));refine ay (Lq (T:="StopIteration") (b:=true) ⟨_,dz _ rfl,rfl⟩ isSubtype_stop ?_);exact aU (hQ _ (((ou ..).extBut.push _).push _))
def TupAt(h:aC)(tu:aa)(pl:List Nat):Prop:=∃o,h.get? tu=some o/\o.data=.seq (pl.map fun(i:Nat)=>cb (i:Int)).toArray 0
theorem TupAt.at{h h':aC}{tu:aa}{pl:List Nat}(x:TupAt h tu pl)(e:∀o,h.get? tu=some o->h'.get? tu=some o):TupAt h' tu pl:=let⟨o,ho,r⟩:=x; ⟨o,e _ ho,r⟩
theorem NP{I a tu:aa}{pl:List Nat}{es:Array (Int×ae)}{ep i p:Nat}{t:bV}{x:Int×ae}{Q:Option ae->aj->Prop}
  (hit:gj s.heap I a (.ref tu) i es.size ep)(hs:gk s.heap a es ep t)(htu:TupAt s.heap tu pl)(hp:pl[i]?=some p)(hx:es[p]?=some x)
  (hQ:∀h',gj h' I a (.ref tu) (i+1) es.size ep->lP I s.heap h'->Q (some x.2) {s with heap:=h'}):az (aB prog w) A (jO (.ref I)) Q E s:=by
 obtain⟨o,ho,hc,hd⟩:=id hit;obtain⟨⟨oS,hoS,hex,hdS⟩,hf⟩:=id hs;obtain⟨oT,hoT,hdT⟩:=id htu;unfold jO
 refine ay (CL (CM (name:=kX "__next__") hit.typeIs kB
  (rZ kB hit.typeIs wH ?_ (we _))))
 unfold Builtin.«set_iterator.__next__»;refine ay (pZ (a:=(cK I,[])) rfl ?_);dsimp only;refine ay (CO ho hd ?_);dsimp only[cb];refine ay (yj hoS hdS hf ?_);have hne:(((es.size:Int)) != (es.size:Int))=false:=by simp
 rw[hne];simp only[aV,if_false,fm];refine ay (wpAny_seqItems hoT hdT ?_);dsimp only;rw[show((pl.map fun(i:Nat)=>cb (i:Int)).toArray)[i]?=some (cb (p:Int)) by rw[LR,cH,hp]; rfl];dsimp only[cb];unfold setNextDrawn;refine ay (ay (qb hoS hdS hf ?_));dsimp only;rw[if_neg (by simp)];simp only[fm];refine ay (aU ?_);rw[hx];obtain⟨xh,xv⟩:=x;refine aU ?_;refine ay (qa ho hd (by simp) ?_);refine aU ⟨xv,rfl,aU (hQ _ ?_ (ou ..))⟩;refine⟨_,lQ _ ho (vE (ke hd _)),(DF ..).trans hc,?_⟩;rw[ke hd];simp[cb]
theorem NO{I a tu:aa}{pl:List Nat}{es:Array (Int×ae)}{ep:Nat}{t:bV}{Q:Option ae->aj->Prop}(hh:A.handled=none)
  (hit:gj s.heap I a (.ref tu) pl.length es.size ep)(hs:gk s.heap a es ep t)(htu:TupAt s.heap tu pl)
  (hQ:∀h',aC.ExtBut I s.heap h'->Q none {s with heap:=h'}):az (aB prog w) A (jO (.ref I)) Q E s:=by
 obtain⟨o,ho,hc,hd⟩:=id hit;obtain⟨⟨oS,hoS,hex,hdS⟩,hf⟩:=id hs;obtain⟨oT,hoT,hdT⟩:=id htu;unfold jO
 refine ay (CL (CM (name:=kX "__next__") hit.typeIs kB
  (rZ kB hit.typeIs wH ?_ (we _))))
 unfold Builtin.«set_iterator.__next__»;refine ay (pZ (a:=(cK I,[])) rfl ?_);dsimp only;refine ay (CO ho hd ?_);dsimp only[cb];refine ay (yj hoS hdS hf ?_);have hne:(((es.size:Int)) != (es.size:Int))=false:=by simp
 rw[hne];simp only[aV,if_false,fm];refine ay (wpAny_seqItems hoT hdT ?_);dsimp only;rw[show((pl.map fun(i:Nat)=>cb (i:Int)).toArray)[pl.length]?=none by rw[LR,cH,gT (aF _)]; rfl];dsimp only;refine ay (qa ho hd (by simp) ?_);have ho1:=lQ (vF fun v=>v.setIfInBounds 0 (cb 0)) ho (vE (ke hd _));refine ay (qa ho1 (ke hd _) (by simp) ?_);refine ay ?_;simp only[newExc,newTuple];refine ay (mM ?_ (by size_fits));refine ay (m:=Ab _ _) (pZ (a:=iG) (by first|rfl|(simp only[Ab]; rfl)) ?_);refine mM ?_ (by size_fits);simp only[raiseNew];refine ay (wpAny_handled ?_)
 first|rw[show A.in1.handled=none from hh]|rw[hh]
 refine ay (aU (wpAny_throw ?_));refine ay (Lq (T:="StopIteration") (b:=true) ⟨_,dz _ rfl,rfl⟩ isSubtype_stop ?_);exact aU (hQ _ (((((ou ..).trans (ou ..)).extBut).push _).push _))
theorem JU{I a:aa}{f:ae}{i n ep:Nat}{Q:ae->aj->Prop}(hit:gj s.heap I a f i n ep)(h:Q (.ref I) s):az (aB prog w) A (pyIter (.ref I)) Q E s:=by
 refine wpAny_pyIter_slot hit.typeIs Kc (rZ Kc hit.typeIs NZ ?_ (MF _));show az _ _ (ret (.ref I)) _ _ s;exact aU ⟨_,rfl,"set_iterator",_,hit.typeIs,kB.lookup,h⟩
end
section
variable{prog:aO}{w:aN}
theorem Ql{a:aa}{es:Array (Int×ae)}{ep:Nat}{t:bV}(hb:w.params.followText "set-order"=true):
  qE prog w a es ep t (fun _=>0) ((pQ (w.params.setOrder a ep) es).toList.map (·.2)):=by
 intro A E s i Q hi hs h;obtain⟨⟨oS,hoS,hex,hdS⟩,hf⟩:=id hs;unfold setNext;refine ay (qb hoS hdS hf ?_);dsimp only;unfold setsByText;refine ay (ay (uS (aU ?_)));show az _ _ (if w.params.followText "set-order"=true then _ else _) _ _ _;rw[if_pos hb];rw[if_neg (by simp)];unfold setWalk setsByText;refine ay (ay (qb hoS hdS hf ?_));dsimp only;refine ay (ay (uS (aU ?_)));show az _ _ (if w.params.followText "set-order"=true then _ else _) _ _ _;rw[if_pos hb];refine ay (uS (aU (aU ?_)))
 have e:(((pQ (w.params.setOrder a ep) es).toList.map (·.2))[i]?).map (fun x=>(x,0))=((pQ (w.params.setOrder a ep) es)[i]?).map fun e=>(e.2,0):=by
  rw[cH,ir,Option.map_map];rfl
 show Q (((pQ (w.params.setOrder a ep) es)[i]?).map fun e=>(e.2,0)) s;rw[<-e];exact h
def pX(t:bV):Nat->Nat
 |0=>0
 |i+1=>t.place.getD i 0+1
theorem MK{t:bV}{i:Nat}(hr:nq t.place)(hi:i<=t.place.size):iD t.place (pX t i)=i:=by
 have hb:=Ew hr (pX t i);generalize iD t.place (pX t i)=k at hb;cases i with
 |zero=>
  by_cases hk:0<k
  ·have hlt:0<t.place.size:=by have:=hb.le; omega
   have:=hb.lo 0 _ hk (iQ hlt);simp[pX]at this
  ·omega
 |succ i=>
  have hg:t.place[i]?=some t.place[i]:=iQ (by omega)
  have hsl:pX t (i+1)=t.place[i]+1:=by
   show t.place.getD i 0+1=_;rw[nZ,hg];rfl
  rw[hsl]at hb
  have h1:i<k:=by
   by_cases q:i<k
   ·exact q
   ·have:=hb.hi i _ (by omega) hg;omega
  by_cases h2:i+1<k
  ·have hlt:i+1<t.place.size:=by have:=hb.le; omega
   have hg2:t.place[i+1]?=some t.place[i+1]:=iQ hlt;have:=hb.lo (i+1) _ h2 hg2;have:=hr i (i+1) _ _ (by omega) hg hg2;omega
  ·omega
theorem Qj{a:aa}{es:Array (Int×ae)}{ep:Nat}{t:bV}(hb:w.params.followText "set-order"=false)(ht:eR true t)(hd:(!t.plain&&decide (es.size>1))=false)(hf0:t.fits es.size=true):
  qE prog w a es ep t (pX t) (es.toList.map (·.2)):=by
 intro A E s i Q hi hs h;obtain⟨⟨oS,hoS,hex,hdS⟩,hf⟩:=id hs
 have hsz:t.place.size=es.size:=by
  simp only[bV.fits,cA,beq_iff_eq]at hf0;exact hf0.1
 rw[aE,gc]at hi;unfold setNext;refine ay (qb hoS hdS hf ?_);dsimp only;unfold setsByText;refine ay (ay (uS (aU ?_)));show az _ _ (if w.params.followText "set-order"=true then _ else _) _ _ _;rw[if_neg (by rw[hb]; decide)];refine ay (aU ?_);show az _ _ (if(!t.plain&&decide (es.size>1))=true then _ else _) _ _ _;rw[if_neg (by rw[hd]; decide)];refine ay ?_;show az _ _ (if(!t.led&&!es.isEmpty)=true then _ else pure ()) _ _ _;rw[if_neg (by rw[ht.led]; simp)];refine aU ?_;rw[MK ht.rise (by omega)];refine aU ?_;by_cases hlt:i<es.size
 ·have h1:es[i]?=some es[i]:=iQ hlt;have h2:t.place[i]?=some t.place[i]:=iQ (by omega);rw[cH,ir,h1]at h;rw[h1,h2]
  have e:pX t (i+1)=t.place[i]+1:=by
   show t.place.getD i 0+1=_;rw[nZ,h2];rfl
  simp only[kT,e]at h;exact h
 ·have h1:es[i]?=none:=yn (by omega);rw[cH,ir,h1]at h;rw[h1];exact h
variable{A:bJ}{E:ae->aj->Prop}{s:aj}
def mv(f:ae)(a:aa)(n ep:Nat):Obj:={cls:=.type "set_iterator",data:=.fields #[f,cb 0,.ref a,cb (n:Int),cb (ep:Int)]}
theorem OB{a:aa}{es:Array (Int×ae)}{ep:Nat}{t:bV}{Q:ae->aj->Prop}(hs:gk s.heap a es ep t)(hz:es.size<=aY)
  (h1:(w.params.followText "set-order"=true\/(!t.plain&&decide (es.size>1))=false)->Q (.ref s.heap.objs.size) {s with heap:=s.heap.push (mv (cb 0) a es.size ep)})
  (h2:∀(pl:List Nat) d,pl.Perm (dU es.size)->Q (.ref (s.heap.objs.size+1)) {s with heap:=(s.heap.push {cls:=.type "tuple",data:=.seq (pl.map fun(i:Nat)=>cb (i:Int)).toArray 0}).push (mv (.ref s.heap.objs.size) a es.size ep),drawn:=d}):
  az (aB prog w) A (pyIter (.ref a)) Q E s:=by
 obtain⟨⟨oS,hoS,hex,hdS⟩,hf⟩:=id hs;have hT:s.TypeIs (.ref a) "set":=⟨oS,hoS,hex.1⟩;refine wpAny_pyIter_slot hT F.slot_set_iter (rZ F.slot_set_iter hT NY ?_ (F.args_set_iter_1 _));unfold Builtin.«frozenset.__iter__»;refine ay (pZ (a:=a) rfl ?_);unfold Builtin.Frozenset.sizeOf;refine ay (ay (yj hoS hdS hf (aU ?_)));unfold setDrawn setsByText;refine ay (ay (qb hoS hdS hf ?_));dsimp only;refine ay (ay (uS (aU (aU ?_))));show az _ _ (if(!w.params.followText "set-order"&&(!t.plain&&decide (es.size>1)))=true then _ else _) _ _ _;by_cases hd:(!w.params.followText "set-order"&&(!t.plain&&decide (es.size>1)))=true
 ·rw[if_pos hd];refine ay (Fq es.size (dU es.size) _ _ (by rw[iW]; exact aF _) fun pl d hp=>?_);refine ay (wpAny_newTuple ?_ (by rw[aE,hp.length_eq,iW]; exact hz));have hoS2:(s.heap.push {cls:=.type "tuple",data:=.seq (pl.map fun(i:Nat)=>cb (i:Int)).toArray}).get? a=some oS:=bS _ hoS;unfold setEpoch;refine ay (ay (qb hoS2 hdS hf (aU ?_)));refine ay (mM (aU ⟨_,rfl,"set_iterator",_,⟨_,dz _ rfl,rfl⟩,kB.lookup,?_⟩));have:=h2 pl d hp;rw[<-fL s.heap {cls:=.type "tuple",data:=.seq (pl.map fun(i:Nat)=>cb (i:Int)).toArray 0}]at this;exact this
 ·rw[if_neg hd];unfold setEpoch;refine ay (aU ?_);refine ay (ay (qb hoS hdS hf (aU ?_)));refine ay (mM (aU ⟨_,rfl,"set_iterator",_,⟨_,dz _ rfl,rfl⟩,kB.lookup,?_⟩));refine h1 ?_;cases hx:w.params.followText "set-order" with
  |true=>exact .inl rfl
  |false=>
   refine .inr ?_;rw[hx]at hd;simpa using hd
theorem FP{a:aa}{Q:Bool->aj->Prop}(hT:s.TypeIs (.ref a) "set")(h:Q false s):az (aB prog w) A (Builtin.List.listLengthHint (.ref a)) Q E s:=by
 unfold Builtin.List.listLengthHint;refine ay (wpAny_specialOf hT F.slot_set_len.lookup ?_);generalize hid:("set.__len__":String)=id0
 wp_delta
 rw[show splitId id0=some ("set","__len__")from by subst hid; decide +kernel];subst hid;refine ay (Lq (T:="set") (b:=true) hT (by rw[Gb]; kernel_rfl) ?_);refine CP (fun hab=>absurd hab (by decide)) (fun _=>?_);refine CP (fun _=>?_) (fun hab=>absurd (by decide +kernel) hab);refine ay (wpAny_typeOf hT ?_);exact aU h
end
section
variable{prog:aO}{w:aN}{A:bJ}{E:ae->aj->Prop}{s:aj}
theorem WL{I a:aa}{sl:Nat->Nat}{ord:List ae}{es:Array (Int×ae)}{ep:Nat}{t:bV}(hh:A.handled=none)(N:qE prog w a es ep t sl ord)(hn:ord.length=es.size)(hIa:a≠I):
  Walks prog w A I [I,a] [I] es.size (fun i v=>ord[i]?=some v) (fun i h=>gj h I a (cb (sl i:Int)) i es.size ep/\gk h a es ep t) where
 sub:=fun b hb=>by simp at hb; simp[hb]
 frame:=fun _ _ _ x hk=>⟨x.1.at fun o e=>hk I (by simp) o e,x.2.at fun o e=>hk a (by simp) o e⟩
 item:=fun i s Q E hi x hQ=>by
  obtain⟨v,hv⟩:∃v,ord[i]?=some v:=⟨_,bL (by omega)⟩;refine Qi N hn hIa x.1 x.2 hv fun h' hit hsb=>?_;have hk:∀b o,b∉ [I]->s.heap.get? b=some o->h'.get? b=some o:=fun b o hb e=>by rw[hsb.2 b (by simpa using hb)]; exact e
  exact hQ v h' s.toks hv ⟨hit,x.2.at fun o e=>hk a o (by simpa using hIa) e⟩ hk
 done:=fun s Q E x hQ=>by
  rw[<-hn]at x;refine Qh hh N hn (by rw[hn]at x⊢; exact x.1) x.2 fun h' he=>?_;exact hQ h' s.toks fun b o hb e=>he b o (by simpa using hb) e
 self:=fun i s Q E x h=>JU x.1 h
theorem WK{I a tu:aa}{pl:List Nat}{es:Array (Int×ae)}{ep:Nat}{t:bV}(hh:A.handled=none)(hp:pl.Perm (dU es.size))(hIa:a≠I)(hIt:tu≠I):
  Walks prog w A I [I,a,tu] [I] es.size (fun i v=>(pl.map fun p=>(es.getD p (0,.none)).2)[i]?=some v) (fun i h=>gj h I a (.ref tu) i es.size ep/\gk h a es ep t/\TupAt h tu pl) where
 sub:=fun b hb=>by simp at hb; simp[hb]
 frame:=fun _ _ _ x hk=>⟨x.1.at fun o e=>hk I (by simp) o e,x.2.1.at fun o e=>hk a (by simp) o e,x.2.2.at fun o e=>hk tu (by simp) o e⟩
 item:=fun i s Q E hi x hQ=>by
  have hl:pl.length=es.size:=by rw[hp.length_eq,iW]
  obtain⟨p,hpi⟩:∃p,pl[i]?=some p:=⟨_,bL (by omega)⟩;have hps:p<es.size:=lU.mp (hp.mem_iff.mp (dq hpi));have hx:es[p]?=some es[p]:=iQ hps;refine NP x.1 x.2.1 x.2.2 hpi hx fun h' hit hsb=>?_;have hk:∀b o,b∉ [I]->s.heap.get? b=some o->h'.get? b=some o:=fun b o hb e=>by rw[hsb.2 b (by simpa using hb)]; exact e
  refine hQ _ h' s.toks ?_ ⟨hit,x.2.1.at fun o e=>hk a o (by simpa using hIa) e,x.2.2.at fun o e=>hk tu o (by simpa using hIt) e⟩ hk;rw[cH,hpi,kT,nZ,hx];rfl
 done:=fun s Q E x hQ=>by
  have hl:pl.length=es.size:=by rw[hp.length_eq,iW]
  refine NO hh (by rw[hl]; exact x.1) x.2.1 x.2.2 fun h' he=>?_;exact hQ h' s.toks fun b o hb e=>he b o (by simpa using hb) e
 self:=fun i s Q E x h=>JU x.1 h
theorem items_are{ord:List ae}{acc:Array ae}(h:ItemsOf (fun i v=>ord[i]?=some v) acc ord.length):acc.toList=ord:=by
 refine Dq fun i=>?_;by_cases hi:i<acc.size
 ·rw[h.2 i acc[i] (iQ hi),ir,iQ hi]
 ·rw[gT (by rw[gc]; omega),gT (by rw[<-h.1]; omega)]
theorem Fs{pl:List Nat}{es:Array (Int×ae)}(hp:pl.Perm (dU es.size)):(pl.map fun p=>(es.getD p (0,.none)).2).Perm (es.toList.map (·.2)):=by
 refine(hp.map _).trans (List.Perm.of_eq ?_);refine Dq fun i=>?_;rw[cH,cH];by_cases hi:i<es.size
 ·rw[yN hi,ir,iQ hi,kT,kT,nZ,iQ hi];rfl
 ·rw[gT (by rw[iW]; omega),gT (by rw[gc]; omega)];rfl
theorem Oc{R:Result->aj->Prop}{S I:aa}{fp:List aa}{ord:List ae}{St:Nat->aC->Prop}{res:ae}{c0:Nat}{s1:aj}(W:Walks prog w A.in1 I fp [I] ord.length (fun i v=>ord[i]?=some v) St)(hn:ord.length<=aY)(hSf:S∉fp)(st:St 0 s1.heap)
  (hS:s1.heap.get? S=some {cls:=.type "list",data:=.seq #[] c0})
  (hR:∀h' tk c',(∀b o,b≠S->b≠I->s1.heap.get? b=some o->h'.get? b=some o)->h'.get? S=some {cls:=.type "list",dict:=none,data:=.seq ord.toArray c',slots:= #[]}->R (.ok (.ret res)) {s1 with heap:=h',toks:=tk}):
  gW (aB prog w) A (.builtin "list.extend.loop" ⟨[.ref S,.ref I,res],[]⟩) R s1:=by
 refine codeAny_extend_loopS W.toS hn S hSf res ord.length 0 _ #[] c0 rfl (bC _) st hS (ItemsOf.nil _) fun s' acc' c' hm hS' hacc=>?_;rw[Moved.eq_with hm];have ea:acc'=ord.toArray:=by rw[<-items_are hacc]
 rw[ea]at hS';refine hR s'.heap s'.toks c' (fun b o hb hb2 e=>hm.heap b o (fun hmem=>?_) e) hS';rcases bg.mp hmem with e'|hmem
 ·exact hb e'
 ·exact hb2 (cD.mp hmem)
theorem Od{R:Result->aj->Prop}{a S:aa}{es:Array (Int×ae)}{ep c₀:Nat}{t:bV}{res:ae}(hh:A.handled=none)(hs:gk s.heap a es ep t)(ht:eR (nI w) t)(hz:es.size<=aY)(hSa:S≠a)(hS:s.heap.get? S=some {cls:=.type "list",data:=.seq #[] c₀})
  (hR:∀(ord:List ae) h' tk d c',ord.Perm (es.toList.map (·.2))->(∀b o,b≠S->s.heap.get? b=some o->h'.get? b=some o)->h'.get? S=some {cls:=.type "list",dict:=none,data:=.seq ord.toArray c',slots:= #[]}->R (.ok (.ret res)) {s with heap:=h',toks:=tk,drawn:=d}):
  az (aB prog w) A.in1 (yr (.ref S) (.ref a) res)
   (fun fin s'=>match fin with|.done f=>R (.ok f) s'|.again c'=>c'.quiet=true/\gW (aB prog w) A c' R s') (fun e s'=>R (.error e) s') s:=by
 obtain⟨⟨oS,hoS,hex,hdS⟩,hf⟩:=id hs;have hSlt:=bO hS;have halt:=bO hoS
 have key:∀(I:aa)(fp:List aa)(ord:List ae)(St:Nat->aC->Prop)(h:aC)(d:Drawn)(c₁ tk:Nat),Walks prog w A.in1 I fp [I] es.size (fun i v=>ord[i]?=some v) St->ord.Perm (es.toList.map (·.2))->S∉fp->s.heap.objs.size<=I->St 0 h->
   (∀b o,b≠S->s.heap.get? b=some o->h.get? b=some o)->h.get? S=some {cls:=.type "list",data:=.seq #[] c₁}->gW (aB prog w) A (.builtin "list.extend.loop" ⟨[.ref S,.ref I,res],[]⟩) R {s with heap:=h,toks:=tk,drawn:=d}:=by
  intro I fp ord St h d c₁ tk W hp hSf hI st hk hS1;have hl:ord.length=es.size:=by rw[hp.length_eq,aE,gc]
  rw[<-hl]at W;refine Oc W (by omega) hSf st hS1 fun h' tk' c' hk' hS'=>?_;exact hR ord h' tk' d c' hp (fun b o hb e=>hk' b o hb (cJ (cW (bO e) hI)) (hk b o hb e)) hS'
 unfold yr;have hT:s.TypeIs (.ref a) "set":=⟨oS,hoS,hex.1⟩;refine ay (wpAny_typeOf hT ?_);have e1:Lz (.ref S) (.ref a)=false:=by simp[Lz,hSa]
 have e2:(nr "set"==nr "list")=false:=by decide
 have e3:(nr "set"==nr "tuple")=false:=by decide
 simp only[e1,e2,e3,Bool.or_false,aV,if_false];refine ay (OB hs hz (fun hcase=>?_) fun pl d hp=>?_)
 ·have hne:a≠s.heap.objs.size:=cJ halt;have hSf:S∉ [s.heap.objs.size,a]:=by simp only[bg,iX,or_false,not_or]; exact⟨cJ hSlt,hSa⟩
  have hit:gj (s.heap.push (mv (cb 0) a es.size ep)) s.heap.objs.size a (cb 0) 0 es.size ep:=⟨_,dz _ rfl,rfl,rfl⟩;have hs1:gk (s.heap.push (mv (cb 0) a es.size ep)) a es ep t:=hs.at fun o e=>bS _ e
  have hcase2:∃(sl:Nat->Nat)(ord:List ae),qE prog w a es ep t sl ord/\ord.Perm (es.toList.map (·.2))/\sl 0=0:=by
   cases hb:w.params.followText "set-order" with
   |true=>exact⟨_,_,Ql hb,(Sk _ _).map _,rfl⟩
   |false=>
    rcases hcase with z|z
    ·rw[hb]at z; cases z
    ·have ht:eR true t:=by have:=ht; unfold nI at this; rw[hb]at this; exact this
     exact⟨_,_,Qj hb ht z hf,.refl _,rfl⟩
  obtain⟨sl,ord,N,hp,hsl⟩:=hcase2;have hl:ord.length=es.size:=by rw[hp.length_eq,aE,gc]
  have W:=WL (A:=A.in1) (I:=s.heap.objs.size) hh N hl hne;have st:gj (s.heap.push (mv (cb 0) a es.size ep)) s.heap.objs.size a (cb (sl 0:Int)) 0 es.size ep/\gk (s.heap.push (mv (cb 0) a es.size ep)) a es ep t:=⟨by rw[hsl]; exact hit,hs1⟩;have hS₁:(s.heap.push (mv (cb 0) a es.size ep)).get? S=some {cls:=.type "list",data:=.seq #[] c₀}:=bS _ hS;have hT1:aj.TypeIs {s with heap:=s.heap.push (mv (cb 0) a es.size ep)} (.ref a) "set":=⟨oS,bS _ hoS,hex.1⟩;refine ay (sg (FP hT1 ?_));refine CP (fun _=>?_) (fun _=>aU ⟨pR yy _,key _ _ ord _ _ s.drawn c₀ _ W hp hSf (aF _) st (fun b o _ e=>bS _ e) hS₁⟩);refine ay (uT ?_);refine ay ?_;show az _ _ (updateSeq S (·.push .none)>>=fun _=>updateSeq S (·.pop)) _ _ _;refine ay (CQ hS₁ rfl ?_);have hS₂:=lQ (sP (·.push iG)) hS₁ rfl;refine CQ (hz:=by seq_fits) hS₂ rfl ?_;have hS₃:=lQ (sP (·.pop)) hS₂ rfl;refine aU ⟨pR yy _,key _ _ ord _ _ s.drawn _ _ W hp hSf (aF _) ?_ (fun b o hb e=>?_) hS₃⟩
  ·refine W.frame 0 _ _ st fun b hb o e=>?_;have hbS:b≠S:=fun h=>hSf (h▸hb);exact(kM _ _ (bq hbS)).trans ((kM _ _ (bq hbS)).trans e)
  ·exact(kM _ _ (bq hb)).trans ((kM _ _ (bq hb)).trans (bS _ e))
 ·generalize htu:({cls:=.type "tuple",data:=.seq (pl.map fun(i:Nat)=>cb (i:Int)).toArray 0}:Obj)=tuO;generalize hh2:(s.heap.push tuO).push (mv (.ref s.heap.objs.size) a es.size ep)=h2;have hold:∀b o,s.heap.get? b=some o->h2.get? b=some o:=fun b o e=>by rw[<-hh2]; exact bS _ (bS _ e)
  have hne:a≠s.heap.objs.size+1:=cJ (mY halt);have hne2:s.heap.objs.size≠s.heap.objs.size+1:=cJ (vz _);have hSf:S∉ [s.heap.objs.size+1,a,s.heap.objs.size]:=by simp only[bg,iX,or_false,not_or]; exact⟨cJ (mY hSlt),hSa,cJ hSlt⟩
  have hit:gj h2 (s.heap.objs.size+1) a (.ref s.heap.objs.size) 0 es.size ep:=⟨_,by rw[<-hh2,<-fL s.heap tuO]; exact dz _ rfl,rfl,rfl⟩;have hs1:gk h2 a es ep t:=hs.at fun o e=>hold _ _ e;have htup:TupAt h2 s.heap.objs.size pl:=⟨_,by rw[<-hh2]; exact bS _ (dz _ (by rw[<-htu]; rfl)),by rw[<-htu]⟩;have W:=WK (w:=w) (prog:=prog) (A:=A.in1) (I:=s.heap.objs.size+1) (a:=a) (tu:=s.heap.objs.size) (ep:=ep) (t:=t) hh hp hne hne2;have st:gj h2 (s.heap.objs.size+1) a (.ref s.heap.objs.size) 0 es.size ep/\gk h2 a es ep t/\TupAt h2 s.heap.objs.size pl:=⟨hit,hs1,htup⟩;have hS₁:h2.get? S=some {cls:=.type "list",data:=.seq #[] c₀}:=hold _ _ hS;have hT1:aj.TypeIs {s with heap:=h2,drawn:=d} (.ref a) "set":=⟨oS,hold _ _ hoS,hex.1⟩;refine ay (sg (FP hT1 ?_));refine CP (fun _=>?_) (fun _=>aU ⟨pR yy _,key _ _ _ _ _ d c₀ _ W (Fs hp) hSf (sN _) st (fun b o _ e=>hold _ _ e) hS₁⟩);refine ay (uT ?_);refine ay ?_;show az _ _ (updateSeq S (·.push .none)>>=fun _=>updateSeq S (·.pop)) _ _ _;refine ay (CQ hS₁ rfl ?_);have hS₂:=lQ (sP (·.push iG)) hS₁ rfl;refine CQ (hz:=by seq_fits) hS₂ rfl ?_;have hS₃:=lQ (sP (·.pop)) hS₂ rfl;refine aU ⟨pR yy _,key _ _ _ _ _ d _ _ W (Fs hp) hSf (sN _) ?_ (fun b o hb e=>?_) hS₃⟩
  ·refine W.frame 0 _ _ st fun b hb o e=>?_;have hbS:b≠S:=fun h=>hSf (h▸hb);exact(kM _ _ (bq hbS)).trans ((kM _ _ (bq hbS)).trans e)
  ·exact(kM _ _ (bq hb)).trans ((kM _ _ (bq hb)).trans (hold _ _ e))
theorem Np{a:aa}{es:Array (Int×ae)}{ep:Nat}{t:bV}{Q:List ae->aj->Prop}(hh:A.handled=none)(hs:gk s.heap a es ep t)(ht:eR (nI w) t)(hz:es.size<=aY)
  (hQ:∀(ord:List ae) h' tk d,ord.Perm (es.toList.map (·.2))->(∀b o,s.heap.get? b=some o->h'.get? b=some o)->s.heap.objs.size<=h'.objs.size->Q ord {s with heap:=h',toks:=tk,drawn:=d}):
  az (aB prog w) A (collect (.ref a)) Q E s:=by
 obtain⟨⟨oS,hoS,hex,hdS⟩,hf⟩:=id hs
 have hsuf:∀R:Result->aj->Prop,(∀(ord:List ae) h' tk d c',ord.Perm (es.toList.map (·.2))->(∀b o,b≠s.heap.objs.size->(s.heap.push {cls:=.type "list",data:=.seq ([]:List ae).toArray}).get? b=some o->h'.get? b=some o)->h'.get? s.heap.objs.size=some {cls:=.type "list",dict:=none,data:=.seq ord.toArray c',slots:= #[]}->R (.ok (.ret (.ref s.heap.objs.size))) {s with heap:=h',toks:=tk,drawn:=d})->
   gW (aB prog w) A (.builtin "proto.collect" ⟨[.ref a],[]⟩) R s:=fun R hR=>by
  refine pj LG ?_;rw[qg LJ _];show az _ A.in1 (newList []>>=fun l=>again (.builtin "list.__iadd__" ⟨[l,.ref a],[]⟩)) _ _ s;refine ay (mM ?_);refine aU ⟨pR yz _,pj F.entry_list_iadd ?_⟩;rw[qg yz _];show az _ A.in1 (yr (.ref s.heap.objs.size) (.ref a) (.ref s.heap.objs.size)) _ _ _;exact Od (s:={s with heap:=s.heap.push {cls:=.type "list",data:=.seq ([]:List ae).toArray}}) (c₀:=0) hh (hs.at fun o e=>bS _ e) ht hz (qC (bO hoS)) (dz _ rfl) hR
 unfold collect;refine ay (Lv (hsuf _ fun ord h' tk d c' hp hk hS'=>?_));show az _ A (load s.heap.objs.size>>=_) _ _ _;refine ay (wpAny_load hS' ?_);exact aU (hQ ord h' tk d hp (fun b o e=>hk b o (cJ (bO e)) (bS _ e)) (jx (bO hS')))
end
theorem FX:∀{ord:List ae},(∀v∈ord,∃k t,v=.int k t)->∃ns,jt ord ns/\∀k:Int,k∈ns↔∃t,km k t∈ord
 | [],_=>⟨[],.nil,fun k=>by simp⟩
 |v::ord,h=>by
  obtain⟨k0,t0,rfl⟩:=h v dD;obtain⟨ns,h1,h2⟩:=FX (ord:=ord) fun v hv=>h v (bU _ hv);refine⟨k0::ns,.cons _ _ h1,fun k=>?_⟩;rw[bg,h2];constructor
  ·rintro(rfl|⟨t,ht⟩)
   ·exact⟨t0,dD⟩
   ·exact⟨t,bU _ ht⟩
  ·rintro⟨t,ht⟩;rcases bg.mp ht with e|ht
   ·cases e; exact .inl rfl
   ·exact .inr ⟨t,ht⟩
section
variable{prog:aO}{w:aN}{A:bJ}{E:ae->aj->Prop}{s:aj}
def vS(prog:aO)(w:aN)(h:aC)(a:aa)(ns:List Int):Prop:=∃es ep t,gk h a es ep t/\eR (nI w) t/\es.size<4096/\ElemsOf (intKind prog w) es.toList/\∀k,k∈ns↔∃e∈es.toList,(intKind prog w).is k e.2=true
theorem UP{a:aa}{ns:List Int}{Q:ae->aj->Prop}(hh:A.handled=none)(hs:vS prog w s.heap a ns)
  (hQ:∀(p:aa)(its:List ae)(ns':List Int) h' tk d e,s.heap.objs.size<=p->jt its ns'->(∀k,k∈ns'↔k∈ns)->ns'.Pairwise (·<=·)->ns'.length<4096->(∀b o,s.heap.get? b=some o->h'.get? b=some o)->h'.get? p=some (seqObj "list" its.toArray e)->Q (.ref p) {s with heap:=h',toks:=tk,drawn:=d}):
  az (aB prog w) A (call (.builtin "sorted") [.ref a]) Q E s:=by
 obtain⟨es,ep,t,hso,ht,hsz,hel,hmem⟩:=hs;have hz:es.size<=aY:=by rw[rS]; omega
 refine Calls.call_function_entry kind_sorted plain_sorted entry_sorted (args_sorted1 _) ?_;unfold Builtin.«sorted»;refine ay (m:=checkCount "sorted" 1 1 _) (aU ?_);refine ay (Np (by exact hh) hso ht hz fun ord h' tk d hp hk hle=>?_);have hl:ord.length=es.size:=by rw[hp.length_eq,aE,gc]
 refine ay (wpAny_newList ?_ (by omega));have hoL:(h'.push (seqObj "list" ord.toArray 0)).get? h'.objs.size=some (seqObj "list" ord.toArray 0):=dz _ rfl
 have hint:∀v∈ord,∃k t,v=km k t:=fun v hv=>by
  obtain⟨e,he,rfl⟩:=bP.mp (hp.mem_iff.mp hv);obtain⟨⟨k,hk1,_⟩,_⟩:=hel e he;obtain⟨t,e⟩:=Ec (k:=k) (v:=e.2) hk1;exact⟨k,t,e⟩
 obtain⟨ns0,hI,hm0⟩:=FX hint
 have hmm:∀k,k∈ns0↔k∈ns:=fun k=>by
  rw[hm0,hmem];constructor
  ·rintro⟨t,ht⟩;obtain⟨e,he,ee⟩:=bP.mp (hp.mem_iff.mp ht);exact⟨e,he,by rw[ee]; exact intKind_is _ _ _ _⟩
  ·rintro⟨e,he,hk1⟩;obtain⟨t,e2⟩:=Ec (k:=k) (v:=e.2) hk1;exact⟨t,by rw[<-e2]; exact hp.mem_iff.mpr (bP.mpr ⟨e,he,rfl⟩)⟩
 refine ay (sg (rZ slot_list_sort ⟨_,hoL,rfl⟩ entry_list_sort (list_sort_treeAny hoL hI (by omega) fun out ns' a1 a2 a3=>⟨_,rfl,?_⟩) (args_list_sort _)));obtain⟨e,he⟩:=sortedHeap_at (out:=out) hoL;refine aU ⟨_,rfl,hQ h'.objs.size out.toList ns' _ tk d e hle a1 (fun k=>by rw[a2.mem_iff]; exact hmm k) a3 ?_ (fun b o hb=>?_) he⟩
 ·rw[a2.length_eq,<-hI.length,hl]; exact hsz
 ·have hb':=hk b o hb;rw[sortedHeap_old (cJ (bO hb')) (by rw[fL]; exact mY (bO hb'))];exact bS _ hb'
end
def qM(prog:aO)(w:aN)(a:aa)(ns:List Int):HO:=.ext fun h=>vS prog w h a ns
theorem Uv{prog:aO}{w:aN}{H:Hp}{h:aC}{a:aa}{ns:List Int}(x:vS prog w h a ns):dM prog w H h a (qM prog w a ns):=by
 refine⟨x,?_,fun h1 h2 y k=>?_⟩
 ·obtain⟨es,ep,t,⟨⟨o,ho,_⟩,_⟩,_⟩:=x;exact⟨o,ho⟩
 ·obtain⟨es,ep,t,so,r⟩:=y;exact⟨es,ep,t,so.at k,r⟩
theorem boot_set:qX "set"=some (.type "set"):=by kernel_rfl
section
variable{X:Cx}
def SD(P:aO)(w:aN)(K:aw):List V->Hp->VK->Prop:=fun vs H Q=>∃(a:aa)(ns:List Int)(m:Nat),vs=[V.ref a]/\ak K H a (ns.map V.int)/\m<4096/\(∀n∈ns,0<=n/\n<m)/\∀p,H p=none->Q (.ref p) (ah H p (qM P w p ns))
theorem Inv.drew{pins:List (aa×Obj)}{σ:List (Option V)}{H:Hp}{s:aj}(I:Inv X pins σ H s)(d:Drawn):Inv X pins σ H {s with drawn:=d}:=⟨I.ok,I.os,I.bare,I.base,I.loc,I.cell,I.free,I.freeC,I.pin,I.hok,I.len⟩
theorem Nv(hc:X.calm=true):jq X (.type "set") (SD X.prog X.w X.K):=by
 intro pins s σ H vs us Q I r h;obtain⟨a,ns,m,rfl,hs,hm,hb,q⟩:=h;obtain⟨its,rv,hl,_⟩:=I.list hs;rw[aS.ref1 r];have hi:=rv.ints;have hlen:=hi.length
 have hval:∀j,j<its.length->0<=ns.getD j 0/\ns.getD j 0<(m:Int):=fun j hj=>by
  rw[yM,bL (by omega)];exact hb _ (yO _)
 refine Nb (ns:=ns) (I.ok.hd hc) hl.isList hi (fun i hi2=>?_) fun h' tk hS hk=>?_
 ·have:=Og (val:=fun i=>ns.getD i 0) (i:=i) (m:=m) fun j hj=>hval j (by simp at hi2; omega);have e:lH=4096:=rfl;omega
 ·obtain⟨o,es,ep,t,ho,hex,hd,hel,hmem,hb2,hf,hn,ht⟩:=hS;have hk':∀b o,s.heap.get? b=some o->h'.get? b=some o:=fun b o e=>hk b o (bO e) e
  have hin:vS X.prog X.w h' s.heap.objs.size ns:=by
   refine⟨es,ep,t,⟨⟨o,ho,hex,hd⟩,hf⟩,ht,hb2,hel,fun k=>?_⟩;rw[<-hmem k,ow];constructor
   ·intro hkn;obtain⟨j,hj,e⟩:=iV hkn;refine⟨k,(tN _ _ _).mpr ⟨j,?_,?_⟩,beq_self_eq_true _⟩
    ·simp; omega
    ·rw[yM,bL hj,e]; rfl
   ·rintro⟨x,hx,e⟩;rw[<-eq_of_beq e];obtain⟨j,hj,e2⟩:=(tN _ _ _).mp hx;rw[<-e2];have hj2:j<ns.length:=by simp at hj; omega
    rw[yM,bL hj2];exact yO _
  exact⟨.ref _,ah H s.heap.objs.size (qM X.prog X.w s.heap.objs.size ns),I.laid (t':=tk) hk' (aF _) (Uv hin),rfl,q _ (I.hok.fresh (aF _))⟩
def SE(P:aO)(w:aN):List V->Hp->VK->Prop:=fun vs H Q=>∃(a:aa)(ns:List Int),vs=[V.ref a]/\H a=some (qM P w a ns)/\
 ∀(ns':List Int)(p:aa),(∀k,k∈ns'↔k∈ns)->ns'.Pairwise (·<=·)->ns'.length<4096->H p=none->Q (.ref p) (ah H p (.lst (ns'.map V.int)))
theorem Nw(hc:X.calm=true):jq X (.builtin "sorted") (SE X.prog X.w):=by
 intro pins s σ H vs us Q I r h;obtain⟨a,ns,rfl,ha,q⟩:=h;rw[aS.ref1 r];obtain⟨hin,_,_⟩:=I.hok a _ ha;refine UP (I.ok.hd hc) hin fun p its ns' h' tk d e hp hi hmem hpw hlen hk hget=>?_;have hz:(ns'.map V.int).length<=aY:=by rw[aE,rS]; omega
 exact⟨.ref p,ah H p (.lst (ns'.map V.int)),Inv.drew (I.laid (o:=.lst (ns'.map V.int)) (t':=tk) hk hp ⟨hz,its,e,Ln hi,hget⟩) d,rfl,q ns' p hmem hpw hlen (I.hok.fresh hp)⟩
end
end PP
namespace PP
open PySem PySem.Spec L2
open PyProof.Rows hiding St
open Pg PM
section
variable{P:aO}{w:aN}{K:aw}{mg:Str->Option ae}{base:aC}{A:Ad}
theorem pB(l:List Nat):iv l=(l.map fun(n:Nat)=>(n:Int)).map V.int:=by
 unfold iv;rw[gB];rfl
theorem OC{ns:List Int}(h:∀n∈ns,0<=n):ns.map V.int=iv (ns.map fM):=by
 unfold iv;rw[gB];refine vp fun n hn=>?_;have:=h n hn;show V.int n=V.int ((n.toNat:Nat):Int);rw[yE this]
def Vn(A:Ad):Sp:=fun vs H Q _=>∃(G:Hp)(m:aa)(M:aZ)(c:Nat),vs=[.ref m]/\Wd A.toCn G H/\iB A G m M/\kS M c/\mX M/\M.steps.length<=4095/\c<=3000/\
 ∀G' H' v,Step A.toCn G H G' H'->((v=.non/\vR M none)\/∃p row,v=.ref p/\G' p=some (.lst (bv row))/\vR M (some row))->Q v H'
theorem MZ{row:ag}{b:Nat}(hb:b<256):bv row++[V.int (b:Nat)]=bv (row++[kl b]):=by
 unfold bv;rw[cv];show _=_++[V.int ((kl b).toNat:Int)];rw[vW,vA hb]
theorem Ra(T:ba K mg A):Kn P w K mg base aX "least_row" 3 ["machine"] (Vn A):=by
 have sc:aW ["machine","left","lengths","start","many","places","row","steps","byte","step"] ["machine"] (aI Jf):=bo;refine Kn.of T.YA sc (fun vs H Q E h=>?_) (fun f cdv A0 outer s0 H vs Q E hr h=>?_)
 ·obtain⟨_,_,_,_,rfl,_⟩:=h; rfl
 obtain⟨G,m,M,c,rfl,wd,hmac,bd,ok,hn,hc,q⟩:=h;have hu:=mr hr;have hu64:=hr.units;have hsc:M.steps.length*c<=4095*3000:=qB hn hc
 refine⟨_,(aq (pS 1 sc.nd (cF (QS T) hr (af (pv 0) ao)))
   (aq (BF rfl sc.nd (i:=2) rfl rfl (xT rfl rfl rfl rfl) (dt (bK (pv 0) rfl)) (own:=[("start",3)]) (fE (by kernel_rfl)) (fun _ _ _ _ _=>by exact(gN 3 sc.nd)) (fun _ _ _ _ _=>by exact(nQ (rN (Bx hu (pv 3) (pv 1))))) (fun _ _ _ _ _=>by exact(mH hu (pv 1) (pv 3) (fun _ _=>rfl))))
   (aq (bz (bI (mF hu64) (pv 2) (br ao) (bp _))
    (au (aL lF))
    bE)
   (aq (pS 4 sc.nd (jL (EV rfl) (by rfl) T.XQ boot_min (af (pv 2) ao)))
   (aq (pS 5 sc.nd (bK (pv 0) rfl))
   (aq (pS 6 sc.nd (br ao))
   (aq (pT eZ (bI mG (pv 4) aA (bp _))
    (aq (uo (i:=4) sc.nd rfl (by first|exact Or.inl rfl|exact kU rfl) aA Oy)
    (aq (pS 7 sc.nd (cF (Rv T) hr (af (pv 0) (af (pv 5) (af (pv 1) (af (pv 4) ao))))))
    (aq (pS 8 sc.nd (jL (EV rfl) (by rfl) T.XQ boot_min (af (hO rfl sc.nd (dt (pv 7)) (own:=[("step",9)]) (fE (by kernel_rfl)) (fun _ _ _ _ _=>by exact(gN 9 sc.nd)) (fun _ _ _ _ _=>by exact jN) (fun _ _ _ _ _=>by exact(cF (Rc T) hr (af (bM (wU (K:=K) rfl) (pv 9) aA (fun _ _=>rfl)) ao)))) ao)))
    (aq (eC (eJ eQ gh gi fV (pv 6) (af (pv 8) ao)))
    (au (pS 5 sc.nd (jL (Nw rfl) (by rfl) T.XS boot_sorted (af (RS (Nv rfl) (by rfl) T.Yg boot_set (af (hO rfl sc.nd (dt (pv 7)) (own:=[("step",9)]) (fE (by kernel_rfl)) (fun _ _ _ _ _=>by exact(gN 9 sc.nd)) (fun _ _ _ _ _=>by exact(nQ (bI eB (bb jI (bb uk (bM (wU (K:=K) rfl) (pv 9) aA (fun _ _=>rfl)) (pv 8)) aA) aA (bp _)))) (fun _ _ _ _ _=>by exact(bM (wU (K:=K) rfl) (pv 9) aA (fun _ _=>rfl)))) ao)) ao)))))))))
   (au (aL (pv 6)))))))))),?_⟩
 cb_eq
 refine⟨G,m,M,c,rfl,wd,hmac,bd,ok,by omega,by omega,fun G1 H1 dp L s1 hdp hL hsteady=>?_⟩;have hmac1:=hmac.mono (s1.same wd);obtain⟨dx,sa,la,hm,hsa,as,hla,pla⟩:=id hmac1
 cb_eq
 refine bx (s1.wd.sub _ _ hm) T.Xh T.Xx wY ?_;refine gR (ak.of (s1.wd.sub _ _ hsa)) (fun D i H'=>∃ds:List Nat,Step A.toCn G H G1 H'/\ar A.toCn H G1 H' D (.lst (iv ds))/\ds.length<=i/\∀d,d∈ds↔∃s,s∈M.starts.take i/\(s,d)∈L) ?_ ?_ ?_ ?_
 ·intro D hD;exact⟨[],s1.new wd hD,ar.make wd s1 hD,aF _,fun d=>⟨fun z=>(by cases z),fun⟨s,z,_⟩=>(by rw[eO]at z; cases z)⟩⟩
 ·rintro D i H' _ ⟨_,s2,_⟩;exact ak.of (s2.wd.sub _ _ hsa)
 ·rintro D i v H2 hv ⟨ds,s2,o2,hdl,hds⟩;obtain⟨st,hst,rfl⟩:=mw hv;have hil:=(aK.mp hst).1;have hsl:=bd.sl
  cb_eq
  refine uW (k:=bW (st:Int)) (s2.wd.sub _ _ hdp) ?_;rw[Fm hL.nd,take_snoc hst]
  cb_eq
  by_cases hin:st∈L.map (·.1)
  ·rw[dT hin];simp only[qh,if_true];obtain⟨⟨a,d⟩,hx,e⟩:=bP.mp hin;have e:a=st:=e;subst e;refine mO (k:=bW (a:Int)) (s2.wd.sub _ _ hdp) (px hL.nd hx) ?_;refine⟨_,o2.at_,?_,ds++[d],s2.put wd o2,?_,by rw[bt,dJ]; omega,fun d'=>?_⟩
   ·rw[dG]; exact bZ (m:=3000) (by omega) (by decide)
   ·rw[<-ik]; exact o2.put_
   ·rw[cj,cD,hds];constructor
    ·rintro(⟨s,z1,z2⟩|rfl)
     ·exact⟨s,dn _ z1,z2⟩
     ·exact⟨a,dC _ (cD.mpr rfl),hx⟩
    ·rintro⟨s,z1,z2⟩;rcases cj.mp z1 with z1|z1
     ·exact .inl ⟨s,z1,z2⟩
     ·rw[cD.mp z1]at z2;exact .inr (Gq hL z2 hx)
  ·rw[dF hin];simp only[qh,aV,if_false];refine⟨ds,s2,o2,by omega,fun d'=>?_⟩;rw[hds];constructor
   ·rintro⟨s,z1,z2⟩;exact⟨s,dn _ z1,z2⟩
   ·rintro⟨s,z1,z2⟩;rcases cj.mp z1 with z1|z1
    ·exact⟨s,z1,z2⟩
    ·rw[cD.mp z1]at z2;exact absurd (bP.mpr ⟨_,z2,rfl⟩) hin
 ·rintro D H2 ⟨ds,s2,o2,hdl,hds⟩;rw[dG,cq]at hds
  cb_eq
  refine⟨by decide,fun ep hep=>?_⟩;have s3:=s2.new wd hep (o:=.lst []);have o3:=o2.new_ hep (o':=.lst []);refine mP (ns:=ds.map fun(n:Nat)=>(n:Int)) (ms:=[]) (by rw[<-pB]; exact ak.of o3.at_) (ak.of ax) ?_
  cb_eq
  by_cases hnil:ds=[]
  ·subst hnil;rw[dT (by rfl)];simp only[if_true];refine q _ _ _ s3 (.inl ⟨rfl,fun x=>Ur hL (fun s d hs hd=>?_) x⟩);exact iX ((hds d).mpr ⟨s,hs,hd⟩)
  ·rw[dF (by simpa using hnil)];simp only[aV,if_false];refine⟨D,ds.map fun(n:Nat)=>(n:Int),rfl,by rw[<-pB]; exact ak.of o3.at_,by rw[aE]; exact fC.mpr hnil,fun mi hmi hle=>?_⟩;obtain⟨m0,hm0,rfl⟩:=bP.mp hmi
   have hfew:sx M L m0:=by
    obtain⟨s,z1,z2⟩:=(hds m0).mp hm0;refine⟨⟨s,z1,z2⟩,fun s d h1 h2=>?_⟩;have:=hle _ (bP.mpr ⟨d,(hds d).mpr ⟨s,h1,h2⟩,rfl⟩);omega
   cb_eq
   refine bx (s3.wd.sub _ _ hm) T.Xh T.Xx wY ?_
   cb_eq
   refine⟨by decide,fun rp hrp=>?_⟩;have s4:=s3.new wd hrp (o:=.lst []);have r4:=ar.make wd s3 hrp (o:=.lst [])
   refine qd (fun mm σ H'=>∃(x3 x7 x8 x9:Option V)(G5:Hp)(pa:aa)(ps:List Nat)(row:ag)(i:Nat),mm=m0-i/\σ=[some (.ref m),some (.ref dp),some (.ref D),x3,some (.int ((m0-i:Nat):Int)),some (.ref pa),some (.ref rp),x7,x8,x9]/\Step A.toCn G H G5 H'/\bh G1 G5/\ar A.toCn H G5 H' rp (.lst (bv row))/\
     G5 pa=some (.lst (iv ps))/\(∀p∈ps,p<M.steps.length)/\ps.length<=4096/\qL M L m0 i row ps)
    ⟨_,_,_,_,_,G1,sa,M.starts,[],0,rfl,rfl,s4,bh.refl _,r4,hsa,bd.starts,by have:=bd.sl; omega,Us hfew⟩ ?_
   rintro mm σ H5 ⟨x3,x7,x8,x9,G5,pa,ps,row,i,rfl,rfl,s5,e15,r5,hpa,hps,hpl,hrow⟩;have him:=hrow.le
   cb_eq
   by_cases hlt:i<m0
   ·rw[dT (by omega:(0:Int)<((m0-i:Nat):Int))];simp only[if_true];refine⟨_,fun _ _ z=>z,?_⟩;refine uV rfl ?_
    cb_eq
    rw[show(((m0-i:Nat):Int)-1)=((m0-i-1:Nat):Int) by omega];have hpc:ps.length*c<=4096*3000:=qB hpl hc;have hmac5:=hmac1.mono e15;refine⟨G5,m,pa,dp,M,c,m0-i-1,ps,L,rfl,s5.wd,hmac5,bd,hpa,hps,e15 _ _ hdp,hL.nd,by omega,by omega,fun G6 H6 sp6 ts ss s56 hsp6 hts hss hssl=>?_⟩;have s6:=s5.trans wd s56;have e56:=s56.same s5.wd;have r6:=r5.call s56;have hlts:=bR hts;have hne:=Uq hL hrow hlt hss
    have hok6:∀x∈ss,∃p,(x.1,x.2)∈M.from p:=fun x hx=>by
     obtain⟨⟨p,_,h⟩,_⟩:=(hss x.1 x.2).mp hx;exact⟨p,h⟩
    cb_eq
    refine gR (ak.of (s6.wd.sub _ _ hsp6)) (fun D i H'=>∃bs:List Nat,Step A.toCn G H G6 H'/\ar A.toCn H G6 H' rp (.lst (bv row))/\ar A.toCn H G6 H' D (.lst (iv bs))/\D≠rp/\bH (fun b(x:Nat×Nat)=>kb x.1 b) bs (ss.take i)) ?_ ?_ ?_ ?_
    ·intro D hD;exact⟨[],s6.new wd hD,r6.new_ hD,ar.make wd s6 hD,(fun z=>by rw[z,r6.at_]at hD; cases hD),by rw[eO]; exact .nil⟩
    ·rintro D i H' _ ⟨_,s7,_⟩;exact ak.of (s7.wd.sub _ _ hsp6)
    ·rintro D j v H7 hv ⟨bs,s7,r7,d7,hDr,hlow⟩;obtain⟨t7,ht7,rfl⟩:=eI hv;obtain⟨⟨S,t⟩,hst,htG⟩:=dH hts ht7;have hjl:=(aK.mp hst).1;have hbl:=bR hlow;rw[cP]at hbl;obtain⟨p,hp⟩:=hok6 _ (dq hst);obtain⟨b,hb⟩:=Ca (ok.to p S t hp).2.1
     cb_eq
     refine cG (k:=0) (bQ.of (s7.wd.sub _ _ htG)) rfl ?_;refine⟨S,b,rfl,hb,?_⟩;refine⟨_,d7.at_,?_,bs++[b],s7.put wd d7,r7.other (bq hDr),?_,hDr,?_⟩
     ·rw[dG]; exact bZ (m:=4096*3000) (by omega) (by decide)
     ·rw[<-ik]; exact d7.put_
     ·rw[take_snoc hst];exact jJ hlow (.cons hb .nil)
    ·rintro D7 H7 ⟨bs,s7,r7,d7,hDr,hlow⟩;rw[aE,hlts,cq]at hlow;have hbl:=bR hlow
     cb_eq
     refine⟨D7,bs.map fun(n:Nat)=>(n:Int),rfl,by rw[<-pB]; exact ak.of d7.at_,by rw[aE,hbl]; exact fC.mpr hne,fun bi hbi hble=>?_⟩;obtain⟨b,hb,rfl⟩:=bP.mp hbi
     have hb1:∃S t,(S,t)∈ss/\kb S b:=by
      obtain⟨k,hk,e⟩:=iV hb;obtain⟨⟨S,t⟩,h1,h2⟩:=dH hlow (i:=k) (by rw[bL hk,e]);exact⟨S,t,dq h1,h2⟩
     have hb2:∀S t l,(S,t)∈ss->kb S l->b<=l:=fun S t l h1 h2=>by
      obtain⟨k,hk,e⟩:=iV h1;obtain⟨b',h3,h4⟩:=jK hlow (i:=k) (b:=(S,t)) (by rw[bL hk,e]);have h5:=hble _ (bP.mpr ⟨b',dq h3,rfl⟩);have h6:=h4.2 l h2.1;have h6:b'<=l:=h6;omega
     have hb256:b<256:=by
      obtain⟨S,t,h1,h2⟩:=hb1;obtain⟨p,hp⟩:=hok6 _ h1;exact AA h2 (ok.to p S t hp).2.2
     cb_eq
     refine⟨eM (ak.of r7.at_),?_⟩
     cb_eq
     have hrl:row.length<16000000:=by
      rw[hrow.len]
      have h1:m0<=M.steps.length:=by
       obtain⟨⟨s,_,z2⟩,_⟩:=hfew;obtain⟨k,hk,e⟩:=iV z2;have h2:=hsteady k _ (by rw[bL hk,e]);have h3:=hL.bound;have h2:m0<=k:=h2;omega
      omega
     refine fZ r7.at_ (by rw[cU]; exact bZ (m:=16000000) (by omega) (by decide)) ?_;rw[MZ hb256];have s8:=s7.put wd r7 (o':=.lst (bv (row++[kl b])));have r8:=r7.put_ (o':=.lst (bv (row++[kl b])))
     cb_eq
     refine gR (ak.of (s8.wd.sub _ _ hsp6)) (fun D i H'=>∃qs:List Nat,Step A.toCn G H G6 H'/\ar A.toCn H G6 H' rp (.lst (bv (row++[kl b])))/\ar A.toCn H G6 H' D (.lst (iv qs))/\D≠rp/\qs.length<=i/\∀t,t∈qs↔∃S,(S,t)∈ss.take i/\S.testBit b=true) ?_ ?_ ?_ ?_
     ·intro D hD;exact⟨[],s8.new wd hD,r8.new_ hD,ar.make wd s8 hD,(fun z=>by rw[z,r8.at_]at hD; cases hD),aF _,fun t=>⟨fun z=>(by cases z),fun⟨S,z,_⟩=>(by rw[eO]at z; cases z)⟩⟩
     ·rintro D i H' _ ⟨_,s9,_⟩;exact ak.of (s9.wd.sub _ _ hsp6)
     ·rintro D j v H9 hv ⟨qs,s9,r9,d9,hDr,hql,hqs⟩;obtain⟨t7,ht7,rfl⟩:=eI hv;obtain⟨⟨S,t⟩,hst,htG⟩:=dH hts ht7;have hjl:=(aK.mp hst).1
      cb_eq
      refine cG (k:=0) (bQ.of (s9.wd.sub _ _ htG)) rfl ?_
      cb_eq
      refine⟨by omega,?_⟩;rw[tw,take_snoc hst];cases hbt:S.testBit b with
      |true=>
       simp only[if_true];refine cG (k:=1) (bQ.of (s9.wd.sub _ _ htG)) rfl ?_;refine⟨_,d9.at_,?_,qs++[t],s9.put wd d9,r9.other (bq hDr),?_,hDr,by rw[bt,dJ]; omega,fun t'=>?_⟩
       ·rw[dG]; exact bZ (m:=4096*3000) (by omega) (by decide)
       ·rw[<-ik]; exact d9.put_
       ·rw[cj,cD,hqs];constructor
        ·rintro(⟨S',z1,z2⟩|rfl)
         ·exact⟨S',dn _ z1,z2⟩
         ·exact⟨S,dC _ (cD.mpr rfl),hbt⟩
        ·rintro⟨S',z1,z2⟩;rcases cj.mp z1 with z1|z1
         ·exact .inl ⟨S',z1,z2⟩
         ·cases cD.mp z1;exact .inr rfl
      |false=>
       simp only[aV,if_false];refine⟨qs,s9,r9,d9,hDr,by omega,fun t'=>?_⟩;rw[hqs];constructor
       ·rintro⟨S',z1,z2⟩;exact⟨S',dn _ z1,z2⟩
       ·rintro⟨S',z1,z2⟩;rcases cj.mp z1 with z1|z1
        ·exact⟨S',z1,z2⟩
        ·cases cD.mp z1;rw[hbt]at z2;cases z2
     ·rintro D9 H9 ⟨qs,s9,r9,d9,hDr9,hql,hqs⟩;rw[aE,hlts,cq]at hqs
      have hqlt:∀t∈qs,t<M.steps.length:=fun t ht=>by
       obtain⟨S,h1,_⟩:=(hqs t).mp ht;obtain⟨p,hp⟩:=hok6 _ h1;exact(ok.to p S t hp).1
      cb_eq
      refine⟨D9,qs.map fun(n:Nat)=>(n:Int),M.steps.length,rfl,by rw[<-pB]; exact ak.of d9.at_,by omega,fun n hn=>?_,fun sp hsp=>?_⟩
      ·obtain⟨t,ht,rfl⟩:=bP.mp hn;have:=hqlt t ht;omega
      have s10:=s9.new wd hsp (o:=qM P w sp (qs.map fun(n:Nat)=>(n:Int)));have r10:=r9.new_ hsp (o':=qM P w sp (qs.map fun(n:Nat)=>(n:Int)));refine⟨sp,qs.map fun(n:Nat)=>(n:Int),rfl,ax,fun ns' p' hmem hpw hlen hp'=>?_⟩
      have hnn:∀n∈ns',0<=n:=fun n hn=>by
       obtain⟨t,_,rfl⟩:=bP.mp ((hmem n).mp hn);omega
      rw[OC hnn];have s11:=s10.newI wd hp' (o:=.lst (iv (ns'.map fM))) aT;have r11:=r10.newI s10.wd hp' (o':=.lst (iv (ns'.map fM))) aT;have e11:=bu (o:=.lst (iv (ns'.map fM))) (s10.wd.noG hp')
      have hmemN:∀t,t∈ns'.map fM↔t∈qs:=fun t=>by
       rw[bP];constructor
       ·rintro⟨n,hn,rfl⟩;obtain⟨t,ht,rfl⟩:=bP.mp ((hmem n).mp hn);rw[fm]; exact ht
       ·intro ht;exact⟨t,(hmem _).mpr (bP.mpr ⟨t,ht,rfl⟩),fm t⟩
      obtain⟨_,hrow'⟩:=Ut (places':=ns'.map fM) ok hL hfew hrow hlt hss hb1 hb2 (fun t=>by rw[hmemN,hqs]);rw[show m0-i-1=m0-(i+1) by omega];refine⟨m0-(i+1),by omega,_,_,_,_,_,p',ns'.map fM,_,i+1,rfl,rfl,s11,e15.trans (e56.trans e11),r11,ax,fun p hp=>hqlt p ((hmemN p).mp hp),by rw[aE]; omega,hrow'⟩
   ·rw[dF (by omega: ¬(0:Int)<((m0-i:Nat):Int))];simp only[aV,if_false];have e:i=m0:=by omega
    subst e
    cb_eq
    exact q _ _ _ (s5.sealO wd r5 aT) (.inr ⟨rp,row,rfl,ax,Up hL hfew hrow⟩)
end
section
variable{X:Cx}{C:aa}
def Ct(sp:Sp)(R:Hp->Prop)(σ0:L2.St)(t:TA):TE:=fun σ' H Q=>σ'=σ0/\t σ' H fun vs H1=>sp vs H1 Q fun _ _ H'=>R H'
theorem BM{sp:Sp}{R:Hp->Prop}{σ:L2.St}{t:TA}{H:Hp}{Q:VK}:Ct sp R σ t σ H Q=t σ H fun vs H1=>sp vs H1 Q fun _ _ H'=>R H':=propext ⟨fun h=>h.2,fun h=>⟨rfl,h⟩⟩
theorem BN{tb:L2.St->(Hp->Prop)->TS}{ts:TS}{D:iy}{σ:L2.St}{H:Hp}:Lc tb ts D σ H=tb σ (fun H'=>ts D σ H') D σ H:=rfl
theorem BA{pins:List (aa×Obj)}{σ:L2.St}{R:Hp->Prop}{x:Str}{k:Nat}{ps:List Str}{sp:Sp}{p pos:Pos}{e:aJ}{es:List aJ}{t:TA}(F:Kn X.prog X.w X.K X.mg X.base (dv X.prog X.w C) x k ps sp)(hr:cy k X.A)(hg:Gl X x)(ha:PA (X.tried C pins σ R) (e::es) t)
  (hdb:(x==("__debug__":Str))=false:=by decide)(he:bN (e::es) X.env=(false,bw e X.env)::bN es X.env:=by rfl)(hpl:(dX pos (bN es X.env)).any (·.1)=false:=by rfl):
  PE (X.tried C pins σ R) (.Call (.Name x p) (e::es) [] pos) (Ct sp R σ t):=by
 obtain⟨f,fd,F,h1,h2,h3⟩:=F;exact RR F hr hg h1 h2 h3 ha hdb he hpl
end
section
variable{P:aO}{w:aN}{K:aw}{mg:Str->Option ae}{base:aC}{A:Ad}
def Vg(A:Ad):Sp:=fun vs H Q _=>∃(G:Hp)(a:aa)(s:ag),vs=[.ref a]/\Wd A.toCn G H/\G a=some (.lst (bv s))/\
 cQ A.toCn G H Q fun G' v=>(v=.non/\lg s=none)\/∃p r,v=.ref p/\lg s=some r/\ja A G' p r
theorem QU(T:ba K mg A):Kn P w K mg base aX "fits_pattern" 11 ["line"] (Vg A):=by
 have sc:aW ["line"] ["line"] (aI IX):=bo;refine Kn.of T.Ys sc (fun vs H Q E h=>?_) (fun f cdv A0 outer s0 H vs Q E hr h=>?_)
 ·obtain⟨_,_,_,rfl,_⟩:=h; rfl
 obtain⟨G,a,s,rfl,wd,hs,q⟩:=h
 refine⟨_,(aq (bz (PW.pt (xA (bI mG (cL T.Xe (pv 0)) (bB T.ZL rfl) (bp _)) (xB (bI xo (bB T.XO rfl) (pv 0) (by with_unfolding_all rfl)))))
    (au (aL lF))
    bE)
   (au (BG rfl rfl rfl T.Xq T.Xr (by decide) (fun _ _ _=>by exact(au (aL (BA (Bc T) (hr.mono (by decide)) rfl (af (pv 0) ao))))) (fun _=>by exact(au (aL lF)))))),?_⟩
 cb_eq
 refine cw (ak.of (wd.sub _ _ hs)) ?_;rw[cU]
 cb_eq
 by_cases hl:128<s.length
 ·rw[dT (by omega:(128:Int)<((s.length:Nat):Int))];simp only[if_true];exact q _ _ _ (Step.refl wd) (.inl ⟨rfl,by unfold lg; rw[if_pos (.inl hl)]⟩)
 ·rw[dF (by omega: ¬(128:Int)<((s.length:Nat):Int))];simp only[aV,if_false];refine yl (ak.of (wd.sub _ _ hs)) rfl (Ae s) ?_;rw[show(if false=true then !gw (.int 10) (bv s)else gw (.int 10) (bv s))=s.contains 10 by rw[if_neg (by decide)]; show gw (.int ((10:UInt8).toNat:Int)) (bv s)=_; rw[wO 10 s,sC]]
  cb_eq
  cases hc:s.contains 10 with
  |true=>
   simp only[if_true];exact q _ _ _ (Step.refl wd) (.inl ⟨rfl,by unfold lg; rw[if_pos (.inr hc)]⟩)
  |false=>
   simp only[aV,if_false,BN]
   cb_eq
   simp only[BM]
   cb_eq
   have hpo:lg s=(dB s).bind fun y=>y:=by unfold lg; rw[if_neg (fun z=>by rcases z with z|z; exact hl z; rw[hc]at z; cases z)]
   refine⟨G,a,s,rfl,wd,hs,by omega,fun o ho G1 H1 v s1 hv=>?_,fun hf G1 H1 s1=>?_⟩
   ·refine q _ _ _ s1 ?_;cases o with
    |none=>exact .inl ⟨hv,by rw[hpo,ho]; rfl⟩
    |some r=>
     obtain⟨p,rfl,hp⟩:=hv;exact .inr ⟨p,r,rfl,by rw[hpo,ho]; rfl,hp⟩
   ·exact q _ _ _ s1 (.inl ⟨rfl,by rw[hpo,hf]; rfl⟩)
def fD(a:vX):List V:=V.int a.ret::iv a.nums
def ym(A:Ad)(G H:Hp)(Q:VK)(a:vX):Prop:=cQ A.toCn G H Q fun G' v=>∃p,v=.ref p/\G' p=some (.lst (fD a))
theorem oY{G H G1 H1:Hp}{Q:VK}{a:vX}{xs:List V}(wd:Wd A.toCn G H)(q:ym A G H Q a)(s:Step A.toCn G H G1 H1)(e:xs=fD a):∀p,H1 p=none->Q (.ref p) (ah H1 p (.lst xs)):=fun p hp=>by
 subst e;exact q _ _ _ (s.newI wd hp aT) ⟨p,rfl,ax⟩
def Vf(A:Ad):Sp:=fun vs H Q _=>∃(G:Hp)(d:Nat)(a b:aa)(y x:ag),vs=[.int d,.ref a,.ref b]/\Wd A.toCn G H/\G a=some (.lst (bv y))/\G b=some (.lst (bv x))/\ym A G H Q (lh [] (.fits d y x))
theorem QT(T:ba K mg A):Kn P w K mg base aX "fits" 12 ["is_directory","line","path"] (Vf A):=by
 have sc:aW ["is_directory","line","path","pattern"] ["is_directory","line","path"] (aI IW):=bo;refine Kn.of T.Yr sc (fun vs H Q E h=>?_) (fun f cdv A0 outer s0 H vs Q E hr h=>?_)
 ·obtain⟨_,_,_,_,_,_,rfl,_⟩:=h; rfl
 obtain⟨G,d,a,b,y,x,rfl,wd,hy,hx,q⟩:=h
 refine⟨_,(aq (pS 3 sc.nd (cF (QU T) hr (af (pv 1) ao)))
   (aq (bz (bI Bf (pv 3) lF (bp _))
    (au (aL (br (af (gP gQ aA) ao))))
    bE)
   (aq (bz (lG (dR (cF (AY T) hr (af (pv 2) ao))))
    (au (aL (br (af (gP gQ aA) ao))))
    bE)
   (au (aL (br (af (BB (dR (cF (Re T) hr (af (pv 3) (af (fJ uj (pv 0) aA (bp _)) (af (pv 2) ao))))) aA aA) ao))))))),?_⟩
 cb_eq
 refine⟨G,a,y,rfl,wd,hy,fun G1 H1 v s1 hv=>?_⟩
 cb_eq
 rcases hv with⟨rfl,hp⟩|⟨p,r,rfl,hp,hpat⟩
 ·rw[dT rfl];simp only[if_true];refine⟨by decide,oY wd q s1 ?_⟩;show _=fD (match lg y with|none=>gU|some r=>_);rw[hp];rfl
 ·rw[dF (fun z=>by cases z)];simp only[aV,if_false];refine⟨G1,b,x,rfl,s1.wd,eF (s1.same wd _ _ hx),fun G2 H2 v s2 hv=>?_⟩;subst hv;have s12:=s1.trans wd s2
  cb_eq
  cases hpo:gO x with
  |none=>
   simp only[qF,eD,if_true];refine⟨by decide,oY wd q s12 ?_⟩;show _=fD (match lg y with|none=>gU|some r=>(match gO x with|none=>de (-2)|some p=>_));rw[hp,hpo];rfl
  |some pp=>
   simp only[mZ,eX,aV,if_false]
   have hgood:(aG 47 x).all gx=true/\x.length<=PATH:=by
    unfold gO at hpo;by_cases z:(aG 47 x).all gx=true/\x.length<=PATH
    ·exact z
    ·rw[if_neg z]at hpo; cases hpo
   have hpp:pp=aG 47 x:=by
    unfold gO at hpo;rw[if_pos hgood]at hpo;cases hpo; rfl
   refine⟨G2,p,r,!decide ((d:Int)=0),b,x,rfl,s12.wd,hpat.mono (s2.same s1.wd),eF (s12.same wd _ _ hx),hgood.2,wL hgood.1,fun G3 H3 v s3 hv=>?_⟩;subst hv;have s13:=s12.trans wd s3
   cb_eq
   have hd:(d != 0)=!decide ((d:Int)=0):=by
    by_cases z:d=0
    ·subst z; rfl
    ·rw[dF (by omega)]; simp[z]
   have key:∀z:Int,z=(if kA r [] (aG 47 x) (d != 0)=true then 1 else 0)->[V.int z]=fD (lh [] (.fits d y x)):=fun z e=>by
    show _=fD (match lg y with|none=>gU|some r=>(match gO x with|none=>de (-2)|some p=>de (if kA r [] p (d != 0)=true then 1 else 0)));rw[hp,hpo,hpp,e];rfl
   rw[<-hd];cases hrf:kA r [] (aG 47 x) (d != 0)with
   |true=>
    simp only[if_true];exact⟨by decide,oY wd q s13 (key 1 (by rw[hrf]; rfl))⟩
   |false=>
    simp only[aV,if_false];exact⟨by decide,oY wd q s13 (key 0 (by rw[hrf]; rfl))⟩
abbrev uA(s:ag):Option cX:=(dB s).bind id
abbrev vJ(A:Ad)(G:Hp)(as:List aa)(rs:List cX):Prop:=bH (fun p r=>ja A G p r) as rs
def VB(A:Ad):Sp:=fun vs H Q E=>∃(G:Hp)(a:aa)(rows:List ag),vs=[.ref a]/\Wd A.toCn G H/\DW G a rows/\(∀s∈rows,s.length<=10000)/\rows.length<=10000/\
 (rows.all (fun s=>!ij s)=true->cQ A.toCn G H Q fun G' v=>∃p as,v=.ref p/\G' p=some (.lst (as.map V.ref))/\vJ A G' as (rows.filterMap uA))/\(rows.all (fun s=>!ij s)=false->jY A G H E)
theorem Aw{G:Hp}{v:V}{s:ag}(h:iU A G v s):(v=.non/\uA s=none)\/∃p r,v=.ref p/\uA s=some r/\ja A G p r:=by
 unfold iU at h;unfold uA;cases e:dB s with
 |none=>rw[e]at h; exact fK h
 |some o=>
  rw[e]at h;cases o with
  |none=>exact .inl ⟨h,rfl⟩
  |some r=>
   obtain⟨p,h1,h2⟩:=h;exact .inr ⟨p,r,h1,rfl,h2⟩
theorem Gz{G:Hp}{v:V}{s:ag}{o:Option cX}(h:match o with|none=>v=.non|some r=>∃p,v=.ref p/\ja A G p r)(e:dB s=some o):iU A G v s:=by
 unfold iU;rw[e];cases o with
 |none=>exact h
 |some r=>exact h
theorem Ri(T:ba K mg A):Kn P w K mg base (dv P w A.fault) "patterns_of" 11 ["lines"] (VB A):=by
 have sc:aW ["lines","patterns","line","pattern"] ["lines"] (aI Jr):=bo;refine Kn.ofF T.YN sc (fun vs H Q E h=>?_) (fun f cdv A0 outer s0 H vs Q E hr h=>?_)
 ·obtain⟨_,_,_,rfl,_⟩:=h; rfl
 obtain⟨G,a,rows,rfl,wd,⟨ras,hra,prows⟩,hrl,hrn,q,qf⟩:=h;have hlr:=bR prows
 refine⟨_,(aq (Sr fU rfl sc.nd (i:=1) rfl rfl (xT rfl rfl rfl rfl) (dt (pv 0)) (own:=[("line",2)]) (fE (by kernel_rfl)) (fun _ _ _ _ _=>by exact(gN 2 sc.nd)) (fun _ _ _ _ _=>by exact jN) (fun _ _ _ _ _ _=>by exact(il (Bc T) (hr.mono (by decide)) RF rfl (af (pv 2) ao))))
   (au (aL (hO rfl sc.nd (dt (pv 1)) (own:=[("pattern",3)]) (fE (by kernel_rfl)) (fun _ _ _ _ _=>by exact(gN 3 sc.nd)) (fun _ _ _ _ _=>by exact(nQ (bI Bi (pv 3) lF (bp _)))) (fun _ _ _ _ _=>by exact(pv 3)))))),?_⟩
 cb_eq
 refine gR (ak.of (wd.sub _ _ hra)) (fun D i H'=>∃(G1:Hp)(vs:List V),Step A.toCn G H G1 H'/\ar A.toCn H G1 H' D (.lst vs)/\vs.length=i/\(rows.take i).all (fun s=>!ij s)=true/\bH (iU A G1) vs (rows.take i)) ?_ ?_ ?_ ?_
 ·intro D hD;exact⟨G,[],(Step.refl wd).new wd hD,ar.make wd (Step.refl wd) hD,rfl,by rw[eO]; rfl,by rw[eO]; exact .nil⟩
 ·rintro D i H' _ ⟨G1,_,s1,_⟩;exact ak.of (s1.wd.sub _ _ (s1.same wd _ _ hra))
 ·rintro D i v H1 hv ⟨G1,vs,s1,o1,hvl,hall,hp1⟩;obtain⟨pa,hpa,rfl⟩:=eI hv;obtain⟨s,hs,hsG⟩:=dH prows hpa;have hil:=(aK.mp hs).1
  cb_eq
  refine⟨G1,pa,s,rfl,s1.wd,s1.same wd _ _ hsG,hrl s (dq hs),fun o ho G2 H2 v s2 hv=>?_,fun hf G2 H2 s2=>?_⟩
  ·have s12:=s1.trans wd s2;have o2:=o1.call s2;refine⟨vs,o2.at_,by rw[hvl]; exact bZ (m:=10000) (by omega) (by decide),G2,vs++[v],s12.put wd o2,o2.put_,by rw[bt,hvl]; rfl,?_,?_⟩
   ·rw[take_snoc hs,List.all_append,hall];show(true&&((!ij s)&&true))=true;unfold ij;rw[ho];rfl
   ·rw[take_snoc hs];exact jJ (cO (fun _ _ z=>z.mono (s2.same s1.wd)) hp1) (.cons (Gz hv ho) .nil)
  ·refine qf ?_ _ _ (s1.trans wd s2);rw[List.all_eq_false];exact⟨s,dq hs,by unfold ij; rw[hf]; decide⟩
 ·rintro D H1 ⟨G1,vs,s1,o1,hvl,hall,hp1⟩;rw[aE,hlr,cq]at hall hp1;rw[aE,hlr]at hvl
  cb_eq
  refine gR (ak.of o1.at_) (fun D2 i H'=>∃(as:List aa),Step A.toCn G H G1 H'/\ar A.toCn H G1 H' D (.lst vs)/\ar A.toCn H G1 H' D2 (.lst (as.map V.ref))/\D2≠D/\as.length<=i/\vJ A G1 as ((rows.take i).filterMap uA)) ?_ ?_ ?_ ?_
  ·intro D2 hD2;exact⟨[],s1.new wd hD2,o1.new_ hD2,ar.make wd s1 hD2,(fun z=>by rw[z,o1.at_]at hD2; cases hD2),aF _,by rw[eO]; exact .nil⟩
  ·rintro D2 i H' _ ⟨_,_,o2,_⟩;exact ak.of o2.at_
  ·rintro D2 i v H2 hv ⟨as,s2,o2,d2,hne,hal,hpa⟩;obtain⟨s,hs,hline⟩:=dH hp1 hv;have hil:=(aK.mp hs).1
   cb_eq
   rw[take_snoc hs,List.filterMap_append];rcases Aw hline with⟨rfl,hr⟩|⟨p,r,rfl,hr,hpat⟩
   ·rw[dT rfl];simp only[eX,aV,if_false];refine⟨as,s2,o2,d2,hne,by omega,?_⟩;rw[sE,hr,List.filterMap_nil,cC];exact hpa
   ·rw[dF (fun z=>by cases z)];simp only[eD,if_true];refine⟨_,d2.at_,by rw[aE]; exact bZ (m:=10000) (by omega) (by decide),as++[p],s2.put wd d2,o2.other (bq hne),?_,hne,by rw[bt,dJ]; omega,?_⟩
    ·rw[cv]; exact d2.put_
    ·rw[sE,hr,List.filterMap_nil];exact jJ hpa (.cons hpat .nil)
  ·rintro D2 H2 ⟨as,s2,o2,d2,hne,hal,hpa⟩;rw[hvl,cq]at hpa
   cb_eq
   refine q hall _ _ _ (s2.sealO wd d2 aT) ⟨D2,as,rfl,ax,cO (fun _ _ z=>z.mono (bu d2.g)) hpa⟩
theorem Fz(x:ag):(pA x).isNone=(linesOf x).all (fun s=>!ij s):=by
 unfold pA;rw[Option.isNone_map];cases h:(linesOf x).findIdx? ij with
 |none=>
  have:=LP.mp h
  symm
  rw[Option.isNone_none,ju];intro s hs;rw[this s hs];rfl
 |some i=>
  obtain⟨hi,hp,_⟩:=Dr.mp h
  symm
  rw[Option.isNone_some,List.all_eq_false];exact⟨_,yO hi,by rw[hp]; decide⟩
theorem qU(x:ag):jb x=true↔(linesOf x).all (fun s=>!ij s)=true/\(∀s∈linesOf x,s.length<=24)/\(du x).any (·.neg)=false/\1<=(du x).length/\(du x).length<=2:=by
 unfold jb;rw[Fz];simp only[cA,decide_eq_true_iff]
 have e1:(linesOf x).all (fun s=>decide (s.length<=24))=true↔∀s∈linesOf x,s.length<=24:=by
  rw[ju];exact⟨fun h s hs=>of_decide_eq_true (h s hs),fun h s hs=>dT (h s hs)⟩
 have e2:(du x).all (fun r=>!r.neg)=true↔(du x).any (·.neg)=false:=by
  rw[ju,vi];constructor
  ·intro h r hr z;have:=h r hr;rw[z]at this;cases this
  ·intro h r hr;have:=h r hr;cases z:r.neg with
   |false=>rfl
   |true=>exact absurd z this
 rw[e1,e2]
def Vm(A:Ad):Sp:=fun vs H Q _=>∃(G:Hp)(a:aa)(x:ag),vs=[.ref a]/\Wd A.toCn G H/\G a=some (.lst (bv x))/\
 cQ A.toCn G H Q fun G' v=>∃p as rs,v=.ref p/\G' p=some (.lst (as.map V.ref))/\vJ A G' as rs/\rs=(if x.length<=64/\jb x=true then du x else [])
theorem QZ(T:ba K mg A):Kn P w K mg base aX "least_patterns" 12 ["text"] (Vm A):=by
 have sc:aW ["text","lines","line","patterns","pattern"] ["text"] (aI Je):=bo;refine Kn.of T.Yz sc (fun vs H Q E h=>?_) (fun f cdv A0 outer s0 H vs Q E hr h=>?_)
 ·obtain⟨_,_,_,rfl,_⟩:=h; rfl
 obtain⟨G,a,x,rfl,wd,hx,q⟩:=h
 have none_:∀{G1 H1:Hp},Step A.toCn G H G1 H1-> ¬(x.length<=64/\jb x=true)->∀p,H1 p=none->Q (.ref p) (ah H1 p (.lst [])):=fun s1 hno p hp=>
  q _ _ _ (s1.newI wd hp (o:=.lst []) aT) ⟨p,[],[],rfl,ax,.nil,by rw[if_neg hno]⟩
 refine⟨_,(aq (bz (bI mG (cL T.Xe (pv 0)) (bB T.ZM rfl) (bp _))
    (au (aL (br ao)))
    bE)
   (aq (pS 1 sc.nd (cF (Ba T) hr (af (pv 0) (af (bB T.XO rfl) ao))))
   (aq (bz (bI mG (jL (Nu rfl) (by rfl) T.Yf boot_max (af (hO rfl sc.nd (dt (pv 1)) (own:=[("line",2)]) (fE (by kernel_rfl)) (fun _ _ _ _ _=>by exact(gN 2 sc.nd)) (fun _ _ _ _ _=>by exact jN) (fun _ _ _ _ _=>by exact(jL (zW (K:=K) rfl) (by rfl) T.Xe zr (af (pv 2) ao)))) ao)) (bB T.ZN rfl) (bp _))
    (au (aL (br ao)))
    bE)
   (aq (BG rfl rfl rfl T.Xq T.Xr (by decide) (fun _ _ _=>by exact(au (pS 3 sc.nd (BA (Ri T) (hr.mono (by decide)) rfl (af (pv 1) ao))))) (fun _=>by exact(au (aL (br ao)))))
   (aq (bz (PW.pt (xA (bI mG (cL T.Xe (pv 3)) (bB T.ZO rfl) (bp _)) (xB (dR (jL (Nt rfl) (by rfl) T.Ye boot_any (af (hO rfl sc.nd (dt (pv 3)) (own:=[("pattern",4)]) (fE (by kernel_rfl)) (fun _ _ _ _ _=>by exact(gN 4 sc.nd)) (fun _ _ _ _ _=>by exact jN) (fun _ _ _ _ _=>by exact(rL (K:=K) rfl (pv 4) rfl))) ao))))))
    (au (aL (br ao)))
    bE)
   (au (aL (pv 3)))))))),?_⟩
 cb_eq
 refine cw (ak.of (wd.sub _ _ hx)) ?_;rw[cU]
 cb_eq
 by_cases hl:64<x.length
 ·rw[dT (by omega:(64:Int)<((x.length:Nat):Int))];simp only[if_true];exact⟨by decide,none_ (Step.refl wd) (fun z=>by omega)⟩
 rw[dF (by omega: ¬(64:Int)<((x.length:Nat):Int))];simp only[aV,if_false];refine⟨G,a,x,10,rfl,wd,eF hx,by omega,fun G1 H1 v s1 hv=>?_⟩;obtain⟨p1,rfl,hrows⟩:=hv;have hrowsL:=hrows;obtain⟨ras,hra,prows⟩:=hrows;have hlr:=bR prows;have hsl:=split_len 10 x
 cb_eq
 refine gR (ak.of (s1.wd.sub _ _ hra)) (fun D i H'=>Step A.toCn G H G1 H'/\ar A.toCn H G1 H' D (.lst (iv (((aG 10 x).take i).map dS)))) ?_ ?_ ?_ ?_
 ·intro D hD;exact⟨s1.new wd hD,by rw[eO]; exact ar.make wd s1 hD⟩
 ·rintro D i H' _ ⟨s2,_⟩;exact ak.of (s2.wd.sub _ _ hra)
 ·rintro D i v H2 hv ⟨s2,o2⟩;obtain⟨pa,hpa,rfl⟩:=eI hv;obtain⟨s,hs,hsG⟩:=dH prows hpa;have hil:=(aK.mp hs).1
  cb_eq
  refine cw (ak.of (s2.wd.sub _ _ hsG)) ?_;refine⟨_,o2.at_,?_,s2.put wd o2,?_⟩
  ·rw[dG,aE,cP]; exact bZ (m:=65) (by omega) (by decide)
  ·rw[take_snoc hs,cv,<-ik,cU];exact o2.put_
 ·rintro D H2 ⟨s2,o2⟩;rw[aE,hlr,cq]at o2
  cb_eq
  refine⟨D,((aG 10 x).map dS).map fun(n:Nat)=>(n:Int),rfl,by rw[<-pB]; exact ak.of o2.at_,by rw[aE,aE]; exact fC.mpr (eV 10 x),fun m hm hle=>?_⟩;obtain⟨k,hk,rfl⟩:=bP.mp hm;obtain⟨sk,hsk,rfl⟩:=bP.mp hk
  cb_eq
  by_cases h24:24<sk.length
  ·rw[dT (by omega:(24:Int)<((sk.length:Nat):Int))];simp only[if_true];exact⟨by decide,none_ s2 (fun z=>by have:=((qU x).mp z.2).2.1 sk hsk; omega)⟩
  rw[dF (by omega: ¬(24:Int)<((sk.length:Nat):Int))];simp only[aV,if_false]
  have hall24:∀s∈linesOf x,s.length<=24:=fun s hs=>by
   have:=hle _ (bP.mpr ⟨_,bP.mpr ⟨s,hs,rfl⟩,rfl⟩);omega
  simp only[BN]
  cb_eq
  simp only[BM]
  cb_eq
  refine⟨G1,p1,aG 10 x,rfl,s2.wd,hrowsL,fun s hs=>dW (hall24 s hs) (by decide),by omega,fun hok G3 H3 v s3 hv=>?_,fun hf G3 H3 s3=>?_⟩
  ·obtain⟨p3,as,rfl,hp3,hpats⟩:=hv;have s23:=s2.trans wd s3;have hpats:vJ A G3 as (du x):=hpats;have hlas:=bR hpats
   have hrl:(du x).length<=65:=by
    have:(du x).length<=(linesOf x).length:=List.length_filterMap_le _ _;have:(linesOf x).length=(aG 10 x).length:=rfl;omega
   cb_eq
   refine cw (ak.of (s23.wd.sub _ _ hp3)) ?_;rw[aE,hlas]
   cb_eq
   by_cases h2:2<(du x).length
   ·rw[dT (by omega:(2:Int)<(((du x).length:Nat):Int))];simp only[if_true];exact⟨by decide,none_ s23 (fun z=>by have:=((qU x).mp z.2).2.2.2.2; omega)⟩
   rw[dF (by omega: ¬(2:Int)<(((du x).length:Nat):Int))];simp only[aV,if_false];refine gR (ak.of (s23.wd.sub _ _ hp3)) (fun D i H'=>Step A.toCn G H G3 H'/\ar A.toCn H G3 H' D (.lst ((((du x).take i).map (·.neg)).map V.bl))) ?_ ?_ ?_ ?_
   ·intro D hD;exact⟨s23.new wd hD,by rw[eO]; exact ar.make wd s23 hD⟩
   ·rintro D i H' _ ⟨s4,_⟩;exact ak.of (s4.wd.sub _ _ hp3)
   ·rintro D i v H4 hv ⟨s4,o4⟩;obtain⟨pa,hpa,rfl⟩:=eI hv;obtain⟨r,hr,dx,m,cs,hrG,_⟩:=dH hpats hpa;have hil:=(aK.mp hr).1
    cb_eq
    refine bx (s4.wd.sub _ _ hrG) T.Xl T.XE Bt ?_;refine⟨_,o4.at_,?_,s4.put wd o4,?_⟩
    ·rw[aE,aE,cP]; exact bZ (m:=65) (by omega) (by decide)
    ·rw[take_snoc hr,cv,cv];exact o4.put_
   ·rintro D4 H4 ⟨s4,o4⟩;rw[aE,hlas,cq]at o4
    cb_eq
    refine⟨D4,(du x).map (·.neg),rfl,ak.of o4.at_,?_⟩
    cb_eq
    have hany:((du x).map (·.neg)).any id=(du x).any (·.neg):=by rw[vj]; rfl
    rw[hany];cases hn:(du x).any (·.neg)with
    |true=>
     simp only[if_true];exact⟨by decide,none_ s4 (fun z=>by have:=((qU x).mp z.2).2.2.1; rw[hn]at this; cases this)⟩
    |false=>
     simp only[aV,if_false];refine q _ _ _ s4 ⟨p3,as,_,rfl,hp3,hpats,?_⟩;by_cases h0:du x=[]
     ·rw[h0]; split<;>rfl
     ·rw[if_pos ⟨by omega,(qU x).mpr ⟨hok,hall24,hn,fC.mpr h0,by omega⟩⟩]
  ·refine⟨by decide,none_ (s2.trans wd s3) (fun z=>?_)⟩;have:=((qU x).mp z.2).1;have hf:(linesOf x).all (fun s=>!ij s)=false:=hf;rw[hf]at this;cases this
theorem Nj{x:ag}{r:cX}{cs:List MC}(h24:∀s∈linesOf x,s.length<=24)(hr:r∈du x)(hc:iR r.segs cs):cs.length<=28:=by
 unfold du at hr;obtain⟨s,hs,e⟩:=kP.mp hr
 have hl:dB s=some (some r):=by
  cases z:dB s with
  |none=>rw[z]at e; cases e
  |some o=>rw[z]at e; have e:o=some r:=e; rw[e]
 have:=Ni hl hc;have:=h24 s hs;omega
theorem RK{a b c:Bool}{m:aa}:(lE a b c m).lookup ("matcher":Str)=some (.ref m):=by rfl
structure Md(A:Ad)(G:Hp)(ma:aa)(rs:List cX)(M:aZ)(c:Nat)(Bs:List aZ):Prop where
 at_:iB A G ma M
 bd:kS M c
 set:∀p S t,(S,t)∈M.from p->S<2^256
 each:bH (fun B(r:cX)=>∃cs,iR r.segs cs/\cs.length<=28/\jy cs B) Bs rs
 lang:∀x,fB M x↔fB jk x/\∀B∈Bs,fB B x
 len:M.steps.length<=4*29^rs.length
 cl:c<=2*30^rs.length
 ok:rs≠[]->mX M
def Vl(A:Ad):Sp:=fun vs H Q _=>∃(G:Hp)(a:aa)(x:ag),vs=[.ref a]/\Wd A.toCn G H/\G a=some (.lst (bv x))/\ym A G H Q (lh [] (.least x))
theorem ME(y:ag):fD (nu 1 (y.length::y.map fun(c:UInt8)=>c.toNat))=[V.int 1,V.int (y.length:Nat)]++bv y:=by
 show V.int 1::iv (y.length::y.map fun(c:UInt8)=>c.toNat)=_;unfold iv bv;rw[cV,gB];rfl
theorem QY(T:ba K mg A):Kn P w K mg base aX "least" 13 ["text"] (Vl A):=by
 have sc:aW ["text","patterns","machine","pattern","path"] ["text"] (aI Jd):=bo;refine Kn.of T.Yy sc (fun vs H Q E h=>?_) (fun f cdv A0 outer s0 H vs Q E hr h=>?_)
 ·obtain⟨_,_,_,rfl,_⟩:=h; rfl
 obtain⟨G,a,x,rfl,wd,hx,q⟩:=h;have hu64:=hr.units
 refine⟨_,(aq (pS 1 sc.nd (cF (QZ T) hr (af (pv 0) ao)))
   (aq (bz (bI (Rw hu64) (pv 1) (br ao) (bp _))
    (au (aL (br (af (gP gQ aA) ao))))
    bE)
   (aq (pS 2 sc.nd (hJ (Rf T) (hr.mono (by decide)) bA rfl))
   (aq (fX eZ rfl (dt (pv 1)) (gN 3 sc.nd)
    (au (pS 2 sc.nd (cF (QO T) hr (af (pv 2) (af (cF (Rh T) hr (af (bK (pv 3) rfl) ao)) ao))))))
   (aq (pS 4 sc.nd (cF (Ra T) hr (af (pv 2) ao)))
   (aq (bz (bI Bf (pv 4) lF (bp _))
    (au (aL (br (af aA ao))))
    bE)
   (au (aL (bb rH (br (af aA (af (cL T.Xe (pv 4)) ao))) (pv 4)))))))))),?_⟩
 cb_eq
 refine⟨G,a,x,rfl,wd,hx,fun G1 H1 v s1 hv=>?_⟩;obtain⟨p1,as,rs,rfl,hp1,hpats,hrs⟩:=hv;have hlas:=bR hpats
 cb_eq
 refine⟨by decide,fun e2 he2=>?_⟩;have s2:=s1.new wd he2 (o:=.lst []);refine⟨p1,e2,as.map V.ref,rfl,rfl,ak.of (s2.wd.sub _ _ hp1),ak.of ax,?_⟩
 cb_eq
 have htold:lh [] (.least x)=if 64<x.length\/jb x=false then gU else(match Pg.least x with
  |some y=>nu 1 (y.length::y.map fun(c:UInt8)=>c.toNat)
  |none=>de 0):=rfl
 by_cases hz:x.length<=64/\jb x=true
 case neg=>
  rw[if_neg hz]at hrs;subst hrs;cases hpats;rw[dT (by rfl)];simp only[if_true];refine⟨by decide,oY wd q s2 ?_⟩;rw[htold,if_pos ?_]
  ·rfl
  ·by_cases z:64<x.length
   ·exact .inl z
   ·refine .inr ?_;cases e:jb x with
    |false=>rfl
    |true=>exact absurd ⟨by omega,e⟩ hz
 case pos=>
  rw[if_pos hz]at hrs;subst hrs;obtain⟨_,h24,_,h1,h2⟩:=(qU x).mp hz.2;rw[dF (fun z=>by have:=congrArg dS z; rw[aE,hlas]at this; have:(du x).length=0:=this; omega)];simp only[aV,if_false];refine⟨G1,rfl,s2.wd,fun G3 H3 pm s3 hpm=>?_⟩;have s13:=s2.trans wd s3;have e13:=s3.same s2.wd
  cb_eq
  refine jV (ak.of (s13.wd.sub _ _ (e13 _ _ hp1))) (fun i σ H'=>∃(x3 x4:Option V)(G4:Hp)(ma:aa)(M:aZ)(c:Nat)(Bs:List aZ),σ=[some (.ref a),some (.ref p1),some (.ref ma),x3,x4]/\Step A.toCn G H G4 H'/\bh G1 G4/\Md A G4 ma ((du x).take i) M c Bs) ?_ ?_ ?_ ?_
  ·refine⟨_,_,G3,pm,jk,2,[],rfl,s13,e13,?_⟩;rw[eO];exact⟨hpm,RL,fun p S t h=>RO h,.nil,fun y=>⟨fun h=>⟨h,fun B hB=>(by cases hB)⟩,fun h=>h.1⟩,by decide,by decide,fun z=>absurd rfl z⟩
  ·rintro i σ H' _ ⟨_,_,G4,_,_,_,_,_,s4,e4,_⟩;exact ak.of (s4.wd.sub _ _ (e4 _ _ hp1))
  ·rintro i v σ H4 hv ⟨x3,x4,G4,ma,M,c,Bs,rfl,s4,e4,hM⟩;obtain⟨pa,hpa,rfl⟩:=eI hv;obtain⟨r,hr,hpat⟩:=dH hpats hpa;have hil:=(aK.mp hr).1;obtain⟨dx,m,cs,hrG,hmat,hcells,_⟩:=hpat.mono e4;have hcl:=Nj h24 (dq hr) hcells;have hMl:=hM.len;have hMc:=hM.cl;rw[cP,lW (by omega)]at hMl hMc;have hpow:29^i<=29^1/\30^i<=30^1:=⟨kd (by decide) (by omega),kd (by decide) (by omega)⟩
   cb_eq
   refine bx (s4.wd.sub _ _ hrG) T.Xl T.XN RK ?_;refine⟨G4,m,cs,rfl,s4.wd,hmat,by omega,fun G5 H5 pb B s5 hB hPM hf1 hs1=>?_⟩;have s45:=s4.trans wd s5;have e45:=s5.same s4.wd
   cb_eq
   have bdB:=RH hPM hf1 hs1;have hBl:B.steps.length<=29:=by rw[hPM.len]; omega
   have hprod:M.steps.length*B.steps.length<=4*29^i*29:=qB hMl hBl;have hprodc:c*(cs.length+2)<=2*30^i*30:=qB hMc (by omega);refine⟨G5,ma,pb,M,B,c,cs.length+2,rfl,s45.wd,hM.at_.mono e45,hB,hM.bd,bdB,hM.set,by omega,by omega,fun G6 H6 pn N met s6 hN hboth hok hbdN hlenN=>?_⟩;have s46:=s45.trans wd s6
   cb_eq
   refine⟨_,_,G6,pn,N,c*(cs.length+2),Bs++[B],rfl,s46,e4.trans (e45.trans (s6.same s45.wd)),?_⟩;rw[take_snoc hr];refine⟨hN,hbdN,fun p S t h=>(hok.to p S t h).2.2,jJ hM.each (.cons ⟨cs,hcells,hcl,hPM⟩ .nil),fun y=>?_,?_,?_,fun _=>hok⟩
   ·rw[MV hboth y,hM.lang y];constructor
    ·rintro⟨⟨z1,z2⟩,z3⟩;refine⟨z1,fun B' hB'=>?_⟩;rcases cj.mp hB' with z|z
     ·exact z2 B' z
     ·rw[cD.mp z]; exact z3
    ·rintro⟨z1,z2⟩;exact⟨⟨z1,fun B' hB'=>z2 B' (dn _ hB')⟩,z2 B (dC _ (cD.mpr rfl))⟩
   ·rw[bt,cP,lW (by omega),dJ,Nat.pow_succ,<-Nat.mul_assoc];exact dW hlenN hprod
   ·rw[bt,cP,lW (by omega),dJ,Nat.pow_succ,<-Nat.mul_assoc];exact hprodc
  ·rintro σ H4 ⟨x3,x4,G4,ma,M,c,Bs,rfl,s4,e4,hM⟩;rw[aE,hlas,cq]at hM
   cb_eq
   have hMl:=hM.len;have hMc:=hM.cl;have hpow:29^(du x).length<=29^2/\30^(du x).length<=30^2:=⟨kd (by decide) (by omega),kd (by decide) (by omega)⟩;refine⟨G4,ma,M,c,rfl,s4.wd,hM.at_,hM.bd,hM.ok (fun z=>by rw[z]at h1; exact absurd h1 (by decide)),by omega,by omega,fun G5 H5 v s5 hv=>?_⟩;have s45:=s4.trans wd s5;obtain⟨r,q',hrq,hLI⟩:=Gp hz.2
   have main:∀o,vR M o->o=Pg.least x:=fun o ho=>by
    have hLI2:qo r q' o:=by
     rcases hrq with⟨hr1,rfl⟩|hr1
     ·have he:=hM.each;have hlang:=hM.lang;rw[hr1]at he;generalize Bs=Bs at he hlang;cases he with
      |cons h1' t=>
       cases t;obtain⟨cs,c1,c2,c3⟩:=h1';refine Ia c1 c1 c3 c3 (fun y=>?_) (by omega) ho;rw[hlang y];exact⟨fun⟨z1,z2⟩=>⟨z1,z2 _ dD,z2 _ dD⟩,fun⟨z1,z2,z3⟩=>⟨z1,fun B hB=>by rw[cD.mp hB]; exact z2⟩⟩
     ·have he:=hM.each;have hlang:=hM.lang;rw[hr1]at he;cases he with
      |cons h1' t=>
       cases t with
       |cons h2' t=>
        cases t;obtain⟨cs,c1,c2,c3⟩:=h1';obtain⟨ds,d1,d2,d3⟩:=h2';refine Ia c1 d1 c3 d3 (fun y=>?_) (by omega) ho;rw[hlang y];refine⟨fun⟨z1,z2⟩=>⟨z1,z2 _ dD,z2 _ (bU _ dD)⟩,fun⟨z1,z2,z3⟩=>⟨z1,fun B hB=>?_⟩⟩;rcases bg.mp hB with rfl|hB
        ·exact z2
        ·rw[cD.mp hB]; exact z3
    exact OW hLI2 hLI
   have hnot: ¬(64<x.length\/jb x=false):=fun z=>by
    rcases z with z|z
    ·omega
    ·rw[hz.2]at z; cases z
   cb_eq
   rcases hv with⟨rfl,hno⟩|⟨pr,row,rfl,hpr,hrow⟩
   ·rw[dT rfl];simp only[if_true];refine⟨by decide,oY wd q s45 ?_⟩;rw[htold,if_neg hnot,<-main none hno];rfl
   ·rw[dF (fun z=>by cases z)];simp only[aV,if_false];refine cw (ak.of (s45.wd.sub _ _ hpr)) ?_;rw[cU];refine⟨by decide,fun p6 hp6=>?_⟩;have s6:=s45.new wd hp6 (o:=.lst [V.int 1,V.int (row.length:Nat)])
    have hl:row.length<=16000000:=by
     have h:=hLI;rw[<-main (some row) hrow]at h;have h:row.length<=PATH:=h.2;exact dW h (by decide)
    refine sj ax (s6.wd.sub _ _ hpr) ?_ (oY wd q s6 ?_)
    ·rw[cU];have:(16000002:Nat)<=aY:=by decide
     show 2+row.length<=aY;omega
    ·rw[htold,if_neg hnot,<-main (some row) hrow];exact(ME row).symm
theorem AS{A:Cn}{C dx ld ll:aa}{n:Nat}:fP A (.ins C dx (jl ld n ll)):=uc (by show some ("directory":Str)≠some "cells"; decide +kernel)
def US:Ad->Sp:=fun A vs H Q _=>∃(x dx ld ll:aa)(n:Nat),vs=[.ref x,.ref ld,.int n,.ref ll]/\H x=some (.ins A.plist dx [])/\Q .non (ah H x (.ins A.plist dx (jl ld n ll)))
theorem QA(T:ba K mg A):fA P w K mg base aX A.plist "PatternList" 1 ["self","directory","size","lines"] (US A):=by
 have sc:aW ["self","directory","size","lines"] ["self","directory","size","lines"] (aI Iw):=bo;refine fA.of T.Zk sc (fun vs H Q E h=>?_) (fun f cdv A0 outer s H vs Q E hr h=>?_)
 ·obtain⟨_,_,_,_,_,rfl,_⟩:=h; rfl
 obtain⟨x,dx,ld,ll,n,rfl,h1,q⟩:=h
 refine⟨_,(aq (fe (pv 0) (pv 1) rfl)
   (aq (fe (pv 0) (pv 2) rfl)
   (au (fe (pv 0) (pv 3) rfl)))),?_⟩
 cb_eq
 refine fi h1 T.Xm T.XC (by decide) ?_
 cb_eq
 refine fi ax T.Xm T.XW pG ?_
 cb_eq
 refine fi ax T.Xm T.XD tU ?_;rw[upd_upd,upd_upd];exact q
def Vz(A:Ad):Sp:=fun vs H Q _=>∃(G:Hp)(p:aa)(l:bD)(dx ld ll:aa)(lv:List V),vs=[.ref p]/\Wd A.toCn G H/\oJ A G p l dx ld ll lv/\cQ A.toCn G H Q fun G' v=>v=.int (qR l:Nat)
theorem OA{G:Hp}{v:V}{s:ag}(h:iU A G v s):decide (v=.non)=!isRule s:=by
 unfold isRule;rcases Aw h with⟨rfl,e⟩|⟨p,r,rfl,e,_⟩
 ·rw[dT rfl,show(dB s).bind id=none from e];rfl
 ·rw[dF (fun z=>by cases z),show(dB s).bind id=some r from e];rfl
theorem QB(T:ba K mg A):cM P w K mg base aX A.plist "pattern_count" 1 ["self"] (Vz A):=by
 have sc:aW ["self","line"] ["self"] (aI Iy):=bo;refine cM.of T.Zt sc (fun vs H Q E h=>?_) (fun f cdv A0 outer s0 H vs Q E hr h=>?_)
 ·obtain⟨_,_,_,_,_,_,_,rfl,_⟩:=h; rfl
 obtain⟨G,p,l,dx,ld,ll,lv,rfl,wd,hPL,q⟩:=h;have hlv:=bR hPL.each;have hll:=Pj l.text;have htl:=hPL.tlen;refine⟨_,(au (aL (cL T.Xe (hO rfl sc.nd (dt (bK (pv 0) rfl)) (own:=[("line",1)]) (fE (by kernel_rfl)) (fun _ _ _ _ _=>by exact(gN 1 sc.nd)) (fun _ _ _ _ _=>by exact(nQ (bI Bi (pv 1) lF (bp _)))) (fun _ _ _ _ _=>by exact(pv 1)))))),?_⟩
 cb_eq
 refine bx (wd.sub _ _ hPL.at_) T.Xm T.XD BE ?_;refine gR (ak.of (wd.sub _ _ hPL.lines)) (fun D i H'=>∃vs:List V,Step A.toCn G H G H'/\ar A.toCn H G H' D (.lst vs)/\vs.length=(((linesOf l.text).take i).filter isRule).length) ?_ ?_ ?_ ?_
 ·intro D hD;exact⟨[],(Step.refl wd).new wd hD,ar.make wd (Step.refl wd) hD,by rw[eO]; rfl⟩
 ·rintro D i H' _ ⟨_,s1,_⟩;exact ak.of (s1.wd.sub _ _ hPL.lines)
 ·rintro D i v H1 hv ⟨vs,s1,o1,hl⟩;obtain⟨s,hs,hLi⟩:=dH hPL.each hv;have hil:=(aK.mp hs).1
  cb_eq
  rw[OA hLi,take_snoc hs,qt,kO,oz];cases hr:isRule s with
  |true=>
   simp only[eX,eD,if_true];refine⟨_,o1.at_,?_,vs++[v],s1.put wd o1,o1.put_,by rw[bt,bt,hl]; rfl⟩;rw[hl];have:=oB isRule ((linesOf l.text).take i);rw[cP]at this;exact bZ (m:=10000) (by omega) (by decide)
  |false=>
   simp only[eD,eX,aV,if_false];exact⟨vs,s1,o1,by rw[cC]; exact hl⟩
 ·rintro D H1 ⟨vs,s1,o1,hl⟩;rw[hlv,cq]at hl
  cb_eq
  refine cw (ak.of o1.at_) ?_;rw[hl];exact q _ _ _ s1 rfl
def VN(A:Ad):Sp:=fun vs H Q _=>∃(G:Hp)(p:aa)(r:cX),vs=[.ref p]/\Wd A.toCn G H/\ja A G p r/\Q (.int (vY r)) H
theorem Rp(T:ba K mg A):Kn P w K mg base aX "rule_number" 1 ["pattern"] (VN A):=by
 have sc:aW ["pattern","number"] ["pattern"] (aI JD):=bo;refine Kn.of T.YZ sc (fun vs H Q E h=>?_) (fun f cdv A0 outer s0 H vs Q E hr h=>?_)
 ·obtain⟨_,_,_,rfl,_⟩:=h; rfl
 obtain⟨G,p,r,rfl,wd,⟨dx,m,cs,hp,_⟩,q⟩:=h;unfold vY at q
 refine⟨_,(aq (pS 1 sc.nd aA)
   (aq (bz (dR (bK (pv 0) rfl))
    (au (uo (i:=1) sc.nd rfl (by first|exact Or.inl rfl|exact kU rfl) aA wR))
    bE)
   (aq (bz (dR (bK (pv 0) rfl))
    (au (uo (i:=1) sc.nd rfl (by first|exact Or.inl rfl|exact kU rfl) aA wR))
    bE)
   (aq (bz (dR (bK (pv 0) rfl))
    (au (uo (i:=1) sc.nd rfl (by first|exact Or.inl rfl|exact kU rfl) aA wR))
    bE)
   (au (aL (pv 1))))))),?_⟩
 cb_eq
 refine bx (wd.sub _ _ hp) T.Xl T.XE Bt ?_
 cb_eq
 have third:∀z:Int,(z=1+(if r.neg=true then 2 else 0)+(if r.dirs=true then 4 else 0))->sy K "anchored" (.ref p) H fun x H'=>∃k,x=.bl k/\if k=true then rW 1 (tC (.int 8)) (nG fun i j=>i+j) {nx:=uP (jT 1) {nx:=fun _ H'=>Q .non H',rt:=Q},rt:=Q} [some (.ref p),some (.int z)] H' else Q (.int z) H':=fun z hz=>by
  refine bx (wd.sub _ _ hp) T.Xl T.XX RI ?_;refine⟨_,rfl,?_⟩;subst hz;cases ha:r.anchored with
  |true=>
   rw[ha]at q;simp only[if_true]at q⊢;refine uV rfl ?_
   cb_eq
   exact q
  |false=>
   rw[ha]at q;simp only[aV,if_false,Int.add_zero]at q⊢;exact q
 have second:∀z:Int,(z=1+(if r.neg=true then 2 else 0))->sy K "for_directories" (.ref p) H fun x H'=>∃k,x=.bl k/\if k=true then rW 1 (tC (.int 4)) (nG fun i j=>i+j) {nx:=Cw (Cu (Cy (xV K (jT 0) "anchored")) (rW 1 (tC (.int 8)) (nG fun i j=>i+j)) Cv) (uP (jT 1)) {nx:=fun _ H'=>Q .non H',rt:=Q},rt:=Q} [some (.ref p),some (.int z)] H'
   else sy K "anchored" (.ref p) H' fun x H'=>∃k,x=.bl k/\if k=true then rW 1 (tC (.int 8)) (nG fun i j=>i+j) {nx:=uP (jT 1) {nx:=fun _ H'=>Q .non H',rt:=Q},rt:=Q} [some (.ref p),some (.int z)] H' else Q (.int z) H':=fun z hz=>by
  refine bx (wd.sub _ _ hp) T.Xl T.XM HB ?_;refine⟨_,rfl,?_⟩;cases hd:r.dirs with
  |true=>
   simp only[if_true];refine uV rfl ?_
   cb_eq
   have:=third (z+4) (by rw[hd,hz]; rfl);exact this
  |false=>
   simp only[aV,if_false];exact third z (by rw[hd,hz]; simp)
 cases hn:r.neg with
 |true=>
  simp only[if_true];refine uV rfl ?_
  cb_eq
  exact second 3 (by rw[hn]; rfl)
 |false=>
  simp only[aV,if_false];exact second 1 (by rw[hn]; rfl)
def Vh(A:Ad):Sp:=fun vs H Q _=>∃(G:Hp)(la:aa)(as:List aa)(ls:List bD),vs=[.ref la]/\Wd A.toCn G H/\H la=some (.lst (as.map V.ref))/\kR A G as ls/\ls.length<=1000/\cQ A.toCn G H Q fun G' v=>v=.bl (qQ ls)
theorem KD(l:List Nat):(l.map fun(n:Nat)=>(n:Int)).sum=((l.sum:Nat):Int):=by
 induction l with
 |nil=>rfl
 |cons a t ih=>rw[cV,iY,iY,ih]; omega
theorem QV(T:ba K mg A):Kn P w K mg base aX "have_room" 2 ["lists"] (Vh A):=by
 have sc:aW ["lists","patterns","pattern_list","size"] ["lists"] (aI IY):=bo;refine Kn.of T.Yt sc (fun vs H Q E h=>?_) (fun f cdv A0 outer s0 H vs Q E hr h=>?_)
 ·obtain⟨_,_,_,_,rfl,_⟩:=h; rfl
 obtain⟨G,la,as,ls,rfl,wd,hla,hLs,hln,q⟩:=h;have hlas:=bR hLs
 refine⟨_,(aq (pS 1 sc.nd (jL (EW rfl) (by rfl) T.XT boot_sum (af (hO rfl sc.nd (dt (pv 0)) (own:=[("pattern_list",2)]) (fE (by kernel_rfl)) (fun _ _ _ _ _=>by exact(gN 2 sc.nd)) (fun _ _ _ _ _=>by exact jN) (fun _ _ _ _ _=>by exact(hV (pv 2) T.Xm (QB T) (hr.mono (by decide)) bA))) ao)))
   (aq (pS 3 sc.nd (jL (EW rfl) (by rfl) T.XT boot_sum (af (hO rfl sc.nd (dt (pv 0)) (own:=[("pattern_list",2)]) (fE (by kernel_rfl)) (fun _ _ _ _ _=>by exact(gN 2 sc.nd)) (fun _ _ _ _ _=>by exact jN) (fun _ _ _ _ _=>by exact(rL (K:=K) rfl (pv 2) rfl))) ao)))
   (au (aL (Bz (fJ Bg (cL T.Xe (pv 0)) (bB T.ZP rfl) (bp _)) (Bz (fJ Bg (pv 1) (bB T.ZR rfl) (bp _)) (BC (fJ Bg (pv 3) (bB T.ZK rfl) (bp _))))))))),?_⟩
 cb_eq
 refine gR (ak.of hla) (fun D i H'=>∃G1,Step A.toCn G H G1 H'/\ar A.toCn H G1 H' D (.lst (iv ((ls.take i).map qR)))) ?_ ?_ ?_ ?_
 ·intro D hD;exact⟨G,(Step.refl wd).new wd hD,by rw[eO]; exact ar.make wd (Step.refl wd) hD⟩
 ·rintro D i H' _ ⟨G1,s1,_⟩;exact ak.of (s1.keepL wd hla)
 ·rintro D i v H1 hv ⟨G1,s1,o1⟩;obtain⟨pa,hpa,rfl⟩:=eI hv;obtain⟨l,hl,dx,ld,ll,lv,hPL⟩:=dH hLs hpa;have hil:=(aK.mp hl).1;have hPL1:=hPL.mono (s1.same wd)
  cb_eq
  refine eK (s1.wd.sub _ _ hPL1.at_) (by rfl) ?_;refine⟨G1,pa,l,dx,ld,ll,lv,rfl,s1.wd,hPL1,fun G2 H2 v s2 hv=>?_⟩;subst hv;have s12:=s1.trans wd s2;have o2:=o1.call s2;refine⟨_,o2.at_,?_,G2,s12.put wd o2,?_⟩
  ·rw[dG,aE,cP]; exact bZ (m:=1000) (by omega) (by decide)
  ·rw[take_snoc hl,cv,<-ik];exact o2.put_
 ·rintro D H1 ⟨G1,s1,o1⟩;rw[aE,hlas,cq]at o1
  cb_eq
  refine⟨D,(ls.map qR).map fun(n:Nat)=>(n:Int),rfl,by rw[<-pB]; exact ak.of o1.at_,?_⟩;rw[KD]
  cb_eq
  have hLs1:=hLs.mono (s1.same wd);refine gR (ak.of (s1.keepL wd hla)) (fun D2 i H'=>Step A.toCn G H G1 H'/\ar A.toCn H G1 H' D2 (.lst (iv ((ls.take i).map fun(l:bD)=>(aD l.dir).length+l.text.length)))) ?_ ?_ ?_ ?_
  ·intro D2 hD2;exact⟨s1.new wd hD2,by rw[eO]; exact ar.make wd s1 hD2⟩
  ·rintro D2 i H' _ ⟨s2,_⟩;exact ak.of (s2.keepL wd hla)
  ·rintro D2 i v H2 hv ⟨s2,o2⟩;obtain⟨pa,hpa,rfl⟩:=eI hv;obtain⟨l,hl,dx,ld,ll,lv,hPL⟩:=dH hLs1 hpa;have hil:=(aK.mp hl).1
   cb_eq
   refine bx (s2.wd.sub _ _ hPL.at_) T.Xm T.XW Sl ?_;refine⟨_,o2.at_,?_,s2.put wd o2,?_⟩
   ·rw[dG,aE,cP]; exact bZ (m:=1000) (by omega) (by decide)
   ·rw[take_snoc hl,cv,<-ik];exact o2.put_
  ·rintro D2 H2 ⟨s2,o2⟩;rw[aE,hlas,cq]at o2
   cb_eq
   refine⟨D2,(ls.map fun(l:bD)=>(aD l.dir).length+l.text.length).map fun(n:Nat)=>(n:Int),rfl,by rw[<-pB]; exact ak.of o2.at_,?_⟩;rw[KD]
   cb_eq
   refine cw (ak.of (s2.keepL wd hla)) ?_;rw[aE,hlas]
   cb_eq
   have e1:decide (((ls.length:Nat):Int)<=16)=decide (ls.length<=16):=by
    by_cases z:ls.length<=16
    ·rw[dT z,dT (by omega)]
    ·rw[dF z,dF (by omega)]
   have e2:decide ((((ls.map qR).sum:Nat):Int)<=64)=decide ((ls.map qR).sum<=64):=by
    by_cases z:(ls.map qR).sum<=64
    ·rw[dT z,dT (by omega)]
    ·rw[dF z,dF (by omega)]
   have e3:decide ((((ls.map fun(l:bD)=>(aD l.dir).length+l.text.length).sum:Nat):Int)<=2048)=decide ((ls.map fun(l:bD)=>(aD l.dir).length+l.text.length).sum<=2048):=by
    by_cases z:(ls.map fun(l:bD)=>(aD l.dir).length+l.text.length).sum<=2048
    ·rw[dT z,dT (by omega)]
    ·rw[dF z,dF (by omega)]
   rw[e1,e2,e3];have fin:=fun v hv=>q _ _ v s2 hv;unfold qQ at fin;by_cases z1:ls.length<=16
   ·rw[dT z1]at fin⊢;simp only[if_true,yq]at fin⊢;by_cases z2:(ls.map qR).sum<=64
    ·rw[dT z2]at fin⊢;simp only[if_true,yq]at fin⊢;exact fin _ rfl
    ·rw[dF z2]at fin⊢;simp only[aV,if_false,uX]at fin⊢;exact fin _ rfl
   ·rw[dF z1]at fin⊢;simp only[aV,if_false,uX]at fin⊢;exact fin _ rfl
theorem Bk{A:Cn}{G He G1 H1:Hp}(wd:Wd A G He)(s:Step A G He G1 H1){m:aa}{o1:HO}(x:ar A He G1 H1 m o1):
  ∃Hb,H1=ah Hb m o1/\Hb m=none/\Step A G He G1 Hb/\∀q o,ar A He G1 H1 q o->q≠m->ar A He G1 Hb q o:=by
 obtain⟨Ha,e1,h1,sa⟩:=x.open_ wd s;refine⟨Ha,e1,h1,sa,fun q o z hm=>⟨z.new,z.g,z.nc,?_⟩⟩;have:=z.at_;rw[e1,aM hm]at this;exact this
def xR(la:aa):List (Str×V):=[("lists",.ref la)]
abbrev lJ(A:Ad)(dx la:aa):HO:=.ins A.store dx (xR la)
theorem pY{la:aa}:(xR la).lookup ("lists":Str)=some (.ref la):=by rfl
structure dA(A:Ad)(He G H:Hp)(st dx la:aa)(as:List aa)(ls:List bD):Prop where
 os:ar A.toCn He G H st (lJ A dx la)
 ol:ar A.toCn He G H la (.lst (as.map V.ref))
 ne:st≠la
 at_:kR A G as ls
 le:ls.length<=16
theorem dA.call{He G H G1 H1:Hp}{st dx la:aa}{as:List aa}{ls:List bD}(h:dA A He G H st dx la as ls)(wd:Wd A.toCn G H)(s:Step A.toCn G H G1 H1):dA A He G1 H1 st dx la as ls:=
 ⟨h.os.call s,h.ol.call s,h.ne,h.at_.mono (s.same wd),h.le⟩
theorem dA.re{He He' G H:Hp}{st dx la:aa}{as:List aa}{ls:List bD}(h:dA A He G H st dx la as ls)(h1:He' st=none)(h2:He' la=none):dA A He' G H st dx la as ls:=⟨h.os.re h1,h.ol.re h2,h.ne,h.at_,h.le⟩
def UU(A:Ad):Sp:=fun vs H Q _=>∃(G H1:Hp)(x dx:aa),vs=[.ref x]/\H=ah (ah H1 dx (.own x)) x (.ins A.store dx [])/\H1 x=none/\H1 dx=none/\dx≠x/\Wd A.toCn G H1/\
 ∀H' la,Step A.toCn G H1 G H'->dA A H1 G H' x dx la [] []->Q .non H'
theorem QE(T:ba K mg A):fA P w K mg base aX A.store "Store" 1 ["self"] (UU A):=by
 have sc:aW ["self"] ["self"] (aI IH):=bo;refine fA.of T.Zm sc (fun vs H Q E h=>?_) (fun f cdv A0 outer s0 H vs Q E hr h=>?_)
 ·obtain⟨_,_,_,_,rfl,_⟩:=h; rfl
 obtain⟨G,H1,x,dx,rfl,rfl,hx,hdx,hne,wd,q⟩:=h;have s1:Step A.toCn G H1 G (ah H1 dx (.own x)):=(Step.refl wd).new wd hdx;have hx1:ah H1 dx (.own x) x=none:=by rw[aM (bq hne)]; exact hx
 have s2:=s1.new wd hx1 (o:=.ins A.store dx []);have o2:=ar.make wd s1 hx1 (o:=.ins A.store dx []);refine⟨_,(au (fe (pv 0) (br ao) rfl)),?_⟩
 cb_eq
 refine⟨by decide,fun ml hml=>?_⟩;have s3:=s2.new wd hml (o:=.lst []);have o3:=o2.new_ hml (o':=.lst []);have om3:=ar.make wd s2 hml (o:=.lst []);refine fi o3.at_ T.Xi T.Xn (by decide) ?_;have hxm:x≠ml:=mD o3.at_ om3.at_ (by intro z; cases z);exact q _ ml (s3.put wd o3) ⟨o3.put_,om3.other (bq hxm),hxm,.nil,by decide⟩
def mf(A:Ad)(G H0 H:Hp)(st dx la:aa)(as:List aa)(ls:List bD):Prop:=H=ah (ah H0 st (lJ A dx la)) la (.lst (as.map V.ref))/\H0 st=none/\H0 la=none/\st≠la/\Wd A.toCn G H0/\kR A G as ls/\ls.length<=16
theorem mf.start{G H0 H:Hp}{st dx la:aa}{as:List aa}{ls:List bD}(h:mf A G H0 H st dx la as ls):Step A.toCn G H0 G H/\dA A H0 G H st dx la as ls:=by
 obtain⟨rfl,h1,h2,h3,wd,h4,h5⟩:=h;have s1:=(Step.refl wd).new wd h1 (o:=lJ A dx la);have o1:=ar.make wd (Step.refl wd) h1 (o:=lJ A dx la);have h2':ah H0 st (lJ A dx la) la=none:=by rw[aM (bq h3)]; exact h2
 exact⟨s1.new wd h2',o1.new_ h2',ar.make wd s1 h2',h3,h4,h5⟩
theorem dA.open_{He G G1 H1:Hp}{st dx la:aa}{as:List aa}{ls:List bD}(wd:Wd A.toCn G He)(s:Step A.toCn G He G1 H1)(h:dA A He G1 H1 st dx la as ls):
  ∃Hb,mf A G1 Hb H1 st dx la as ls/\Step A.toCn G He G1 Hb/\∀q o,ar A.toCn He G1 H1 q o->q≠st->q≠la->ar A.toCn He G1 Hb q o:=by
 obtain⟨Hb,e1,h1,h2,sb,hoth⟩:=xq wd s h.os h.ol h.ne;exact⟨Hb,⟨e1,h1,h2,h.ne,sb.wd,h.at_,h.le⟩,sb,hoth⟩
def Vp(A:Ad):Sp:=fun vs H Q _=>∃(G H0:Hp)(st dx la:aa)(as:List aa)(ls:List bD),vs=[.ref st]/\mf A G H0 H st dx la as ls/\
 ∀G' H' p,Step A.toCn G H0 G' H'->dA A H0 G' H' st dx la as ls->G' p=some (.lst (fD (lh ls .lists)))->Q (.ref p) H'
theorem QI(T:ba K mg A):cM P w K mg base aX A.store "list_count" 1 ["self"] (Vp A):=by
 have sc:aW ["self"] ["self"] (aI II):=bo;refine cM.of T.ZA sc (fun vs H Q E h=>?_) (fun f cdv A0 outer s0 H vs Q E hr h=>?_)
 ·obtain⟨_,_,_,_,_,_,_,rfl,_⟩:=h; rfl
 obtain⟨G,H0,st,dx,la,as,ls,rfl,hop,q⟩:=h;have wd:Wd A.toCn G H0:=hop.2.2.2.2.1;obtain⟨s1,t1⟩:=hop.start;refine⟨_,(au (aL (br (af (cL T.Xe (bK (pv 0) rfl)) ao)))),?_⟩
 cb_eq
 refine bx t1.os.at_ T.Xi T.Xn pY ?_;refine cw (ak.of t1.ol.at_) ?_;rw[aE,bR t1.at_];refine⟨by decide,fun p hp=>?_⟩;have s2:=s1.newI wd hp (o:=.lst [.int (ls.length:Nat)]) aT;refine q _ _ p s2 ⟨t1.os.newI s1.wd hp aT,t1.ol.newI s1.wd hp aT,t1.ne,t1.at_.mono (bu (s1.wd.noG hp)),t1.le⟩ ax
theorem jm{G H0 G1 H1:Hp}{st dx la:aa}{as:List aa}{ls:List bD}{xs:List V}{Q:VK}(wd:Wd A.toCn G H0)(s:Step A.toCn G H0 G1 H1)(t:dA A H0 G1 H1 st dx la as ls){a:vX}
  (q:∀G' H' p,Step A.toCn G H0 G' H'->dA A H0 G' H' st dx la as ls->G' p=some (.lst (fD a))->Q (.ref p) H')(e:xs=fD a):∀p,H1 p=none->Q (.ref p) (ah H1 p (.lst xs)):=fun p hp=>by
 subst e;exact q _ _ p (s.newI wd hp aT) ⟨t.os.newI s.wd hp aT,t.ol.newI s.wd hp aT,t.ne,t.at_.mono (bu (s.wd.noG hp)),t.le⟩ ax
def Vb(A:Ad):Sp:=fun vs H Q _=>∃(G H0:Hp)(st dx la:aa)(as:List aa)(ls:List bD)(i:Nat),vs=[.ref st,.int i]/\mf A G H0 H st dx la as ls/\
 ∀G' H' p as',Step A.toCn G H0 G' H'->dA A H0 G' H' st dx la as' (qS ls (.drop i)).1->G' p=some (.lst (fD (qS ls (.drop i)).2))->Q (.ref p) H'
theorem Hw{α β:Type}{F:α->β->Prop}:∀{as:List α}{bs:List β}(i:Nat),bH F as bs->bH F (as.eraseIdx i) (bs.eraseIdx i)
 |_,_,i,.nil=>by rw[List.eraseIdx_nil,List.eraseIdx_nil]; exact .nil
 |_,_,0,.cons _ t=>t
 |_,_,i+1,.cons r t=>.cons r (Hw i t)
theorem GF{α β:Type}(f:α->β):∀(l:List α)(i:Nat),(l.map f).eraseIdx i=(l.eraseIdx i).map f
 | [],i=>by simp
 |a::t,0=>rfl
 |a::t,i+1=>by
  show f a::(t.map f).eraseIdx i=f a::(t.eraseIdx i).map f;rw[GF f t i]
theorem QH(T:ba K mg A):cM P w K mg base aX A.store "drop" 1 ["self","number"] (Vb A):=by
 have sc:aW ["self","number"] ["self","number"] (aI IG):=bo;refine cM.of T.Zz sc (fun vs H Q E h=>?_) (fun f cdv A0 outer s0 H vs Q E hr h=>?_)
 ·obtain⟨_,_,_,_,_,_,_,_,rfl,_⟩:=h; rfl
 obtain⟨G,H0,st,dx,la,as,ls,i,rfl,hop,q⟩:=h;have wd:Wd A.toCn G H0:=hop.2.2.2.2.1;obtain⟨s1,t1⟩:=hop.start;have hlen:=bR t1.at_;have hle:=t1.le
 refine⟨_,(aq (bz (bI ui (pv 1) (cL T.Xe (bK (pv 0) rfl)) (bp _))
    (au (aL (br (af (gP gQ aA) ao))))
    bE)
   (aq (eC (eJ eQ PySem.F.slot_list_pop PySem.F.type_list_pop PU (bK (pv 0) rfl) (af (pv 1) ao)))
   (au (aL (br (af aA ao)))))),?_⟩
 cb_eq
 refine bx t1.os.at_ T.Xi T.Xn pY ?_;refine cw (ak.of t1.ol.at_) ?_;rw[aE,hlen]
 cb_eq
 by_cases hi:i<ls.length
 ·rw[dF (by omega: ¬((ls.length:Nat):Int)<=(i:Int))];simp only[aV,if_false];have e:qS ls (.drop i)=(ls.eraseIdx i,de 0):=by show(if i<ls.length then _ else _)=_; rw[if_pos hi]
  rw[e]at q;refine bx t1.os.at_ T.Xi T.Xn pY ?_;refine⟨eM (ak.of t1.ol.at_),?_⟩
  cb_eq
  obtain⟨ai,hai⟩:∃ai,as[i]?=some ai:=⟨_,bL (by omega)⟩;refine⟨la,as.map V.ref,i,i,.ref ai,rfl,rfl,t1.ol.at_,by omega,by omega,?_,by rw[cH,hai]; rfl,?_⟩
  ·rw[seqIndex_of (by omega) (by rw[aE]; omega)]; rfl
  rw[GF];have s2:=s1.put wd t1.ol (o':=.lst ((as.eraseIdx i).map V.ref))
  have t2:dA A H0 G (ah (ah (ah H0 st (lJ A dx la)) la (.lst (as.map V.ref))) la (.lst ((as.eraseIdx i).map V.ref))) st dx la (as.eraseIdx i) (ls.eraseIdx i):=by
   obtain⟨rfl,_⟩:=hop;exact⟨t1.os.other t1.ne,t1.ol.put_,t1.ne,Hw i t1.at_,by rw[Du hi]; omega⟩
  cb_eq
  obtain⟨rfl,_⟩:=hop;exact⟨by decide,jm (a:=de 0) wd s2 t2 (fun G' H' p=>q G' H' p _) rfl⟩
 ·rw[dT (by omega:((ls.length:Nat):Int)<=(i:Int))];simp only[if_true];have e:qS ls (.drop i)=(ls,gU):=by show(if i<ls.length then _ else _)=_; rw[if_neg hi]
  rw[e]at q;exact⟨by decide,jm (a:=gU) wd s1 t1 (fun G' H' p=>q G' H' p _) rfl⟩
def VM(A:Ad):Sp:=fun vs H Q _=>∃(G H0:Hp)(st dx la:aa)(as:List aa)(ls:List bD)(i n:Nat),vs=[.ref st,.int i,.int n]/\mf A G H0 H st dx la as ls/\
 ∀G' H' p,Step A.toCn G H0 G' H'->dA A H0 G' H' st dx la as ls->G' p=some (.lst (fD (lh ls (.rule i n))))->Q (.ref p) H'
theorem QJ(T:ba K mg A):cM P w K mg base aX A.store "rule" 2 ["self","number","line"] (VM A):=by
 have sc:aW ["self","number","line","lines","pattern"] ["self","number","line"] (aI IJ):=bo;refine cM.of T.ZC sc (fun vs H Q E h=>?_) (fun f cdv A0 outer s0 H vs Q E hr h=>?_)
 ·obtain⟨_,_,_,_,_,_,_,_,_,rfl,_⟩:=h; rfl
 obtain⟨G,H0,st,dx,la,as,ls,i,n,rfl,hop,q⟩:=h;have wd:Wd A.toCn G H0:=hop.2.2.2.2.1;obtain⟨s1,t1⟩:=hop.start;have hlen:=bR t1.at_
 have htold:lh ls (.rule i n)=(match ls[i]? with
  |none=>gU
  |some l=>if n=0\/(linesOf l.text).length<n then gU else match ruleAt l.text n with
   |none=>de 0
   |some r=>de (vY r)):=rfl
 refine⟨_,(aq (bz (bI ui (pv 1) (cL T.Xe (bK (pv 0) rfl)) (bp _))
    (au (aL (br (af (gP gQ aA) ao))))
    bE)
   (aq (pS 3 sc.nd (bK (bM eT (bK (pv 0) rfl) (pv 1) (fun _ _=>rfl)) rfl))
   (aq (bz (PW.pt (xA (bI pN (pv 2) aA (bp _)) (xB (bI mG (pv 2) (cL T.Xe (pv 3)) (bp _)))))
    (au (aL (br (af (gP gQ aA) ao))))
    bE)
   (aq (pS 4 sc.nd (bM eT (pv 3) (bb rJ (pv 2) aA) (fun _ _=>rfl)))
   (aq (bz (bI Bf (pv 4) lF (bp _))
    (au (aL (br (af aA ao))))
    bE)
   (au (aL (br (af (cF (Rp T) hr (af (pv 4) ao)) ao))))))))),?_⟩
 cb_eq
 refine bx t1.os.at_ T.Xi T.Xn pY ?_;refine cw (ak.of t1.ol.at_) ?_;rw[aE,hlen]
 cb_eq
 by_cases hi:i<ls.length
 case neg=>
  rw[dT (by omega:((ls.length:Nat):Int)<=(i:Int))];simp only[if_true];refine⟨by decide,jm wd s1 t1 q ?_⟩;rw[htold,gT (by omega)];rfl
 case pos=>
  rw[dF (by omega: ¬((ls.length:Nat):Int)<=(i:Int))];simp only[aV,if_false];refine bx t1.os.at_ T.Xi T.Xn pY ?_;obtain⟨l,hl⟩:∃l,ls[i]?=some l:=⟨_,bL hi⟩;obtain⟨ai,hai,dxl,ld,ll,lv,hPL⟩:=jK t1.at_ hl;rw[hl]at htold;refine fw (ak.of t1.ol.at_) (by rw[cH,hai]; rfl) ?_;refine bx (s1.wd.sub _ _ hPL.at_) T.Xm T.XD BE ?_
  cb_eq
  have hlv:=bR hPL.each;by_cases hn0:n<1
  ·rw[dT (by omega:(n:Int)<1)];simp only[if_true];refine⟨by decide,jm wd s1 t1 q ?_⟩;rw[htold];show _=fD (if n=0\/_ then _ else _);rw[if_pos (.inl (by omega))];rfl
  rw[dF (by omega: ¬(n:Int)<1)];simp only[aV,if_false];refine cw (ak.of (s1.wd.sub _ _ hPL.lines)) ?_;rw[hlv]
  cb_eq
  by_cases hnl:(linesOf l.text).length<n
  ·rw[dT (by omega:(((linesOf l.text).length:Nat):Int)<(n:Int))];simp only[if_true];refine⟨by decide,jm wd s1 t1 q ?_⟩;rw[htold];show _=fD (if n=0\/_ then _ else _);rw[if_pos (.inr hnl)];rfl
  rw[dF (by omega: ¬(((linesOf l.text).length:Nat):Int)<(n:Int))];simp only[aV,if_false];rw[show((n:Int)-1)=((n-1:Nat):Int) by omega];obtain⟨s,hs⟩:∃s,(linesOf l.text)[n-1]?=some s:=⟨_,bL (by omega)⟩;obtain⟨v,hv,hLi⟩:=jK hPL.each hs;refine fw (ak.of (s1.wd.sub _ _ hPL.lines)) hv ?_
  have hra:ruleAt l.text n=(dB s).bind id:=by
   unfold ruleAt;rw[hs];show(if n=0 then none else _)=_;rw[if_neg (by omega)]
  have htold2:lh ls (.rule i n)=(match(dB s).bind id with|none=>de 0|some r=>de (vY r)):=by
   rw[htold];show(if n=0\/_ then _ else _)=_;rw[if_neg (fun z=>by omega),hra]
  cb_eq
  rcases Aw hLi with⟨rfl,e⟩|⟨p,r,rfl,e,hpat⟩
  ·rw[dT rfl];simp only[if_true];refine⟨by decide,jm wd s1 t1 q ?_⟩;rw[htold2,show(dB s).bind id=none from e];rfl
  ·rw[dF (fun z=>by cases z)];simp only[aV,if_false];refine⟨G,p,r,rfl,s1.wd,hpat,?_⟩;refine⟨by decide,jm wd s1 t1 q ?_⟩;rw[htold2,show(dB s).bind id=some r from e];rfl
theorem HE{x:ag}{p:bj}(h:gO x=some p):p=aG 47 x/\cg p/\aD p=x/\x.length<=256:=by
 unfold gO at h;by_cases z:(aG 47 x).all gx=true/\x.length<=PATH
 ·rw[if_pos z]at h;cases h;exact⟨rfl,wL z.1,lL x,z.2⟩
 ·rw[if_neg z]at h; cases h
def Kh(A:Ad):Sp:=fun vs H Q _=>∃(G H0:Hp)(st dx la:aa)(as:List aa)(ls:List bD)(d:Nat)(a:aa)(x:ag),vs=[.ref st,.int d,.ref a]/\mf A G H0 H st dx la as ls/\G a=some (.lst (bv x))/\
 ∀G' H' p,Step A.toCn G H0 G' H'->dA A H0 G' H' st dx la as ls->G' p=some (.lst (fD (lh ls (.becomes d x))))->Q (.ref p) H'
theorem MD(y:Nat×Nat×Nat):zB y=fD (if y.1=0 then de 0 else nu (y.1:Nat) [y.2.1,y.2.2]):=by
 unfold zB;split<;>rfl
theorem QG(T:ba K mg A)(ok_fate:ba K mg A->Kn P w K mg base aX "fate" 9 ["lists","is_directory","path"] (Ki K A)):cM P w K mg base aX A.store "becomes" 10 ["self","is_directory","path"] (Kh A):=by
 have sc:aW ["self","is_directory","path"] ["self","is_directory","path"] (aI IF):=bo;refine cM.of T.Zy sc (fun vs H Q E h=>?_) (fun f cdv A0 outer s0 H vs Q E hr h=>?_)
 ·obtain⟨_,_,_,_,_,_,_,_,_,_,rfl,_⟩:=h; rfl
 obtain⟨G,H0,st,dx,la,as,ls,d,a,x,rfl,hop,hx,q⟩:=h;have wd:Wd A.toCn G H0:=hop.2.2.2.2.1;obtain⟨s1,t1⟩:=hop.start
 have htold:lh ls (.becomes d x)=(match gO x with
  |none=>gU
  |some p=>if(ni ls p (d != 0)).1=0 then de 0 else nu ((ni ls p (d != 0)).1:Nat) [(ni ls p (d != 0)).2.1,(ni ls p (d != 0)).2.2]):=rfl
 refine⟨_,(aq (bz (lG (dR (cF (AY T) hr (af (pv 2) ao))))
    (au (aL (br (af (gP gQ aA) ao))))
    bE)
   (au (aL (cF (ok_fate T) hr (af (bK (pv 0) rfl) (af (fJ uj (pv 1) aA (bp _)) (af (pv 2) ao))))))),?_⟩
 cb_eq
 refine⟨G,a,x,rfl,s1.wd,eF hx,fun G2 H2 v s2 hv=>?_⟩;subst hv;have s12:=s1.trans wd s2;have t2:=t1.call s1.wd s2
 cb_eq
 cases hpo:gO x with
 |none=>
  simp only[qF,eD,if_true];refine⟨by decide,jm wd s12 t2 q ?_⟩;rw[htold,hpo];rfl
 |some p=>
  simp only[mZ,eX,aV,if_false];obtain⟨_,hgp,htp,hlp⟩:=HE hpo;refine bx t2.os.at_ T.Xi T.Xn pY ?_
  have hd:(d != 0)=!decide ((d:Int)=0):=by
   by_cases z:d=0
   ·subst z; rfl
   ·rw[dF (by omega)]; simp[z]
  refine⟨G2,la,as,ls,!decide ((d:Int)=0),a,p,rfl,s12.wd,t2.ol.at_,t2.at_,t2.le,hgp,by rw[htp]; exact eF (s12.same wd _ _ hx),by rw[htp]; exact hlp,fun G3 H3 v s3 hv=>?_⟩;obtain⟨e,rfl,he⟩:=hv;refine q _ _ e (s12.trans wd s3) (t2.call s12.wd s3) ?_;rw[he,htold,hpo,hd];show some (HO.lst _)=some (HO.lst (fD (if(ni ls p (!decide ((d:Int)=0))).1=0 then _ else _)));rw[MD]
def UV(A:Ad):Sp:=fun vs H Q _=>∃(G H0:Hp)(st dx la:aa)(as:List aa)(ls:List bD)(a b:aa)(d x:ag),vs=[.ref st,.ref a,.ref b]/\mf A G H0 H st dx la as ls/\G a=some (.lst (bv d))/\G b=some (.lst (bv x))/\
 ∀G' H' p la' as',Step A.toCn G H0 G' H'->dA A H0 G' H' st dx la' as' (mj ls d x).1->G' p=some (.lst (fD (mj ls d x).2))->Q (.ref p) H'
theorem Oe{x:ag}{i:Nat}{s:ag}(h:((linesOf x).take i).all (fun s=>!ij s)=true)(hs:(linesOf x)[i]?=some s)(hf:dB s=none):pA x=some (i+1):=by
 unfold pA;have hi:=(aK.mp hs)
 have e:(linesOf x).findIdx? ij=some i:=by
  rw[Dr];refine⟨hi.1,?_,fun j hj z=>?_⟩
  ·rw[hi.2];unfold ij;rw[hf];rfl
  ·have hm:(linesOf x)[j]'(by have:=hi.1; omega)∈(linesOf x).take i:=by
    rw[List.mem_take_iff_getElem];exact⟨j,by have:=hi.1; omega,rfl⟩
   have:=ju.mp h _ hm;rw[z]at this;cases this
 rw[e];rfl
theorem GO:∀{l:List Nat}{n:Nat},n∈l->n<=l.sum
 |a::t,n,h=>by
  rw[iY];rcases bg.mp h with rfl|h
  ·omega
  ·have:=GO h;omega
theorem MW{d:ag}{a:aa}{G3 H3:Hp}{bad rest:Hp->Prop}(wd3:Wd A.toCn G3 H3)(hd:G3 a=some (.lst (bv d)))(hbad:dirOf d=none->∀G4 H4,Step A.toCn G3 H3 G4 H4->bad H4)
  (hrest:∀p,dirOf d=some p->oi p->aD p=d->d.length<=256->∀G4 H4,Step A.toCn G3 H3 G4 H4->rest H4):
  if(!decide (bi d=[]))=true then Kj K A [.ref a] H3 (fun x H'=>∃k,x=.bl k/\if(!k)=true then bad H' else rest H') E0 else rest H3:=by
 by_cases h0:d=[]
 ·subst h0;rw[dT (by rfl)];simp only[eX,aV,if_false];exact hrest [] rfl (.inl rfl) rfl (by decide) _ _ (Step.refl wd3)
 ·have hb: ¬bi d=[]:=fun z=>h0 (List.map_eq_nil_iff.mp z);rw[dF hb];simp only[eD,if_true];have hdo:dirOf d=gO d:=by unfold Pg.dirOf; rw[if_neg h0]
  refine⟨G3,a,d,rfl,wd3,eF hd,fun G4 H4 v s4 hv=>⟨_,hv,?_⟩⟩;cases hp:gO d with
  |none=>
   simp only[qF,eD,if_true];exact hbad (by rw[hdo,hp]) _ _ s4
  |some p=>
   simp only[mZ,eX,aV,if_false];obtain⟨_,h1,h2,h3⟩:=HE hp;exact hrest p (by rw[hdo,hp]) (.inr h1) h2 h3 _ _ s4
def Lf(K:aw)(A:Ad):L2.St->(Hp->Prop)->TS:=fun σ R=>Cs (Cp K "list" BI (jT 3) (uL (Ct (Km K A) R σ (uL (jT 4) kD)) kD))
theorem QF(T:ba K mg A):cM P w K mg base aX A.store "add" 11 ["self","directory","text"] (UV A):=by
 have sc:aW ["self","directory","text","lines","line","lists"] ["self","directory","text"] (aI IE):=bo;refine cM.of T.Zx sc (fun vs H Q E h=>?_) (fun f cdv A0 outer s0 H vs Q E hr h=>?_)
 ·obtain⟨_,_,_,_,_,_,_,_,_,_,_,rfl,_⟩:=h; rfl
 obtain⟨G,H0,st,dx,la,as,ls,a,b,d,x,rfl,hop,hd,hx,q⟩:=h;have wd:Wd A.toCn G H0:=hop.2.2.2.2.1;obtain⟨s1,t1⟩:=hop.start;have hu64:=hr.units
 have hadd:mj ls d x=(match dirOf d with
  |none=>(ls,gU)
  |some p=>if 512<x.length then(ls,de (-2))else match pA x with
   |some n=>(ls,nu (-3) [n])
   |none=>if qQ (ls++[⟨p,x⟩])=true then(ls++[⟨p,x⟩],de (ls.length:Nat))else(ls,de (-4))):=rfl
 refine⟨_,(aq (bz (PW.pt (ur (bI (Bh hu64) (pv 1) (br ao) (bp _)) (uu (lG (dR (cF (AY T) hr (af (pv 1) ao)))))))
    (au (aL (br (af (gP gQ aA) ao))))
    bE)
   (aq (bz (bI mG (cL T.Xe (pv 2)) (bB T.ZS rfl) (bp _))
    (au (aL (br (af (gP gQ aA) ao))))
    bE)
   (aq (pS 3 sc.nd (br ao))
   (aq (fX eZ rfl (dt (cF (Ba T) hr (af (pv 2) (af (bB T.XO rfl) ao)))) (gN 4 sc.nd)
    (au (BG (tb:=Lf K A) rfl rfl rfl T.Xq T.Xr (by decide) (fun _ _ _=>by exact(au (eC (eJ eQ gh gi fV (pv 3) (af (BA (Bc T) (hr.mono (by decide)) rfl (af (pv 4) ao)) ao))))) (fun _=>by exact(au (aL (br (af (gP gQ aA) (af (bb dP (jL (zW (K:=K) rfl) (by rfl) T.Xe zr (af (pv 3) ao)) aA) ao)))))))))
   (aq (pS 5 sc.nd (bb rH (bK (pv 0) rfl) (br (af (jM (QA T) (hr.mono (by decide)) bA rfl (af (pv 1) (af (bb dP (cL T.Xe (pv 1)) (cL T.Xe (pv 2))) (af (pv 3) ao)))) ao))))
   (aq (bz (lG (dR (cF (QV T) hr (af (pv 5) ao))))
    (au (aL (br (af (gP gQ aA) ao))))
    bE)
   (aq (fe (pv 0) (pv 5) rfl)
   (au (aL (br (af (bb rJ (cL T.Xe (pv 5)) aA) ao))))))))))),?_⟩
 cb_eq
 refine⟨by decide,fun e1 he1=>?_⟩;have s2:=s1.new wd he1 (o:=.lst []);have t2:dA A H0 G (ah H e1 (.lst [])) st dx la as ls:=⟨t1.os.new_ he1,t1.ol.new_ he1,t1.ne,t1.at_,t1.le⟩;refine CT (ns:=bi d) (ms:=[]) (by rw[<-wm]; exact ak.of (s2.wd.sub _ _ hd)) (ak.of ax) ?_
 cb_eq
 refine MW (K:=K) (G3:=G) s2.wd hd (fun hno G4 H4 s4=>⟨by decide,?_⟩) fun p hp hpok htp hdl G4 H4 s4=>?_
 ·rw[hadd,hno]at q;exact jm (a:=gU) wd (s2.trans wd s4) (t2.call s2.wd s4) (fun G' H' p=>q G' H' p la as) rfl
 rw[hp]at hadd;have s24:=s2.trans wd s4;have t4:=t2.call s2.wd s4;refine cw (ak.of (s24.wd.sub _ _ (s24.same wd _ _ hx))) ?_;rw[cU]
 cb_eq
 by_cases hl:512<x.length
 ·rw[dT (by omega:(512:Int)<((x.length:Nat):Int))];simp only[if_true];have hadd:mj ls d x=(ls,de (-2)):=by rw[hadd]; show(if _ then _ else _)=_; rw[if_pos hl]
  rw[hadd]at q;exact⟨by decide,jm (a:=de (-2)) wd s24 t4 (fun G' H' p=>q G' H' p la as) rfl⟩
 rw[dF (by omega: ¬(512:Int)<((x.length:Nat):Int))];simp only[aV,if_false]
 have hadd:mj ls d x=(match pA x with
   |some n=>(ls,nu (-3) [n])
   |none=>if qQ (ls++[⟨p,x⟩])=true then(ls++[⟨p,x⟩],de (ls.length:Nat))else(ls,de (-4))):=by rw[hadd]; show(if _ then _ else _)=_; rw[if_neg hl]
 refine⟨by decide,fun lp hlp=>?_⟩;have s5:=s24.new wd hlp (o:=.lst []);have t5:dA A H0 G4 (ah H4 lp (.lst [])) st dx la as ls:=⟨t4.os.new_ hlp,t4.ol.new_ hlp,t4.ne,t4.at_,t4.le⟩;have o5:=ar.make wd s24 hlp (o:=.lst []);refine⟨G4,b,x,10,rfl,s5.wd,eF (s24.same wd _ _ hx),by omega,fun G6 H6 v s6 hv=>?_⟩;obtain⟨p6,rfl,ras,hra,prows⟩:=hv;have hlr:=bR prows;have hsl:=split_len 10 x;have s56:=s5.trans wd s6;have t6:=t5.call s5.wd s6;have o6:=o5.call s6;have hls:st≠lp:=fun z=>by have:=t4.os.at_; rw[z,hlp]at this; cases this
 have hll:la≠lp:=fun z=>by have:=t4.ol.at_; rw[z,hlp]at this; cases this
 refine jV (ak.of (s56.wd.sub _ _ hra)) (fun i σ H'=>∃(x4:Option V)(G7:Hp)(vs:List V),σ=[some (.ref st),some (.ref a),some (.ref b),some (.ref lp),x4,none]/\Step A.toCn G H0 G7 H'/\bh G6 G7/\dA A H0 G7 H' st dx la as ls/\ar A.toCn H0 G7 H' lp (.lst vs)/\vs.length=i/\((linesOf x).take i).all (fun s=>!ij s)=true/\bH (iU A G7) vs ((linesOf x).take i)) ?_ ?_ ?_ ?_
 ·exact⟨_,G6,[],rfl,s56,bh.refl _,t6,o6,rfl,by rw[eO]; rfl,by rw[eO]; exact .nil⟩
 ·rintro i σ H' _ ⟨_,G7,_,_,s7,e7,_⟩;exact ak.of (s7.wd.sub _ _ (e7 _ _ hra))
 ·rintro i v σ H7 hv ⟨x4,G7,vs,rfl,s7,e7,t7,o7,hvl,hall,hp7⟩;obtain⟨pa,hpa,rfl⟩:=eI hv;obtain⟨s,hs,hsG⟩:=dH prows hpa;have hil:=(aK.mp hs).1
  have hslen:s.length<=10000:=by
   have h9:s.length<=((aG 10 x).map dS).sum:=GO (bP.mpr ⟨s,dq hs,rfl⟩);omega
  cb_eq
  simp only[BN,Lf]
  cb_eq
  refine⟨eM (ak.of o7.at_),?_⟩;simp only[BM]
  cb_eq
  refine⟨G7,pa,s,rfl,s7.wd,e7 _ _ hsG,hslen,fun o ho G8 H8 v s8 hv=>?_,fun hf G8 H8 s8=>?_⟩
  ·have s78:=s7.trans wd s8;have t8:=t7.call s7.wd s8;have o8:=o7.call s8;refine fZ o8.at_ (by rw[hvl]; exact bZ (m:=10000) (by omega) (by decide)) ?_;refine⟨_,G8,vs++[v],rfl,s78.put wd o8,e7.trans (s8.same s7.wd),⟨t8.os.other hls,t8.ol.other hll,t8.ne,t8.at_,t8.le⟩,o8.put_,by rw[bt,hvl]; rfl,?_,?_⟩
   ·rw[take_snoc (show(linesOf x)[i]?=some s from hs),List.all_append,hall];show(true&&((!ij s)&&true))=true;unfold ij;rw[ho];rfl
   ·rw[take_snoc (show(linesOf x)[i]?=some s from hs)];exact jJ (cO (fun _ _ z=>z.mono (s8.same s7.wd)) hp7) (.cons (Gz hv ho) .nil)
  ·have s78:=s7.trans wd s8;have t8:=t7.call s7.wd s8;have o8:=o7.call s8;have hfa:=Oe hall hs hf;refine cw (ak.of o8.at_) ?_;rw[hvl]
   cb_eq
   rw[hfa]at hadd;rw[hadd]at q;refine⟨by decide,jm (a:=nu (-3) [i+1]) wd s78 t8 (fun G' H' p=>q G' H' p la as) ?_⟩;show _=[V.int (-3),V.int ((i+1:Nat):Int)];rfl
 ·rintro σ H7 ⟨x4,G7,vs,rfl,s7,e7,t7,o7,hvl,hall,hp7⟩;rw[aE,hlr]at hall hp7 hvl;have hlx:(linesOf x).length=(aG 10 x).length:=rfl;rw[<-hlx,cq]at hall hp7
  have hfn:pA x=none:=by
   have:=Fz x;rw[hall]at this;exact Mi.mp this
  rw[hfn]at hadd;have hadd:mj ls d x=if qQ (ls++[⟨p,x⟩])=true then(ls++[⟨p,x⟩],de (ls.length:Nat))else(ls,de (-4)):=hadd
  have s7l:=s7.sealO wd o7 (aT (xs:=vs));have e7l:=bu (o:=.lst vs) o7.g;have t7l:dA A H0 (ah G7 lp (.lst vs)) H7 st dx la as ls:=⟨t7.os.seal_ o7 hls aT,t7.ol.seal_ o7 hll aT,t7.ne,t7.at_.mono e7l,t7.le⟩;have hd7:=s7l.same wd _ _ hd;have hx7:=s7l.same wd _ _ hx
  cb_eq
  refine bx t7l.os.at_ T.Xi T.Xn pY ?_;refine cw (ak.of (s7l.wd.sub _ _ hd7)) ?_;refine cw (ak.of (s7l.wd.sub _ _ hx7)) ?_;rw[cU,cU]
  cb_eq
  intro pl dxl hpl hdxl hnep;refine⟨pl,dxl,a,lp,d.length+x.length,rfl,ax,rfl,?_⟩;rw[upd_upd];have s8:=s7l.mkI wd hpl hdxl hnep (AS (A:=A.toCn) (C:=A.plist) (dx:=dxl) (ld:=a) (ll:=lp) (n:=d.length+x.length));have e8:=bu (o:=.ins A.plist dxl (jl a (d.length+x.length) lp)) (s7l.wd.noG hpl);have sdx:=s7l.new wd hdxl (o:=.own pl);have hpl':ah H7 dxl (.own pl) pl=none:=by rw[aM (bq hnep)]; exact hpl
  have t8:dA A H0 (ah (ah G7 lp (.lst vs)) pl (.ins A.plist dxl (jl a (d.length+x.length) lp))) (ah (ah H7 dxl (.own pl)) pl (.ins A.plist dxl (jl a (d.length+x.length) lp))) st dx la as ls:=
   ⟨(t7l.os.new_ hdxl).newI sdx.wd hpl' AS,(t7l.ol.new_ hdxl).newI sdx.wd hpl' AS,t7l.ne,t7l.at_.mono e8,t7l.le⟩
  have hPL:oJ A (ah (ah G7 lp (.lst vs)) pl (.ins A.plist dxl (jl a (d.length+x.length) lp))) pl ⟨p,x⟩ dxl a lp vs:=
   ⟨by rw[ax]; show _=some (HO.ins A.plist dxl (jl a ((aD p).length+x.length) lp)); rw[htp],by show _=some (HO.lst (bv (aD p))); rw[htp]; exact e8 _ _ hd7,e8 _ _ ax,cO (fun _ _ z=>z.mono (e7l.trans e8)) hp7,hpok,by show(aD p).length<=256; rw[htp]; exact hdl,by show x.length<=512; omega⟩
  generalize ah (ah G7 lp (.lst vs)) pl (.ins A.plist dxl (jl a (d.length+x.length) lp))=G8 at s8 t8 hPL;generalize ah (ah H7 dxl (.own pl)) pl (.ins A.plist dxl (jl a (d.length+x.length) lp))=H8 at s8 t8;refine⟨by decide,fun p9 hp9=>?_⟩;have s9:=s8.new wd hp9 (o:=.lst [.ref pl]);have t9:dA A H0 G8 (ah H8 p9 (.lst [.ref pl])) st dx la as ls:=⟨t8.os.new_ hp9,t8.ol.new_ hp9,t8.ne,t8.at_,t8.le⟩;have hlen:=bR t9.at_;have hle:=t9.le;refine sj t9.ol.at_ ax (by rw[aE]; exact jx (bZ (m:=17) (by show as.length+1<=17; omega) (by decide))) fun p10 hp10=>?_;rw[show as.map V.ref++[V.ref pl]=(as++[pl]).map V.ref by rw[cv]; rfl];have s10:=s9.new wd hp10 (o:=.lst ((as++[pl]).map V.ref));have o10:=ar.make wd s9 hp10 (o:=.lst ((as++[pl]).map V.ref));have t10:dA A H0 G8 (ah (ah H8 p9 (.lst [.ref pl])) p10 (.lst ((as++[pl]).map V.ref))) st dx la as ls:=⟨t9.os.new_ hp10,t9.ol.new_ hp10,t9.ne,t9.at_,t9.le⟩;have hLs:kR A G8 (as++[pl]) (ls++[⟨p,x⟩]):=jJ t10.at_ (.cons ⟨dxl,a,lp,vs,hPL⟩ .nil);have hst10:st≠p10:=fun z=>by have:=t9.os.at_; rw[z,hp10]at this; cases this
  cb_eq
  refine⟨G8,p10,as++[pl],ls++[⟨p,x⟩],rfl,s10.wd,o10.at_,hLs,by rw[bt,dJ]; omega,fun G11 H11 v s11 hv=>?_⟩;subst hv;have s12:=s10.trans wd s11;have t12:=t10.call s10.wd s11;have o12:=o10.call s11;have hLs12:=hLs.mono (s11.same s10.wd)
  cb_eq
  cases hfit:qQ (ls++[⟨p,x⟩])with
  |false=>
   simp only[eD,if_true];rw[hfit]at hadd;have hadd:mj ls d x=(ls,de (-4)):=hadd;rw[hadd]at q;exact⟨by decide,jm (a:=de (-4)) wd s12 t12 (fun G' H' p=>q G' H' p la as) rfl⟩
  |true=>
   simp only[eX,aV,if_false];rw[hfit]at hadd;have hadd:mj ls d x=(ls++[⟨p,x⟩],de (ls.length:Nat)):=hadd;rw[hadd]at q
   have h16:(ls++[(⟨p,x⟩:bD)]).length<=16:=by
    unfold qQ at hfit;simp only[cA,decide_eq_true_iff]at hfit;exact hfit.1
   refine fi t12.os.at_ T.Xi T.Xn (by show 1<1000; decide) ?_;rw[show bT "lists" (.ref p10) (xR la)=xR p10 from rfl];have s13:=s12.put wd t12.os (o':=lJ A dx p10);have t13:dA A H0 G11 (ah H11 st (lJ A dx p10)) st dx p10 (as++[pl]) (ls++[⟨p,x⟩]):=⟨t12.os.put_,o12.other (bq hst10),hst10,hLs12,h16⟩
   cb_eq
   refine cw (ak.of t13.ol.at_) ?_
   cb_eq
   rw[aE,bt,dJ,hlen];refine⟨by decide,jm (a:=de (ls.length:Nat)) wd s13 t13 (fun G' H' p=>q G' H' p p10 _) ?_⟩;rw[show(((ls.length+1:Nat):Int)-1)=((ls.length:Nat):Int) by omega];rfl
def kx(ca:aa)(k:Nat):List (Str×V):=[("calls",.ref ca),("place",.int k)]
abbrev eU(A:Ad)(dx ca:aa)(k:Nat):HO:=.ins A.reader dx (kx ca k)
theorem BO{ca:aa}{k:Nat}:(kx ca k).lookup ("calls":Str)=some (.ref ca):=by rfl
theorem rP{ca:aa}{k:Nat}:(kx ca k).lookup ("place":Str)=some (.int k):=by rfl
def UT:Ad->Sp:=fun A vs H Q _=>∃(x dx ca:aa),vs=[.ref x,.ref ca]/\H x=some (.ins A.reader dx [])/\Q .non (ah H x (eU A dx ca 0))
theorem QC(T:ba K mg A):fA P w K mg base aX A.reader "Reader" 1 ["self","calls"] (UT A):=by
 have sc:aW ["self","calls"] ["self","calls"] (aI IB):=bo;refine fA.of T.Zl sc (fun vs H Q E h=>?_) (fun f cdv A0 outer s H vs Q E hr h=>?_)
 ·obtain⟨_,_,_,rfl,_⟩:=h; rfl
 obtain⟨x,dx,ca,rfl,h1,q⟩:=h
 refine⟨_,(aq (fe (pv 0) (pv 1) rfl)
   (au (fe (pv 0) aA rfl))),?_⟩
 cb_eq
 refine fi h1 T.Xf T.XF (by decide) ?_
 cb_eq
 refine fi ax T.Xf T.Xs pG ?_;rw[upd_upd];exact q
def UW(K:aw)(A:Ad):Sp:=fun vs H Q _=>∃(rd dx ca:aa)(k:Nat)(ns:List Int),vs=[.ref rd]/\H rd=some (eU A dx ca k)/\ak K H ca (ns.map V.int)/\Q (.bl (decide (ns.length<=k))) H
theorem QD(T:ba K mg A):cM P w K mg base aX A.reader "at_end" 1 ["self"] (UW K A):=by
 have sc:aW ["self"] ["self"] (aI IA):=bo;refine cM.of T.Zu sc (fun vs H Q E h=>?_) (fun f cdv A0 outer s0 H vs Q E hr h=>?_)
 ·obtain⟨_,_,_,_,_,rfl,_⟩:=h; rfl
 obtain⟨rd,dx,ca,k,ns,rfl,h1,h2,q⟩:=h;refine⟨_,(au (aL (fJ ui (bK (pv 0) rfl) (cL T.Xe (bK (pv 0) rfl)) (bp _)))),?_⟩
 cb_eq
 refine bx h1 T.Xf T.Xs rP ?_;refine bx h1 T.Xf T.XF BO ?_;refine cw h2 ?_;rw[aE]
 cb_eq
 by_cases z:ns.length<=k
 ·rw[dT z]at q;rw[dT (by omega)];exact q
 ·rw[dF z]at q;rw[dF (by omega)];exact q
def DU(K:aw)(A:Ad)(G H0 H:Hp)(rd dx ca:aa)(k:Nat)(ns:List Int):Prop:=H=ah H0 rd (eU A dx ca k)/\H0 rd=none/\Wd A.toCn G H0/\ak K G ca (ns.map V.int)
def Cc(K:aw)(A:Ad):Sp:=fun vs H Q _=>∃(G H0:Hp)(rd dx ca:aa)(k:Nat)(ns:List Int)(z:Int),vs=[.ref rd]/\DU K A G H0 H rd dx ca k ns/\ns[k]?=some z/\Q (.int z) (ah H0 rd (eU A dx ca (k+1)))
theorem pL(T:ba K mg A):cM P w K mg base aX A.reader "number" 1 ["self"] (Cc K A):=by
 have sc:aW ["self"] ["self"] (aI IC):=bo;refine cM.of T.Zv sc (fun vs H Q E h=>?_) (fun f cdv A0 outer s0 H vs Q E hr h=>?_)
 ·obtain⟨_,_,_,_,_,_,_,_,rfl,_⟩:=h; rfl
 obtain⟨G,H0,rd,dx,ca,k,ns,z,rfl,⟨rfl,h0,wd,hsq⟩,hz,q⟩:=h;have s2:=(Step.refl wd).new wd h0 (o:=eU A dx ca (k+1))
 refine⟨_,(aq (HL (pv 0) aA FW)
   (au (aL (bM eT (bK (pv 0) rfl) (bb rJ (bK (pv 0) rfl) aA) (fun _ _=>rfl))))),?_⟩
 cb_eq
 simp only[BU]
 cb_eq
 refine⟨rd,A.reader,dx,kx ca k,.int k,rfl,ax,T.Xf,T.Xs,rP,?_⟩
 cb_eq
 refine⟨(k:Int),1,rfl,rfl,dx,kx ca k,ax,by show 2<1000; decide,?_⟩;rw[upd_upd];rw[show bT "place" (.int ((k:Int)+1)) (kx ca k)=kx ca (k+1)from rfl]
 cb_eq
 refine bx ax T.Xf T.XF BO ?_;refine bx ax T.Xf T.Xs rP ?_
 cb_eq
 rw[show(((k+1:Nat):Int)-1)=((k:Nat):Int) by omega];exact fw (PP.ak.mono (K:=K) s2.wd.sub hsq) (by rw[cH,hz]; rfl) q
def Cg(K:aw)(A:Ad):Sp:=fun vs H Q _=>∃(G H0:Hp)(rd dx ca:aa)(k n:Nat)(ns:List Int),vs=[.ref rd]/\DU K A G H0 H rd dx ca k ns/\ns[k]?=some (n:Int)/\k+1+n<=ns.length/\
 ∀p,ah H0 rd (eU A dx ca (k+1+n)) p=none->Q (.ref p) (ah (ah H0 rd (eU A dx ca (k+1+n))) p (.lst (((ns.drop (k+1)).take n).map V.int)))
theorem rG(T:ba K mg A):cM P w K mg base aX A.reader "row" 2 ["self"] (Cg K A):=by
 have sc:aW ["self","length","start"] ["self"] (aI ID):=bo;refine cM.of T.Zw sc (fun vs H Q E h=>?_) (fun f cdv A0 outer s0 H vs Q E hr h=>?_)
 ·obtain⟨_,_,_,_,_,_,_,_,rfl,_⟩:=h; rfl
 obtain⟨G,H0,rd,dx,ca,k,n,ns,rfl,hop,hz,hle,q⟩:=h;have hop':=hop;obtain⟨rfl,h0,wd,hsq⟩:=hop;have s2:=(Step.refl wd).new wd h0 (o:=eU A dx ca (k+1+n))
 refine⟨_,(aq (pS 1 sc.nd (hV (pv 0) T.Xf (pL T) (hr.mono (by decide)) bA))
   (aq (pS 2 sc.nd (bK (pv 0) rfl))
   (aq (HL (pv 0) (pv 1) FW)
   (au (aL (iM iN (bK (pv 0) rfl) (fW (pv 2)) (fW (bK (pv 0) rfl)))))))),?_⟩
 cb_eq
 refine eK ax (by rfl) ?_;refine⟨G,H0,rd,dx,ca,k,ns,n,rfl,hop',hz,?_⟩
 cb_eq
 refine bx ax T.Xf T.Xs rP ?_
 cb_eq
 simp only[BU]
 cb_eq
 refine⟨rd,A.reader,dx,kx ca (k+1),.int ((k+1:Nat):Int),rfl,ax,T.Xf,T.Xs,rP,?_⟩
 cb_eq
 refine⟨((k+1:Nat):Int),(n:Int),rfl,rfl,dx,kx ca (k+1),ax,by show 2<1000; decide,?_⟩;rw[upd_upd];rw[show bT "place" (.int (((k+1:Nat):Int)+(n:Int))) (kx ca (k+1))=kx ca (k+1+n)from rfl]
 cb_eq
 refine bx ax T.Xf T.XF BO ?_;refine bx ax T.Xf T.Xs rP ?_
 cb_eq
 refine iP (PP.ak.mono (K:=K) s2.wd.sub hsq) fun p hp=>?_;rw[tH,show k+1+n-(k+1)=n by omega,<-yQ,<-vq];exact q p hp
theorem Uj{G He G1 H1:Hp}{rd dx ca:aa}{k:Nat}{ns:List Int}{z:Int}{Q:VK}{E:XK}(wd:Wd A.toCn G He)(s:Step A.toCn G He G1 H1)(o:ar A.toCn He G1 H1 rd (eU A dx ca k))(hsq:ak K G1 ca (ns.map V.int))(hz:ns[k]?=some z)
  (h:∀H2,Step A.toCn G He G1 H2->ar A.toCn He G1 H2 rd (eU A dx ca (k+1))->(∀q u,ar A.toCn He G1 H1 q u->q≠rd->ar A.toCn He G1 H2 q u)->Q (.int z) H2):Cc K A [.ref rd] H1 Q E:=by
 obtain⟨Hb,rfl,h1,sb,hoth⟩:=Bk wd s o;refine⟨G1,Hb,rd,dx,ca,k,ns,z,rfl,⟨rfl,h1,sb.wd,hsq⟩,hz,?_⟩;have s2:=s.put wd o (o':=eU A dx ca (k+1));have o2:=o.put_ (o':=eU A dx ca (k+1));rw[upd_upd]at s2 o2;refine h _ s2 o2 fun q u x hq=>?_;have:=x.other hq (o':=eU A dx ca (k+1));rw[upd_upd]at this;exact this
theorem Uk{G He G1 H1:Hp}{rd dx ca:aa}{k n:Nat}{ns:List Int}{Q:VK}{E:XK}(wd:Wd A.toCn G He)(s:Step A.toCn G He G1 H1)(o:ar A.toCn He G1 H1 rd (eU A dx ca k))(hsq:ak K G1 ca (ns.map V.int))(hz:ns[k]?=some (n:Int))(hle:k+1+n<=ns.length)
  (h:∀G2 H2 p,Step A.toCn G He G2 H2->bh G1 G2->ar A.toCn He G2 H2 rd (eU A dx ca (k+1+n))->G2 p=some (.lst (((ns.drop (k+1)).take n).map V.int))->(∀q u,ar A.toCn He G1 H1 q u->q≠rd->ar A.toCn He G2 H2 q u)->Q (.ref p) H2):Cg K A [.ref rd] H1 Q E:=by
 obtain⟨Hb,rfl,h1,sb,hoth⟩:=Bk wd s o;refine⟨G1,Hb,rd,dx,ca,k,n,ns,rfl,⟨rfl,h1,sb.wd,hsq⟩,hz,hle,fun p hp=>?_⟩;have s2:=s.put wd o (o':=eU A dx ca (k+1+n));have o2:=o.put_ (o':=eU A dx ca (k+1+n));rw[upd_upd]at s2 o2;refine h _ _ p (s2.newI wd hp aT) (bu (s2.wd.noG hp)) (o2.newI s2.wd hp aT) ax fun q u x hq=>?_;have:=x.other hq (o':=eU A dx ca (k+1+n));rw[upd_upd]at this;exact this.newI s2.wd hp aT
end
end PP
namespace PM
theorem ue{ns:List Int}{j:Nat}{z:Int}{r:List Int}(h:ns.drop j=z::r):ns[j]?=some z/\r=ns.drop (j+1):=by
 constructor
 ·have:=congrArg (fun l=>l[0]?) h;simp only[vk,Nat.add_zero]at this;exact this
 ·have:=congrArg (List.drop 1) h;rw[fO]at this;exact this.symm
theorem rQ{ns:List Int}{j:Nat}{x s:List Int}(h:qJ (ns.drop j)=some (x,s)):∃n:Nat,ns[j]?=some (n:Int)/\j+1+n<=ns.length/\x=(ns.drop (j+1)).take n/\s=ns.drop (j+1+n):=by
 cases e:ns.drop j with
 |nil=>rw[e]at h; cases h
 |cons z r=>
  rw[e]at h;obtain⟨h1,rfl⟩:=ue e;unfold qJ at h;dsimp only at h;by_cases hz:0<=z/\z.toNat<=(ns.drop (j+1)).length
  ·rw[if_pos hz]at h;cases h;have hj:=(aK.mp h1).1;have h2:=hz.2;rw[cI]at h2;exact⟨z.toNat,by rw[yE hz.1]; exact h1,by omega,rfl,by rw[fO]⟩
  ·rw[if_neg hz]at h; cases h
theorem BR{r:List Int}{xs:List (List Int)}{t:List Int}(h:nj 1 r=some (xs,t)):∃x,qJ r=some (x,t)/\xs=[x]:=by
 unfold nj at h;cases e:qJ r with
 |none=>rw[e]at h; cases h
 |some y=>
  obtain⟨x,s⟩:=y;rw[e]at h;cases h;exact⟨x,rfl,rfl⟩
theorem Ic{r:List Int}{xs:List (List Int)}{t:List Int}(h:nj 2 r=some (xs,t)):∃x s y,qJ r=some (x,s)/\qJ s=some (y,t)/\xs=[x,y]:=by
 unfold nj at h;cases e:qJ r with
 |none=>rw[e]at h; cases h
 |some y=>
  obtain⟨x,s⟩:=y;rw[e]at h;dsimp only at h;cases e2:nj 1 s with
  |none=>rw[e2]at h; cases h
  |some y2=>
   obtain⟨ys,t'⟩:=y2;rw[e2]at h;cases h;obtain⟨y,h1,rfl⟩:=BR e2;exact⟨x,s,y,rfl,h1,rfl⟩
theorem CC{ns:List Int}{j:Nat}(h: ¬(ns.drop j).length<1):∃z,ns[j]?=some z/\(ns.drop j).take 1=[z]:=by
 cases e:ns.drop j with
 |nil=>rw[e]at h; exact absurd (by decide) h
 |cons z r=>exact⟨z,(ue e).1,rfl⟩
theorem Ws{ns:List Int}{j:Nat}(h: ¬(ns.drop j).length<2):∃z y,ns[j]?=some z/\ns[j+1]?=some y/\(ns.drop j).take 2=[z,y]:=by
 cases e:ns.drop j with
 |nil=>rw[e]at h; exact absurd (by decide) h
 |cons z r=>
  rw[e]at h;obtain⟨h1,h2⟩:=ue e;cases r with
  |nil=>exact absurd (by simp) h
  |cons y r=>exact⟨z,y,h1,(ue h2.symm).1,rfl⟩
inductive jX(ns:List Int)(k:Nat):List (List Int)->Nat->Prop
 |add (n m:Nat):ns[k]?=some 0->ns[k+1]?=some (n:Int)->k+1+1+n<=ns.length->ns[k+1+1+n]?=some (m:Int)->k+1+1+n+1+m<=ns.length->jX ns k [[0],(ns.drop (k+1+1)).take n,(ns.drop (k+1+1+n+1)).take m] (k+1+1+n+1+m)
 |drop (z:Int):ns[k]?=some 1->ns[k+1]?=some z->jX ns k [[1,z]] (k+1+1)
 |lists:ns[k]?=some 2->jX ns k [[2]] (k+1)
 |becomes (z:Int) (n:Nat):ns[k]?=some 3->ns[k+1]?=some z->ns[k+1+1]?=some (n:Int)->k+1+1+1+n<=ns.length->jX ns k [[3,z],(ns.drop (k+1+1+1)).take n] (k+1+1+1+n)
 |rule (z y:Int):ns[k]?=some 4->ns[k+1]?=some z->ns[k+1+1]?=some y->jX ns k [[4,z,y]] (k+1+1+1)
 |fits (z:Int) (n m:Nat):ns[k]?=some 5->ns[k+1]?=some z->ns[k+1+1]?=some (n:Int)->k+1+1+1+n<=ns.length->ns[k+1+1+1+n]?=some (m:Int)->k+1+1+1+n+1+m<=ns.length->jX ns k [[5,z],(ns.drop (k+1+1+1)).take n,(ns.drop (k+1+1+1+n+1)).take m] (k+1+1+1+n+1+m)
 |least (n:Nat):ns[k]?=some 6->ns[k+1]?=some (n:Int)->k+1+1+n<=ns.length->jX ns k [[6],(ns.drop (k+1+1)).take n] (k+1+1+n)
theorem Nc{ns:List Int}{k:Nat}{c:List (List Int)}{t:List Int}(h:PyFlat.call zt (ns.drop k)=some (c,t)):∃k',jX ns k c k'/\t=ns.drop k':=by
 cases e:ns.drop k with
 |nil=>rw[e]at h; cases h
 |cons p r=>
  rw[e]at h;obtain⟨hp,rfl⟩:=ue e;unfold PyFlat.call at h;unfold zt at h;dsimp only at h;by_cases h0:p=0
  ·subst h0;rw[if_pos rfl]at h;dsimp only at h;rw[if_neg (by omega),sD]at h;cases e2:nj 2 (ns.drop (k+1))with
   |none=>rw[e2]at h; cases h
   |some y=>
    obtain⟨xs,t'⟩:=y;rw[e2]at h;cases h;obtain⟨x,s,y,h1,h2,rfl⟩:=Ic e2;obtain⟨n,a1,a2,rfl,rfl⟩:=rQ h1;obtain⟨m,b1,b2,rfl,rfl⟩:=rQ h2;exact⟨_,.add n m hp a1 a2 b1 b2,rfl⟩
  rw[if_neg h0]at h;by_cases h1:p=1
  ·subst h1;rw[if_pos rfl]at h;dsimp only at h;by_cases hl:(ns.drop (k+1)).length<1
   ·rw[if_pos hl]at h; cases h
   rw[if_neg hl]at h;obtain⟨z,hz,ez⟩:=CC hl;have h:some ((1::(ns.drop (k+1)).take 1)::[],(ns.drop (k+1)).drop 1)=some (c,t):=h;rw[ez,fO]at h;cases h;exact⟨_,.drop z hp hz,rfl⟩
  rw[if_neg h1]at h;by_cases h2:p=2
  ·subst h2;rw[if_pos rfl]at h;dsimp only at h;rw[if_neg (by omega)]at h;have h:some ((2::(ns.drop (k+1)).take 0)::[],(ns.drop (k+1)).drop 0)=some (c,t):=h;cases h;exact⟨_,.lists hp,rfl⟩
  rw[if_neg h2]at h;by_cases h3:p=3
  ·subst h3;rw[if_pos rfl]at h;dsimp only at h;by_cases hl:(ns.drop (k+1)).length<1
   ·rw[if_pos hl]at h; cases h
   rw[if_neg hl]at h;obtain⟨z,hz,ez⟩:=CC hl;rw[fO,ez]at h;cases e2:nj 1 (ns.drop (k+1+1))with
   |none=>rw[e2]at h; cases h
   |some y=>
    obtain⟨xs,t'⟩:=y;rw[e2]at h;cases h;obtain⟨x,h1,rfl⟩:=BR e2;obtain⟨n,a1,a2,rfl,rfl⟩:=rQ h1;exact⟨_,.becomes z n hp hz a1 a2,rfl⟩
  rw[if_neg h3]at h;by_cases h4:p=4
  ·subst h4;rw[if_pos rfl]at h;dsimp only at h;by_cases hl:(ns.drop (k+1)).length<2
   ·rw[if_pos hl]at h; cases h
   rw[if_neg hl]at h;obtain⟨z,y,hz,hy,ez⟩:=Ws hl;have h:some ((4::(ns.drop (k+1)).take 2)::[],(ns.drop (k+1)).drop 2)=some (c,t):=h;rw[ez,fO]at h;cases h;exact⟨_,.rule z y hp hz hy,rfl⟩
  rw[if_neg h4]at h;by_cases h5:p=5
  ·subst h5;rw[if_pos rfl]at h;dsimp only at h;by_cases hl:(ns.drop (k+1)).length<1
   ·rw[if_pos hl]at h; cases h
   rw[if_neg hl]at h;obtain⟨z,hz,ez⟩:=CC hl;rw[fO,ez]at h;cases e2:nj 2 (ns.drop (k+1+1))with
   |none=>rw[e2]at h; cases h
   |some y=>
    obtain⟨xs,t'⟩:=y;rw[e2]at h;cases h;obtain⟨x,s,y,h1,h2,rfl⟩:=Ic e2;obtain⟨n,a1,a2,rfl,rfl⟩:=rQ h1;obtain⟨m,b1,b2,rfl,rfl⟩:=rQ h2;exact⟨_,.fits z n m hp hz a1 a2 b1 b2,rfl⟩
  rw[if_neg h5]at h;by_cases h6:p=6
  ·subst h6;rw[if_pos rfl]at h;dsimp only at h;rw[if_neg (by omega),sD]at h;cases e2:nj 1 (ns.drop (k+1))with
   |none=>rw[e2]at h; cases h
   |some y=>
    obtain⟨xs,t'⟩:=y;rw[e2]at h;cases h;obtain⟨x,h1,rfl⟩:=BR e2;obtain⟨n,a1,a2,rfl,rfl⟩:=rQ h1;exact⟨_,.least n hp a1 a2,rfl⟩
  rw[if_neg h6]at h;cases h
theorem Na{ns:List Int}{k k':Nat}{c:List (List Int)}(h:jX ns k c k'):k<k'/\k'<=ns.length:=by
 cases h with
 |add n m h0 h1 h2 h3 h4=>omega
 |drop z h0 h1=>have:=(aK.mp h1).1; omega
 |lists h0=>have:=(aK.mp h0).1; omega
 |becomes z n h0 h1 h2 h3=>omega
 |rule z y h0 h1 h2=>have:=(aK.mp h2).1; omega
 |fits z n m h0 h1 h2 h3 h4 h5=>omega
 |least n h0 h1 h2=>omega
theorem WM(c:List (List Int)):zu c=c:=by
 unfold zu;split<;>rfl
theorem rF{z:Int}{b:Nat}(h:jC z b=true):z=((zz z:Nat):Int)/\0<=z/\z<2^b:=by
 unfold jC at h;simp only[cA,decide_eq_true_iff]at h;exact⟨(yE h.1).symm,h.1,h.2⟩
end PM
namespace PP
open PySem PySem.Spec L2
open PyProof.Rows hiding St
open Pg PM
section
variable{P:aO}{w:aN}{K:aw}{mg:Str->Option ae}{base:aC}{A:Ad}
theorem ph:∀{l:List Int},l.all (fun z=>jC z 8)=true->l.map V.int=bv (Mx l)
 | [],_=>rfl
 |z::l,h=>by
  rw[vh,cA]at h;obtain⟨h1,h2,h3⟩:=rF h.1;show V.int z::l.map V.int=V.int ((kl z.toNat).toNat:Int)::bv (Mx l);have hz:z.toNat<256:=by have:z<256:=h3; omega
  rw[ph h.2,vW,vA hz,yE h2]
theorem oX(a:vX):(a.ret::a.nums.map WqatafNeutral.int).map V.int=fD a:=by
 unfold fD iv;rw[cV,gB];rfl
structure Both(K:aw)(A:Ad)(He G H:Hp)(st dx la:aa)(as:List aa)(ls:List bD)(rd dxr ca:aa)(k:Nat)(ns:List Int):Prop where
 st_:dA A He G H st dx la as ls
 rd_:ar A.toCn He G H rd (eU A dxr ca k)
 sq:ak K G ca (ns.map V.int)
 n1:st≠rd
 n2:la≠rd
theorem Both.call{He G H G1 H1:Hp}{st dx la:aa}{as:List aa}{ls:List bD}{rd dxr ca:aa}{k:Nat}{ns:List Int}(h:Both K A He G H st dx la as ls rd dxr ca k ns)(wd:Wd A.toCn G H)(s:Step A.toCn G H G1 H1):Both K A He G1 H1 st dx la as ls rd dxr ca k ns:=
 ⟨h.st_.call wd s,h.rd_.call s,PP.ak.mono (K:=K) (s.same wd) h.sq,h.n1,h.n2⟩
theorem jD{G He G1 H1:Hp}{st dx la:aa}{as:List aa}{ls:List bD}{rd dxr ca:aa}{k:Nat}{ns:List Int}{z:Int}{Q:VK}{E:XK}(wd:Wd A.toCn G He)(s:Step A.toCn G He G1 H1)(b:Both K A He G1 H1 st dx la as ls rd dxr ca k ns)(hz:ns[k]?=some z)
  (h:∀H2,Step A.toCn G He G1 H2->Both K A He G1 H2 st dx la as ls rd dxr ca (k+1) ns->Q (.int z) H2):vx A.reader "number" (.ref rd) H1 (Cc K A [.ref rd] H1 Q E):=by
 refine eK b.rd_.at_ (by rfl) (Uj wd s b.rd_ b.sq hz fun H2 s2 o2 hoth=>h H2 s2 ⟨⟨hoth _ _ b.st_.os b.n1,hoth _ _ b.st_.ol b.n2,b.st_.ne,b.st_.at_,b.st_.le⟩,o2,b.sq,b.n1,b.n2⟩)
theorem qW{G He G1 H1:Hp}{st dx la:aa}{as:List aa}{ls:List bD}{rd dxr ca:aa}{k n:Nat}{ns:List Int}{Q:VK}{E:XK}(wd:Wd A.toCn G He)(s:Step A.toCn G He G1 H1)(b:Both K A He G1 H1 st dx la as ls rd dxr ca k ns)(hz:ns[k]?=some (n:Int))(hle:k+1+n<=ns.length)
  (h:∀G2 H2 p,Step A.toCn G He G2 H2->bh G1 G2->Both K A He G2 H2 st dx la as ls rd dxr ca (k+1+n) ns->G2 p=some (.lst (((ns.drop (k+1)).take n).map V.int))->Q (.ref p) H2):vx A.reader "row" (.ref rd) H1 (Cg K A [.ref rd] H1 Q E):=by
 refine eK b.rd_.at_ (by rfl) (Uk wd s b.rd_ b.sq hz hle fun G2 H2 p s2 e2 o2 hp hoth=>h G2 H2 p s2 e2 ⟨⟨hoth _ _ b.st_.os b.n1,hoth _ _ b.st_.ol b.n2,b.st_.ne,b.st_.at_.mono e2,b.st_.le⟩,o2,PP.ak.mono (K:=K) e2 b.sq,b.n1,b.n2⟩ hp)
def va(K:aw)(A:Ad)(G H0 H:Hp)(st dx la:aa)(as:List aa)(ls:List bD)(rd dxr ca:aa)(k:Nat)(ns:List Int):Prop:=
 H=ah (ah (ah H0 st (lJ A dx la)) la (.lst (as.map V.ref))) rd (eU A dxr ca k)/\H0 st=none/\H0 la=none/\H0 rd=none/\st≠la/\st≠rd/\la≠rd/\Wd A.toCn G H0/\kR A G as ls/\ls.length<=16/\ak K G ca (ns.map V.int)
theorem va.start{G H0 H:Hp}{st dx la:aa}{as:List aa}{ls:List bD}{rd dxr ca:aa}{k:Nat}{ns:List Int}(h:va K A G H0 H st dx la as ls rd dxr ca k ns):Step A.toCn G H0 G H/\Both K A H0 G H st dx la as ls rd dxr ca k ns:=by
 obtain⟨rfl,h1,h2,h3,n1,n2,n3,wd,h4,h5,h6⟩:=h;obtain⟨s1,t1⟩:=mf.start (A:=A) ⟨rfl,h1,h2,n1,wd,h4,h5⟩;have h3':ah (ah H0 st (lJ A dx la)) la (.lst (as.map V.ref)) rd=none:=by rw[aM (bq n3),aM (bq n2)]; exact h3
 exact⟨s1.new wd h3',⟨⟨t1.os.new_ h3',t1.ol.new_ h3',t1.ne,t1.at_,t1.le⟩,ar.make wd s1 h3',h6,n2,n3⟩⟩
def Kg(K:aw)(A:Ad):Sp:=fun vs H Q _=>∃(G H0:Hp)(st dx la:aa)(as:List aa)(ls:List bD)(rd dxr ca:aa)(k k':Nat)(ns:List Int)(c:List (List Int)),vs=[.ref st,.ref rd]/\va K A G H0 H st dx la as ls rd dxr ca k ns/\jX ns k c k'/\zy c=true/\
 ∀G' H' p la' as',Step A.toCn G H0 G' H'->Both K A H0 G' H' st dx la' as' (gm ls c).1 rd dxr ca k' ns->G' p=some (.lst ((gm ls c).2.map V.int))->Q (.ref p) H'
theorem QK(T:ba K mg A)(ok_Store_becomes:ba K mg A->cM P w K mg base aX A.store "becomes" 10 ["self","is_directory","path"] (Kh A)):Kn P w K mg base aX "answer" 14 ["store","reader"] (Kg K A):=by
 have sc:aW ["store","reader","call","directory","is_directory","number","pattern"] ["store","reader"] (aI IK):=bo;refine Kn.of T.Yh sc (fun vs H Q E h=>?_) (fun f cdv A0 outer s0 H vs Q E hr h=>?_)
 ·obtain⟨_,_,_,_,_,_,_,_,_,_,_,_,_,_,rfl,_⟩:=h; rfl
 obtain⟨G,H0,st,dx,la,as,ls,rd,dxr,ca,k,k',ns,c,rfl,hop,hcall,hask,q⟩:=h;have wd:Wd A.toCn G H0:=hop.2.2.2.2.2.2.2.1;have h0st:=hop.2.1;obtain⟨s1,b1⟩:=hop.start
 have after:∀{G2 H2 Hb:Hp}{k2:Nat},Step A.toCn G H0 G2 H2->Both K A H0 G2 H2 st dx la as ls rd dxr ca k2 ns->Step A.toCn G H0 G2 Hb->(∀q o,ar A.toCn H0 G2 H2 q o->q≠st->q≠la->ar A.toCn H0 G2 Hb q o)->∀{G' H' la' as' ls'},Step A.toCn G2 Hb G' H'->dA A Hb G' H' st dx la' as' ls'->
   Step A.toCn G H0 G' H'/\Both K A H0 G' H' st dx la' as' ls' rd dxr ca k2 ns:=by
  intro G2 H2 Hb k2 s2 b2 sb hoth G' H' la' as' ls' s' t';have rb:=hoth rd _ b2.rd_ (bq b2.n1) (bq b2.n2);exact⟨sb.trans wd s',⟨t'.re h0st (sb.free wd t'.ol.new),rb.call s',PP.ak.mono (K:=K) (s'.same sb.wd) b2.sq,b2.n1,bq (dh rb.at_ t'.ol.new)⟩⟩
 refine⟨_,(aq (pS 2 sc.nd (hV (pv 1) T.Xf (pL T) (hr.mono (by decide)) bA))
   (aq (bz (bI eB (pv 2) (bB T.ZD rfl) (bp _))
    (aq (pS 3 sc.nd (hV (pv 1) T.Xf (rG T) (hr.mono (by decide)) bA))
    (au (aL (hU (pv 0) T.Xi (QF T) (hr.mono (by decide)) bA (af (pv 3) (af (hV (pv 1) T.Xf (rG T) (hr.mono (by decide)) bA) ao))))))
    bE)
   (aq (bz (bI eB (pv 2) (bB T.ZF rfl) (bp _))
    (au (aL (hU (pv 0) T.Xi (QH T) (hr.mono (by decide)) bA (af (hV (pv 1) T.Xf (pL T) (hr.mono (by decide)) bA) ao))))
    bE)
   (aq (bz (bI eB (pv 2) (bB T.ZJ rfl) (bp _))
    (au (aL (hV (pv 0) T.Xi (QI T) (hr.mono (by decide)) bA)))
    bE)
   (aq (bz (bI eB (pv 2) (bB T.ZE rfl) (bp _))
    (aq (pS 4 sc.nd (hV (pv 1) T.Xf (pL T) (hr.mono (by decide)) bA))
    (au (aL (hU (pv 0) T.Xi (ok_Store_becomes T) (hr.mono (by decide)) bA (af (pv 4) (af (hV (pv 1) T.Xf (rG T) (hr.mono (by decide)) bA) ao))))))
    bE)
   (aq (bz (bI eB (pv 2) (bB T.ZW rfl) (bp _))
    (aq (pS 5 sc.nd (hV (pv 1) T.Xf (pL T) (hr.mono (by decide)) bA))
    (au (aL (hU (pv 0) T.Xi (QJ T) (hr.mono (by decide)) bA (af (pv 5) (af (hV (pv 1) T.Xf (pL T) (hr.mono (by decide)) bA) ao))))))
    bE)
   (aq (bz (bI eB (pv 2) (bB T.ZG rfl) (bp _))
    (aq (pS 4 sc.nd (hV (pv 1) T.Xf (pL T) (hr.mono (by decide)) bA))
    (aq (pS 6 sc.nd (hV (pv 1) T.Xf (rG T) (hr.mono (by decide)) bA))
    (au (aL (cF (QT T) hr (af (pv 4) (af (pv 6) (af (hV (pv 1) T.Xf (rG T) (hr.mono (by decide)) bA) ao))))))))
    bE)
   (aq (bz (bI eB (pv 2) (bB T.ZI rfl) (bp _))
    (au (aL (cF (QY T) hr (af (hV (pv 1) T.Xf (rG T) (hr.mono (by decide)) bA) ao))))
    bE)
   (au So))))))))),?_⟩
 cb_eq
 cases hcall with
 |add n m c0 c1 c2 c3 c4=>
  refine jD wd s1 b1 c0 fun H2 s2 b2=>?_
  cb_eq
  simp only[decide_true,if_true,qm,decide_false,aV,if_false]
  have hask:(((ns.drop (k+1+1)).take n).all fun z=>jC z 8)=true/\(((ns.drop (k+1+1+n+1)).take m).all fun z=>jC z 8)=true:=by
   have h:(_&&_)=true:=hask;rw[cA]at h;exact h
  refine qW wd s2 b2 c1 c2 fun G3 H3 p3 s3 e3 b3 hp3=>?_
  cb_eq
  refine eK b3.st_.os.at_ (by rfl) ?_;refine qW wd s3 b3 c3 c4 fun G4 H4 p4 s4 e4 b4 hp4=>?_
  cb_eq
  obtain⟨Hb,hopb,sb,hoth⟩:=b4.st_.open_ wd s4;rw[ph hask.1]at hp3;rw[ph hask.2]at hp4;refine⟨G4,Hb,st,dx,la,as,ls,p3,p4,_,_,rfl,hopb,e4 _ _ hp3,hp4,fun G' H' p la' as' s' t' hp=>?_⟩;obtain⟨sf,bf⟩:=after s4 b4 sb hoth s' t';refine q G' H' p la' as' sf bf ?_;rw[hp,<-oX];rfl
 |drop z c0 c1=>
  refine jD wd s1 b1 c0 fun H2 s2 b2=>?_
  cb_eq
  simp only[decide_true,if_true,qm,decide_false,aV,if_false];refine eK b2.st_.os.at_ (by rfl) ?_;refine jD wd s2 b2 c1 fun H3 s3 b3=>?_
  cb_eq
  obtain⟨hz,_,_⟩:=rF (show jC z 32=true from hask);obtain⟨Hb,hopb,sb,hoth⟩:=b3.st_.open_ wd s3;rw[hz];refine⟨G,Hb,st,dx,la,as,ls,_,rfl,hopb,fun G' H' p as' s' t' hp=>?_⟩;obtain⟨sf,bf⟩:=after s3 b3 sb hoth s' t';refine q G' H' p la as' sf bf ?_;rw[hp,<-oX];rfl
 |lists c0=>
  refine jD wd s1 b1 c0 fun H2 s2 b2=>?_
  cb_eq
  simp only[decide_true,if_true,qm,decide_false,aV,if_false];refine eK b2.st_.os.at_ (by rfl) ?_;obtain⟨Hb,hopb,sb,hoth⟩:=b2.st_.open_ wd s2;refine⟨G,Hb,st,dx,la,as,ls,rfl,hopb,fun G' H' p s' t' hp=>?_⟩;obtain⟨sf,bf⟩:=after s2 b2 sb hoth s' t';refine q G' H' p la as sf bf ?_;rw[hp,<-oX];rfl
 |becomes z n c0 c1 c2 c3=>
  refine jD wd s1 b1 c0 fun H2 s2 b2=>?_
  cb_eq
  simp only[decide_true,if_true,qm,decide_false,aV,if_false]
  have hask:jC z 32=true/\(((ns.drop (k+1+1+1)).take n).all fun z=>jC z 8)=true:=by
   have h:(_&&_)=true:=hask;rw[cA]at h;exact h
  refine jD wd s2 b2 c1 fun H3 s3 b3=>?_
  cb_eq
  refine eK b3.st_.os.at_ (by rfl) ?_;refine qW wd s3 b3 c2 c3 fun G4 H4 p4 s4 e4 b4 hp4=>?_
  cb_eq
  rw[ph hask.2]at hp4;obtain⟨hz,_,_⟩:=rF hask.1;obtain⟨Hb,hopb,sb,hoth⟩:=b4.st_.open_ wd s4;rw[hz];refine⟨G4,Hb,st,dx,la,as,ls,_,p4,_,rfl,hopb,hp4,fun G' H' p s' t' hp=>?_⟩;obtain⟨sf,bf⟩:=after s4 b4 sb hoth s' t';refine q G' H' p la as sf bf ?_;rw[hp,<-oX];rfl
 |rule z y c0 c1 c2=>
  refine jD wd s1 b1 c0 fun H2 s2 b2=>?_
  cb_eq
  simp only[decide_true,if_true,qm,decide_false,aV,if_false]
  have hask:jC z 32=true/\jC y 32=true:=by
   have h:(_&&_)=true:=hask;rw[cA]at h;exact h
  refine jD wd s2 b2 c1 fun H3 s3 b3=>?_
  cb_eq
  refine eK b3.st_.os.at_ (by rfl) ?_;refine jD wd s3 b3 c2 fun H4 s4 b4=>?_
  cb_eq
  obtain⟨hz,_,_⟩:=rF hask.1;obtain⟨hy,_,_⟩:=rF hask.2;obtain⟨Hb,hopb,sb,hoth⟩:=b4.st_.open_ wd s4;refine⟨G,Hb,st,dx,la,as,ls,zz z,zz y,by rw[<-hz,<-hy],hopb,fun G' H' p s' t' hp=>?_⟩;obtain⟨sf,bf⟩:=after s4 b4 sb hoth s' t';refine q G' H' p la as sf bf ?_;rw[hp,<-oX];rfl
 |fits z n m c0 c1 c2 c3 c4 c5=>
  refine jD wd s1 b1 c0 fun H2 s2 b2=>?_
  cb_eq
  simp only[decide_true,if_true,qm,decide_false,aV,if_false]
  have hask:(jC z 32=true/\(((ns.drop (k+1+1+1)).take n).all fun z=>jC z 8)=true)/\(((ns.drop (k+1+1+1+n+1)).take m).all fun z=>jC z 8)=true:=by
   have h:((_&&_)&&_)=true:=hask;rw[cA,cA]at h;exact h
  refine jD wd s2 b2 c1 fun H3 s3 b3=>?_
  cb_eq
  refine qW wd s3 b3 c2 c3 fun G4 H4 p4 s4 e4 b4 hp4=>?_
  cb_eq
  refine qW wd s4 b4 c4 c5 fun G5 H5 p5 s5 e5 b5 hp5=>?_
  cb_eq
  rw[ph hask.1.2]at hp4;rw[ph hask.2]at hp5;obtain⟨hz,_,_⟩:=rF hask.1.1;refine⟨G5,zz z,p4,p5,_,_,by rw[<-hz],s5.wd,e5 _ _ hp4,hp5,fun G' H' v s' hv=>?_⟩;obtain⟨p,rfl,hp⟩:=hv;refine q G' H' p la as (s5.trans wd s') (b5.call s5.wd s') ?_;rw[hp,<-oX];rfl
 |least n c0 c1 c2=>
  refine jD wd s1 b1 c0 fun H2 s2 b2=>?_
  cb_eq
  simp only[decide_true,if_true,qm,decide_false,aV,if_false];refine qW wd s2 b2 c1 c2 fun G4 H4 p4 s4 e4 b4 hp4=>?_
  cb_eq
  rw[ph (show _=true from hask)]at hp4;refine⟨G4,p4,_,rfl,s4.wd,hp4,fun G' H' v s' hv=>?_⟩;obtain⟨p,rfl,hp⟩:=hv;refine q G' H' p la as (s4.trans wd s') (b4.call s4.wd s') ?_;rw[hp,<-oX];rfl
theorem Both.open_{He G G1 H1:Hp}{st dx la:aa}{as:List aa}{ls:List bD}{rd dxr ca:aa}{k:Nat}{ns:List Int}(wd:Wd A.toCn G He)(s:Step A.toCn G He G1 H1)(b:Both K A He G1 H1 st dx la as ls rd dxr ca k ns):
  ∃Hb,va K A G1 Hb H1 st dx la as ls rd dxr ca k ns/\Step A.toCn G He G1 Hb/\∀q o,ar A.toCn He G1 H1 q o->q≠st->q≠la->q≠rd->ar A.toCn He G1 Hb q o:=by
 obtain⟨Ha,e1,h1,sa,hotha⟩:=Bk wd s b.rd_;obtain⟨Hb,e2,h2,h3,sb,hothb⟩:=xq wd sa (hotha _ _ b.st_.os b.n1) (hotha _ _ b.st_.ol b.n2) b.st_.ne;refine⟨Hb,⟨by rw[e1,e2],h2,h3,?_,b.st_.ne,b.n1,b.n2,sb.wd,b.st_.at_,b.st_.le,b.sq⟩,sb,fun q o x q1 q2 q3=>hothb q o (hotha q o x q3) q1 q2⟩;have:=h1;rw[e2,aM (bq b.n2),aM (bq b.n1)]at this;exact this
theorem OV{x:ag}(h:jb x=true){y:ag}(e:Pg.least x=some y):y.length<=256:=by
 obtain⟨r,q,_,hl⟩:=Gp h;rw[e]at hl;exact hl.2
theorem uQ(s:Mv)(c:Wqataf.Call):(lh s c).nums.length<=257:=by
 cases c with
 |add d x=>exact bC _
 |drop i=>exact bC _
 |lists=>exact bC _
 |becomes d x=>
  show(match gO x with|none=>gU|some p=>if(ni s p (d != 0)).1=0 then de 0 else nu ((ni s p (d != 0)).1:Nat) [(ni s p (d != 0)).2.1,(ni s p (d != 0)).2.2]).nums.length<=257;cases gO x with
  |none=>exact bC _
  |some p=>
   dsimp only;split
   ·exact bC _
   ·show 2<=257; decide
 |rule i n=>
  show(match s[i]? with|none=>gU|some l=>if n=0\/(linesOf l.text).length<n then gU else match ruleAt l.text n with|none=>de 0|some r=>de (vY r)).nums.length<=257;cases s[i]? with
  |none=>exact bC _
  |some l=>
   dsimp only;split
   ·exact bC _
   ·cases ruleAt l.text n with
    |none=>exact bC _
    |some r=>exact bC _
 |fits d y x=>
  show(match lg y with|none=>gU|some r=>(match gO x with|none=>de (-2)|some p=>de (if kA r [] p (d != 0)=true then 1 else 0))).nums.length<=257;cases lg y with
  |none=>exact bC _
  |some r=>
   cases gO x with
   |none=>exact bC _
   |some p=>exact bC _
 |least x=>
  show(if 64<x.length\/jb x=false then gU else(match Pg.least x with|some y=>nu 1 (y.length::y.map fun(c:UInt8)=>c.toNat)|none=>de 0)).nums.length<=257;split
  ·exact bC _
  ·rename_i hn
   cases e:Pg.least x with
   |none=>exact bC _
   |some y=>
    have ha:jb x=true:=by
     cases z:jb x with
     |true=>rfl
     |false=>exact absurd (.inr z) hn
    have:=OV ha e;show(y.length::y.map fun(c:UInt8)=>c.toNat).length<=257;rw[bG,aE];omega
theorem We(s:Mv)(c:List (List Int)):(gm s c).2.length<=300:=by
 unfold gm;cases WqatafNeutral.callOf c with
 |none=>exact bC _
 |some x=>
  show((qS s x).2.ret::(qS s x).2.nums.map WqatafNeutral.int).length<=300;rw[bG,aE]
  have:(qS s x).2.nums.length<=257:=by
   cases x with
   |add d y=>
    show(mj s d y).2.nums.length<=257;unfold mj;cases Pg.dirOf d with
    |none=>exact bC _
    |some p=>
     dsimp only;split
     ·exact bC _
     ·cases pA y with
      |some n=>show 1<=257; decide
      |none=>
       dsimp only;split
       ·exact bC _
       ·exact bC _
   |drop i=>
    show(if i<s.length then(s.eraseIdx i,de 0)else(s,gU)).2.nums.length<=257;split
    ·exact bC _
    ·exact bC _
   |lists=>exact uQ s _
   |becomes d x=>exact uQ s _
   |rule i n=>exact uQ s _
   |fits d y x=>exact uQ s _
   |least x=>exact uQ s _
  omega
abbrev rR:=zt
def xO(K:aw)(A:Ad):Sp:=fun vs H Q _=>∃(G:Hp)(ca:aa)(ns:List Int)(f:Nat)(cs:List (List (List Int))),vs=[.ref ca]/\Wd A.toCn G H/\ak K G ca (ns.map V.int)/\qI rR f ns=some cs/\(∀c∈cs,zy c=true)/\cs.length<=400/\
 ∀G' H' p,Step A.toCn G H G' H'->G' p=some (.lst ((vM (vL gm Ee cs)).map V.int))->Q (.ref p) H'
theorem QM(T:ba K mg A)(ok_answer:ba K mg A->Kn P w K mg base aX "answer" 14 ["store","reader"] (Kg K A)):Kn P w K mg base aX "answers" 15 ["calls"] (xO K A):=by
 have sc:aW ["calls","store","reader","given","answered"] ["calls"] (aI IL):=bo;refine Kn.of T.Yi sc (fun vs H Q E h=>?_) (fun f cdv A0 outer s0 H vs Q E hr h=>?_)
 ·obtain⟨_,_,_,_,_,rfl,_⟩:=h; rfl
 obtain⟨G,ca,ns,fu,cs,rfl,wd,hsq,hcs,hask,hlen,q⟩:=h
 refine⟨_,(aq (pS 1 sc.nd (HI (QE T) (hr.mono (by decide)) bA rfl))
   (aq (pS 2 sc.nd (jM (QC T) (hr.mono (by decide)) bA rfl (af (pv 0) ao)))
   (aq (pS 3 sc.nd (br ao))
   (aq (pT eZ (lG (dR (hV (pv 2) T.Xf (QD T) (hr.mono (by decide)) bA)))
    (aq (pS 4 sc.nd (cF (ok_answer T) hr (af (pv 1) (af (pv 2) ao))))
    (aq (eC (eJ eQ gh gi fV (pv 3) (af (cL T.Xe (pv 4)) ao)))
    (au (eC (eJ eQ zj zk xg (pv 3) (af (pv 4) ao)))))))
   (au (aL (pv 3))))))),?_⟩
 cb_eq
 intro st dx hst hdx hne;refine⟨G,H,st,dx,rfl,rfl,hst,hdx,hne,wd,fun H1 la s1 t1=>⟨rfl,?_⟩⟩
 cb_eq
 intro rd dxr hrd hdxr hner;refine⟨rd,dxr,ca,rfl,ax,rfl,?_⟩;rw[upd_upd];have s2:=s1.new wd hdxr (o:=.own rd);have hrd':ah H1 dxr (.own rd) rd=none:=by rw[aM (bq hner)]; exact hrd
 have s3:=s2.new wd hrd' (o:=eU A dxr ca 0)
 have b3:Both K A H G (ah (ah H1 dxr (.own rd)) rd (eU A dxr ca 0)) st dx la [] [] rd dxr ca 0 ns:=
  ⟨⟨(t1.os.new_ hdxr).new_ hrd',(t1.ol.new_ hdxr).new_ hrd',t1.ne,t1.at_,t1.le⟩,ar.make wd s2 hrd',hsq,dh t1.os.at_ hrd,dh t1.ol.at_ hrd⟩
 generalize ah (ah H1 dxr (.own rd)) rd (eU A dxr ca 0)=H3 at s3 b3
 cb_eq
 refine⟨by decide,fun gp hgp=>?_⟩;have s4:=s3.new wd hgp (o:=.lst []);have o4:=ar.make wd s3 hgp (o:=.lst []);have b4:Both K A H G (ah H3 gp (.lst [])) st dx la [] [] rd dxr ca 0 ns:=⟨⟨b3.st_.os.new_ hgp,b3.st_.ol.new_ hgp,b3.st_.ne,b3.st_.at_,b3.st_.le⟩,b3.rd_.new_ hgp,b3.sq,b3.n1,b3.n2⟩;have g1:gp≠st:=fun z=>by have:=b3.st_.os.at_; rw[<-z,hgp]at this; cases this
 have g2:gp≠la:=fun z=>by have:=b3.st_.ol.at_; rw[<-z,hgp]at this; cases this
 have g3:gp≠rd:=fun z=>by have:=b3.rd_.at_; rw[<-z,hgp]at this; cases this
 refine qd (fun mm σ H'=>∃(x4:Option V)(G5:Hp)(la:aa)(as:List aa)(ls:List bD)(k fu:Nat)(rest:List (List (List Int)))(out:List Int),mm=ns.length-k/\σ=[some (.ref ca),some (.ref st),some (.ref rd),some (.ref gp),x4]/\Step A.toCn G H G5 H'/\Both K A H G5 H' st dx la as ls rd dxr ca k ns/\
   ar A.toCn H G5 H' gp (.lst (out.map V.int))/\gp≠la/\qI rR fu (ns.drop k)=some rest/\(∀c∈rest,zy c=true)/\out.length+301*rest.length<=301*400/\out++vM (vL gm ls rest)=vM (vL gm Ee cs))
  ⟨_,_,G,la,[],[],0,fu,cs,[],rfl,rfl,s4,b4,o4,g2,by rw[sD]; exact hcs,hask,by show 0+301*cs.length<=_; omega,rfl⟩ ?_
 rintro mm σ H5 ⟨x4,G5,la,as,ls,k,fu,rest,out,rfl,rfl,s5,b5,o5,g2,hrest,hask5,hout,heq⟩
 cb_eq
 refine eK b5.rd_.at_ (by rfl) ?_;refine⟨rd,dxr,ca,k,ns,rfl,b5.rd_.at_,PP.ak.mono (K:=K) s5.wd.sub b5.sq,?_⟩
 cb_eq
 by_cases hk:ns.length<=k
 ·rw[dT hk];simp only[eX,aV,if_false];have hnil:ns.drop k=[]:=lT hk;rw[hnil]at hrest
  have hr:rest=[]:=by
   cases fu<;>cases hrest<;>rfl
  subst hr
  cb_eq
  refine q _ _ gp (s5.sealO wd o5 aT) ?_;rw[ax,<-heq];show _=some (HO.lst ((out++[]).map V.int));rw[cC]
 ·rw[dF hk];simp only[eD,if_true];refine⟨_,fun _ _ z=>z,?_⟩
  obtain⟨c,cs',k',hca,hr,hrest'⟩:∃c cs' k',jX ns k c k'/\rest=c::cs'/\∃fu',qI rR fu' (ns.drop k')=some cs':=by
   cases e:ns.drop k with
   |nil=>
    have:=congrArg dS e;rw[cI]at this;have:ns.length-k=0:=this;omega
   |cons p r=>
    rw[e]at hrest;cases fu with
    |zero=>cases hrest
    |succ fu'=>
     unfold qI at hrest;cases e1:PyFlat.call rR (p::r)with
     |none=>rw[e1]at hrest; cases hrest
     |some y=>
      obtain⟨c,t⟩:=y;rw[e1]at hrest;dsimp only at hrest;cases e2:qI rR fu' t with
      |none=>rw[e2]at hrest; cases hrest
      |some cs'=>
       rw[e2]at hrest;cases hrest;rw[<-e]at e1;obtain⟨k',h1,rfl⟩:=Nc e1;exact⟨c,cs',k',h1,rfl,fu',e2⟩
  obtain⟨fu',hrest'⟩:=hrest';subst hr;obtain⟨hk1,hk2⟩:=Na hca;obtain⟨Hb,hop,sb,hoth⟩:=b5.open_ wd s5;have gb:=hoth gp _ o5 g1 g2 g3;refine⟨G5,Hb,st,dx,la,as,ls,rd,dxr,ca,k,k',ns,c,rfl,hop,hca,hask5 c dD,fun G6 H6 p la' as' s6 b6 hp=>?_⟩;have s56:=sb.trans wd s6;have o6:=gb.call s6;have g2':gp≠la':=dh gb.at_ b6.st_.ol.new;have b6':Both K A H G6 H6 st dx la' as' (gm ls c).1 rd dxr ca k' ns:=⟨b6.st_.re b5.st_.os.new (sb.free wd b6.st_.ol.new),b6.rd_.re b5.rd_.new,b6.sq,b6.n1,b6.n2⟩;have hsl:=We ls c;rw[bG]at hout;have hfit:(301*400+301:Nat)<=aY:=by decide
  cb_eq
  refine⟨eM (ak.of o6.at_),?_⟩;refine cw (ak.of (s56.wd.sub _ _ hp)) ?_;rw[aE];refine fZ o6.at_ (by rw[aE]; omega) ?_;rw[show out.map V.int++[V.int ((gm ls c).2.length:Nat)]=(out++[((gm ls c).2.length:Int)]).map V.int by rw[cv]; rfl];have s7:=s56.put wd o6 (o':=.lst ((out++[((gm ls c).2.length:Int)]).map V.int));have o7:=o6.put_ (o':=.lst ((out++[((gm ls c).2.length:Int)]).map V.int))
  have b7:Both K A H G6 (ah H6 gp (.lst ((out++[((gm ls c).2.length:Int)]).map V.int))) st dx la' as' (gm ls c).1 rd dxr ca k' ns:=
   ⟨⟨b6'.st_.os.other (bq g1),b6'.st_.ol.other (bq g2'),b6'.st_.ne,b6'.st_.at_,b6'.st_.le⟩,b6'.rd_.other (bq g3),b6'.sq,b6'.n1,b6'.n2⟩
  cb_eq
  refine⟨eM (ak.of o7.at_),?_⟩;refine yk o7.at_ (s7.wd.sub _ _ hp) (by rw[aE,aE,bt,dJ]; omega) ?_;rw[<-cv];refine⟨ns.length-k',by omega,_,G6,la',as',_,k',fu',cs',_,rfl,rfl,s7.put wd o7,⟨⟨b7.st_.os.other (bq g1),b7.st_.ol.other (bq g2'),b7.st_.ne,b7.st_.at_,b7.st_.le⟩,b7.rd_.other (bq g3),b7.sq,b7.n1,b7.n2⟩,o7.put_,g2',hrest',fun c' hc'=>hask5 c' (bU _ hc'),?_,?_⟩
  ·rw[bt,bt,dJ]; omega
  ·rw[<-heq];show _=out++(((gm ls c).2.length:Int)::(gm ls c).2++vM (vL gm (gm ls c).1 cs'));rw[dk,dk];rfl
end
end PP
namespace PP
open PySem PySem.Spec L2
open PyProof.Rows hiding St
open PySem.W (WData Codec WellAll Well ReadsW ReadsAllW)
theorem Lo{Pm:Params}{h:aC}:∀(ns:List Int)(vs:List ae),WellAll Pm h vs (ns.map WData.int)->aS (ns.map V.int) vs
 | [],_,x=>by
  cases x;exact .nil
 |n::r,_,x=>by
  cases x with
  |cons a b=>
   cases a;exact .cons ⟨_,rfl⟩ (Lo r _ b)
theorem HZ{R:PySem.W.WRecords}{cl:Str->Option aa}{h:aC}:∀(ns:List Int)(us:List ae),aS (ns.map V.int) us->∃as,ReadsAllW R cl h us (ns.map WData.int) as
 | [],_,x=>by
  cases x;exact⟨_,.nil⟩
 |n::r,_,x=>by
  cases x with
  |cons a b=>
   obtain⟨t,rfl⟩:=a;obtain⟨as,q⟩:=HZ (R:=R) (cl:=cl) (h:=h) r _ b;exact⟨_,.cons (.int n t) q⟩
theorem Oq{P:aO}{w:aN}{K:aw}{mg mb:Str->Option ae}{A:Ad}{fa bm:aa}{s₁:aj}{u:ae}{ns out:List Int}{ob:Obj}{R:PySem.W.WRecords}{cl:Str->Option aa}
  (KX:K.In s₁.heap)(hns:s₁.heap.Ns iL mg)(hb:s₁.heap.Ns qY mb)(hbb:∀x:Str,x≠"__name__"->mb x=qX x)(hlim:s₁.heap.NoLimit)(hg:s₁.gens= #[])
  (hwl:WellAll w.params s₁.heap [u] [.list (ns.map WData.int)])(hz:ns.length<=aY)(hr:cy 15 callerA)
  (htab:s₁.heap.get? A.tab=some (sV #[]))(hhd:isCodeTable s₁.heap A.tab)(hKt:K.lookup A.tab=none)(hbm:s₁.heap.get? bm=some ob)(hob:ob.cls=.type "module")
  (hmg:mg "answers"=some (.ref fa))(F:∀base:aC,K.In base->base.Ns iL mg->base.get? bm=some ob->Kn P w K mg base aX "answers" 15 ["calls"] (xO K A))
  (hsp:∀(G H:Hp)(ca:aa)(Q:VK),Wd A.toCn G H->ak K G ca (ns.map V.int)->(∀G' H' p,Step A.toCn G H G' H'->G' p=some (.lst (out.map V.int))->Q (.ref p) H')->xO K A [.ref ca] H Q E0):
  gW (aB P w) callerA (.call (.ref fa) ⟨[u],[]⟩) (fun r s'=>∃v as,r=.ok (.ret v)/\ReadsW R cl s'.heap v (.list (out.map WData.int)) as/\OldK s₁.heap s'.heap/\s'.os=s₁.os/\mQ s'.gens) s₁:=by
 obtain⟨ca,vs,rfl,hca,hvs⟩:∃(ca:aa)(vs:List ae),u=.ref ca/\s₁.heap.get? ca=some {cls:=.type "list",data:=.seq vs.toArray}/\aS (ns.map V.int) vs:=by
  cases hwl with
  |cons a b=>
   cases a with
   |list e x=>exact⟨_,_,rfl,e,Lo _ _ x⟩
 have hct:ca≠A.tab:=fun z=>by
  rw[z,htab]at hca;injection hca with e;injection e with e;cases e
 obtain⟨H0,hH0⟩:∃H0:Hp,∀b,H0 b=if b=ca/\K.lookup ca=none then some (.frz {cls:=.type "list",data:=.seq vs.toArray} (.lst (ns.map V.int)))else none:=⟨fun b=>if b=ca/\K.lookup ca=none then some (.frz {cls:=.type "list",data:=.seq vs.toArray} (.lst (ns.map V.int)))else none,fun _=>rfl⟩
 have at0:∀b o,H0 b=some o->b=ca/\K.lookup ca=none/\o=.frz {cls:=.type "list",data:=.seq vs.toArray} (.lst (ns.map V.int)):=fun b o e=>by
  rw[hH0]at e;by_cases c:b=ca/\K.lookup ca=none
  ·rw[if_pos c]at e;exact⟨c.1,c.2,(eE e).symm⟩
  ·rw[if_neg c]at e; cases e
 have t0:H0 A.tab=none:=by
  cases e:H0 A.tab with
  |none=>rfl
  |some o=>exact absurd (at0 _ _ e).1.symm hct
 have sq:ak K H0 ca (ns.map V.int):=by
  cases hk:K.lookup ca with
  |none=>exact .inl (.inr ⟨_,by rw[hH0,if_pos ⟨rfl,hk⟩]⟩)
  |some o=>
   have e:=KX ca o hk;rw[hca]at e;obtain rfl:=eE e;have hl:=hvs.length;exact .inr ⟨_,vs.toArray,_,hk,rfl,rfl,rfl,by rw[eY,<-hl,aE]; exact hz,by simpa using hvs⟩
 have wd:Wd A.toCn H0 (ah H0 A.tab (.tbl #[])):=⟨bu t0,fun m dx lc opt dd e=>(by cases(at0 _ _ e).2.2),fun m dx lc opt m' dx' lc' opt' dd e=>(by cases(at0 _ _ e).2.2),t0,#[],ax,.inl rfl⟩
 have atH:∀b o,ah H0 A.tab (.tbl #[]) b=some o->(b=A.tab/\o=.tbl #[])\/(b≠A.tab/\H0 b=some o):=fun b o e=>by
  by_cases c:b=A.tab
  ·rw[c,ax]at e;exact .inl ⟨c,(eE e).symm⟩
  ·rw[aM c]at e;exact .inr ⟨c,e⟩
 have hok:cx P w (ah H0 A.tab (.tbl #[])) s₁.heap:=fun b o e=>by
  rcases atH b o e with⟨rfl,rfl⟩|⟨_,e⟩
  ·exact htab
  ·obtain⟨rfl,_,rfl⟩:=at0 _ _ e;exact⟨hca,by rw[aE]; exact hz,vs,0,hvs,hca⟩
 have hno:∀{b:aa}{o:Obj},s₁.heap.get? b=some o->(∀us n,o.data≠.seq us n)->(∀us,o.data≠.fields us)->ah H0 A.tab (.tbl #[]) b=none:=fun{b o} e n1 n2=>by
  cases q:ah H0 A.tab (.tbl #[]) b with
  |none=>rfl
  |some x=>
   rcases atH b x q with⟨rfl,_⟩|⟨_,q⟩
   ·rw[htab]at e;cases e;exact absurd rfl (n2 _)
   ·obtain⟨rfl,_,_⟩:=at0 _ _ q;rw[hca]at e;cases e;exact absurd rfl (n1 _ _)
 have nK:∀b o,K.lookup b=some o->ah H0 A.tab (.tbl #[]) b=none:=fun b o e=>by
  cases q:ah H0 A.tab (.tbl #[]) b with
  |none=>rfl
  |some x=>
   rcases atH b x q with⟨rfl,_⟩|⟨_,q⟩
   ·rw[hKt]at e; cases e
   ·obtain⟨rfl,e2,_⟩:=at0 _ _ q;rw[e2]at e; cases e
 have hq:=hsp H0 (ah H0 A.tab (.tbl #[])) ca (fun v H'=>∃p,v=.ref p/\H' p=some (.lst (out.map V.int))) wd sq fun G' H' p st e=>⟨p,rfl,st.wd.sub _ _ e⟩
 have frz:∀b o,ah H0 A.tab (.tbl #[]) b=some o->b≠A.tab->∃ob,o=.frz ob (.lst (ns.map V.int)):=fun b o e hb=>by
  rcases atH b o e with⟨z,_⟩|⟨_,e⟩
  ·exact absurd z hb
  ·exact⟨_,(at0 _ _ e).2.2⟩
 have ht:ah H0 A.tab (.tbl #[]) A.tab=some (.tbl #[]):=ax;clear wd at0 t0 sq atH hH0 hsp;generalize ah H0 A.tab (.tbl #[])=H at hok hno nK hq frz ht;have nsK:∀{b:aa}{m:Str->Option ae},s₁.heap.Ns b m->(mn s₁.heap H).Ns b m:=fun{b m}⟨o,es,ep,e,d,r⟩=>⟨o,es,ep,Ak e (hno e (fun _ _ z=>by rw[d]at z; cases z) fun _ z=>by rw[d]at z; cases z),d,r⟩;have hKb:K.In (mn s₁.heap H):=fun b o e=>Ak (KX b o e) (nK b o e);have hM:Mod K mg (mn s₁.heap H):=⟨hKb,nsK hns,⟨mb,nsK hb,hbb⟩,let⟨mc,h1,h2⟩:=hlim; ⟨mc,nsK h1,h2⟩⟩;have e0:oq P w K mg (mn s₁.heap H) callerA [] s₁ H:=⟨rfl,hM,fun b o e=>Qs e,sM (Ou _ _),trivial,fun b hb=>absurd (show b∈([]:List aa)from hb) (by simp),hok,.of_eq hg⟩
 have hbm':(mn s₁.heap H).get? bm=some ob:=by
  refine Ak hbm ?_;cases q:H bm with
  |none=>rfl
  |some x=>
   by_cases z:bm=A.tab
   ·rw[z,htab]at hbm;cases hbm;cases hob
   ·obtain⟨o2,rfl⟩:=frz _ _ q z;obtain⟨e1,_,its,n,_,e2⟩:=hok _ _ q;rw[hbm]at e2;cases e2;exact absurd (nr.inj hob) (by decide)
 obtain⟨f,fd,Fk,hm,_,hbd⟩:=F _ hKb (nsK hns) hbm'
 obtain rfl:fa=f:=by
  rw[hmg]at hm;cases hm;rfl
 refine qZ (Fk.run callerA [] s₁ H ⟨[.ref ca],[]⟩ [.ref ca] [.ref ca] _ _ hr e0 (hbd s₁ [.ref ca] KX rfl) (.cons rfl .nil) hq) fun r s' x=>?_;cases r with
 |error e=>exact fK x
 |ok fl=>
  cases fl with
  |next=>exact fK x
  |brk=>exact fK x
  |cont=>exact fK x
  |ret v=>
   obtain⟨v',H',os,bare,un,hok',r',p,rfl,hp⟩:=x
   have kept:∀b o,b≠A.tab->s₁.heap.get? b=some o->s'.heap.get? b=some o:=fun b o hb e=>by
    cases q2:H b with
    |none=>exact un.keep b o e q2 (by intro z; exact absurd (show b∈([]:List aa)from z) (by simp)) (by simp)
    |some x2=>
     obtain⟨o2,rfl⟩:=frz _ _ q2 hb;obtain⟨e1,_⟩:=hok b _ q2;obtain⟨e2,_⟩:=hok' b _ (un.frzs b _ _ q2);rw[e]at e1;cases e1;exact e2
   obtain⟨more,hm⟩:=un.tbls A.tab #[] ht;have hm2:s'.heap.get? A.tab=some (sV (#[]++more)):=hok' _ _ hm;obtain rfl:v=cK p:=r';obtain⟨_,its,n,rv,ho⟩:=hok' p _ hp;obtain⟨as,hrd⟩:=HZ (R:=R) (cl:=cl) (h:=s'.heap) out its rv;refine⟨_,_,rfl,.list ho rfl rfl hrd,⟨fun b o e=>?_,fun b o e=>?_⟩,os,bare⟩
   ·by_cases hb:b=A.tab
    ·subst hb;rw[htab]at e;cases e;exact .inr (.inl ⟨hhd,rfl,#[],more,rfl,hm2⟩)
    ·exact .inl (kept b o hb e)
   ·by_cases hb:b=A.tab
    ·exact⟨_,by rw[hb]; exact hm2⟩
    ·exact⟨o,kept b o hb e⟩
end PP
namespace PP
open PySem PySem.Spec L2
open PyProof.Rows hiding St
section
variable{K:aw}{h:aC}{mg:Str->Option ae}{x m q:Str}{st:aH}{ps:List Str}{f C:aa}{oc:ae}{od an:Option aa}{osl:Array (Option ae)}{kV doc pm cdv ct:ae}
theorem bX(X:K.In h)(G:h.Ns iL mg)(a:PySem.W.nsIn K iL x=some (some (.ref f)):=by k_is)(l:K.lookup f=some ⟨oc,od,.func (kf x x (lj st) (gE st) (aI st) .none kV doc pm an cdv ct),osl⟩:=by k_is)
  (c:sU K cdv x=true:=by k_is)(k:kg K (.ref f)=true:=by k_is)
  (b:∀(kV doc pm:ae)(an:Option aa)(cdv ct:ae)(us:List ae),us.length=ps.length->bindArgs (kf x x (lj st) (gE st) (aI st) .none kV doc pm an cdv ct) ⟨us,[]⟩=pure (ps.zip us):=by intro _ _ _ _ _ _ us hl; rcases us with _|⟨_,_|⟨_,_|⟨_,_|⟨_,_|⟨_,_|⟨_,_⟩⟩⟩⟩⟩⟩<;>first|(simp at hl; done)|rfl):Df K mg x st ps:=
 ⟨f,_,rl (st:=st) l c k,zp X G a,(rl (st:=st) l c k).binds b⟩
theorem ie(a:jA K (.ref C) m=some (some (.ref f)):=by k_is)(i:vO K (.ref f)=true:=by k_is)(l:K.lookup f=some ⟨oc,od,.func (kf m q (lj st) (gE st) (aI st) .none kV doc pm an cdv ct),osl⟩:=by k_is)
  (c:sU K cdv q=true:=by k_is)(k:kg K (.ref f)=true:=by k_is)
  (b:∀(kV doc pm:ae)(an:Option aa)(cdv ct:ae)(us:List ae),us.length=ps.length->bindArgs (kf m q (lj st) (gE st) (aI st) .none kV doc pm an cdv ct) ⟨us,[]⟩=pure (ps.zip us):=by intro _ _ _ _ _ _ us hl; rcases us with _|⟨_,_|⟨_,_|⟨_,_|⟨_,_|⟨_,_|⟨_,_⟩⟩⟩⟩⟩⟩<;>first|(simp at hl; done)|rfl):gA K C m q st ps:=
 ⟨f,_,rl (st:=st) l c k,⟨a,i,k⟩,(rl (st:=st) l c k).binds b⟩
theorem nD(X:K.In h)(G:h.Ns iL mg)(n:PySem.W.nsIn K iL x=some (some (.ref C)):=by k_is)(a:jA K (.ref C) "__init__"=some (some (.ref f)):=by k_is)(i:vO K (.ref f)=true:=by k_is)(l:K.lookup f=some ⟨oc,od,.func (kf "__init__" q (lj st) (gE st) (aI st) .none kV doc pm an cdv ct),osl⟩:=by k_is)
  (c:sU K cdv q=true:=by k_is)(k:kg K (.ref f)=true:=by k_is)(mk:DO K C=true:=by k_is)(kc:kg K (.ref C)=true:=by k_is)
  (b:∀(kV doc pm:ae)(an:Option aa)(cdv ct:ae)(us:List ae),us.length=ps.length->bindArgs (kf "__init__" q (lj st) (gE st) (aI st) .none kV doc pm an cdv ct) ⟨us,[]⟩=pure (ps.zip us):=by intro _ _ _ _ _ _ us hl; rcases us with _|⟨_,_|⟨_,_|⟨_,_|⟨_,_|⟨_,_|⟨_,_⟩⟩⟩⟩⟩⟩<;>first|(simp at hl; done)|rfl):kJ K mg C x q st ps:=
 ⟨f,_,rl (st:=st) l c k,⟨mk,a,i,kc⟩,zp X G n,(rl (st:=st) l c k).binds b⟩
theorem di{i:Int}{t:Tok}(X:K.In h)(G:h.Ns iL mg)(a:PySem.W.nsIn K iL x=some (some (.int i t)):=by k_is):cT mg x i:=⟨_,zp X G a,t,rfl⟩
theorem fq(a:jA K (.ref C) x=some none:=by k_is):cN K C x:=a
theorem lz(X:K.In h)(G:h.Ns iL mg)(a:PySem.W.nsIn K iL x=some none:=by k_is):mg x=none:=PySem.W.mg_none_of X G a
theorem nB(a:vP K C Str.empty=true:=by k_is)(b:zm K C=true:=by k_is)(c:PySem.W.plainOver K C=true:=by k_is)(d:jA K (.ref C) "__setattr__"=some (some (.builtin "object.__setattr__")):=by k_is):dy K C:=⟨a,b,c,d⟩
end
def CG:Ad:={cell:=108,mat:=331,tab:=66,lp:=⟨54,48,54,81⟩,lq:=("lines_that_count":Str)++".<locals>."++"<lambda>",machine:=185,pairs:=213,pattern:=359,plist:=494,store:=562,reader:=617,fault:=88}
section
variable{P:aO}{w:aN}{K:aw}{mg:Str->Option ae}{base:aC}{A:Ad}
theorem QL(T:ba K mg A)(LT:yH K mg base A):Kn P w K mg base aX "answers" 15 ["calls"] (xO K A):=
 QM T fun T=>QK T fun T=>QG T fun T=>QR T fun T=>AZ T LT
end
theorem Of{q:aO}{loose:List Str}{XP:(Str->Option ae)->aC->Prop}{K:aw}{w:aN}{s_0 s₁:aj}{mg mb:Str->Option ae}{fa:aa}{args:List PySem.W.WData}{vals:List ae}
  (G:PySem.W.Ground q loose [] XP w s_0 mg mb s₁.heap)(KX:K.In s₁.heap)(hmg:mg "answers"=some (.ref fa))(hg:s₁.gens= #[])(hpre:vN.pre args=true)(hlay:PySem.W.WData.layableAll args=true)(hwl:PySem.W.WellAll w.params s₁.heap vals args)
  (T:ba K mg CG)(h1:PySem.W.tabIn K "lines_that_count"=some (70,66))(h2:PySem.W.codeHdIn K 70 66=true)(h3:((recsOf q).find? fun e=>e.name==("lines_that_count":Str)).isSome=true)(h4:(K.lookup 66).isNone=true):
  az (aB vN.prog w) callerA (call (.ref fa) vals) (fun v s'=>PySem.W.GoodWG vN.claim (classAt s_0.heap) (ExcName.means s_0.heap) args s₁ (.ok (.ret v)) s')
    (fun e s'=>PySem.W.GoodWG vN.claim (classAt s_0.heap) (ExcName.means s_0.heap) args s₁ (.error e) s') s₁:=by
 obtain⟨a,e1,e2⟩:=PySem.W.os_pre_some hpre;obtain⟨e3,hwi⟩:=PySem.W.Codec.encAll_of_decAll _ args a e1;subst e3;obtain⟨d,hd⟩:=DH.mp h3;obtain⟨hcode,htab⟩:=PySem.W.tab_of G.T KX hd h1;obtain⟨bm,ob,b1,b2,b3,b4,b5,b6⟩:=G.T.bmain
 have lt:∀base:aC,base.get? bm=some ob->yH K mg base CG:=fun base hb=>
  ⟨rfl,rfl,fun f o fd hm hk hdat=>⟨70,PySem.W.law_code KX G.T.g h1 hm (KX f o hk) hdat,fun h X=>PySem.W.codeHd_of_K X h2⟩,bm,ob,b1,b2,b4,b5,b6,hb⟩
 obtain⟨ns,_⟩:=a;have hask:Mu ns=true:=e2;have hwl2:PySem.W.WellAll w.params s₁.heap vals [.list (ns.map PySem.W.WData.int)]:=hwl;have hin:(PySem.W.Codec.inLen 0 31000 ns&&ns.all _&&true)=true:=hwi;rw[cA,cA]at hin;have hlen:ns.length<=31000:=(PySem.W.Codec.inNat_iff.mp hin.1.1).2
 obtain⟨u,rfl⟩:∃u,vals=[u]:=by
  cases hwl2 with
  |cons x y=>
   cases y;exact⟨_,rfl⟩
 unfold Mu at hask;cases hcs:PyWqataf.calls ns with
 |none=>rw[hcs]at hask; cases hask
 |some cs=>
  rw[hcs]at hask;have hans:DT ns=vM (vL gm Ee cs):=by unfold DT; rw[hcs]
  have hfl:qI rR ns.length ns=some cs:=by
   unfold PyWqataf.calls at hcs;cases e:qI zt ns.length ns with
   |none=>rw[e]at hcs; cases hcs
   |some ds=>
    rw[e]at hcs;have hcs:some (ds.map zu)=some cs:=hcs;rw[show ds.map zu=ds from by rw[vp (fun c _=>PM.WM c),List.map_id']]at hcs;exact hcs
  have hask:(PyFlat.atMost 400 cs&&Mw cs)=true:=hask;rw[cA]at hask;have h400:cs.length<=400:=of_decide_eq_true hask.1
  have hall:∀c∈cs,zy c=true:=by
   have:=hask.2;unfold Mw at this;rw[cA,cA,cA]at this;exact ju.mp this.1.1.1
  have hz:aY=16777216:=rS;refine PySem.W.enter_call (qZ (Oq (R:=[]) (cl:=classAt s_0.heap) (A:=CG) (ns:=ns) (out:=DT ns) KX G.T.g G.T.b G.T.builtins G.T.nolimit hg hwl2 (by omega) ⟨rfl,by decide,by decide⟩ htab (hcode.tab htab).isCodeTable (Mi.mp h4) b3 b4 hmg (fun base _ _ hb=>QL T (lt base hb)) fun G' H ca Q wd sq k=>?_) fun r' s' hq=>?_)
  ·exact⟨G',ca,ns,ns.length,cs,rfl,wd,sq,hfl,hall,h400,fun G2 H2 p st e=>k G2 H2 p st (by rw[hans]; exact e)⟩
  ·obtain⟨v,as',rfl,h5,h6,h7,h8⟩:=hq;exact⟨.inl ⟨v,_,as',rfl,fun _=>rfl,h5,(PySem.W.OpenSpec.post_iff (by decide +kernel) hwi _ _).mpr rfl,fun z=>CU (show false=true from z)⟩,h6,h7,h8⟩
end PP
open PySem PySem.W PyProof.Rows PP
theorem PySem.Challenge.cw_passpatterns_s01_answers_holds : PySem.Challenge.rw_passpatterns_s01_answers.Holds := by
 w_on; k_headS; (case hw=>exact⟨[.list [.int 2]],by decide +kernel,by decide +kernel⟩)
 k_fillS
 intro w s_0 s₁ mg mb G Y fa o pm cd doc dV kV ho hd hcd hD hmg hg args vals as hpre hlay hrd hwl hlo;have X:=PySem.W.kIn_of Y;have N:=G.T.g;refine PP.Of G X hmg hg hpre hlay hwl ?T (by kernel_rfl) (by kernel_rfl) (by decide +kernel) (by kernel_rfl);exact⟨di X N,di X N,di X N,di X N,di X N,di X N,di X N,di X N,di X N,di X N,di X N,di X N,di X N,di X N,di X N,di X N,di X N,di X N,di X N,di X N,di X N,di X N,di X N,di X N,di X N,di X N,di X N,di X N,di X N,di X N,di X N,lz X N,lz X N,lz X N,lz X N,lz X N,lz X N,lz X N,lz X N,lz X N,lz X N,nB,fq,fq,fq,nB,fq,fq,fq,nB,fq,fq,nB,fq,fq,fq,nB,fq,fq,fq,fq,nB,fq,fq,fq,nB,fq,nB,fq,fq,zp X N (by k_is),by kernel_rfl,bX X N,bX X N,bX X N,bX X N,bX X N,bX X N,bX X N,bX X N,bX X N,bX X N,bX X N,bX X N,bX X N,bX X N,bX X N,bX X N,bX X N,bX X N,bX X N,bX X N,bX X N,bX X N,bX X N,bX X N,bX X N,bX X N,bX X N,bX X N,bX X N,bX X N,bX X N,bX X N,bX X N,bX X N,bX X N,bX X N,bX X N,bX X N,bX X N,bX X N,bX X N,bX X N,bX X N,bX X N,bX X N,bX X N,bX X N,bX X N,bX X N,bX X N,ie,ie,ie,ie,ie,ie,ie,ie,ie,ie,ie,ie,ie,ie,ie,nD X N,nD X N,nD X N,nD X N,nD X N,nD X N,nD X N,nD X N⟩
