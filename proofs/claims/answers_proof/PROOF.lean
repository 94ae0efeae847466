import PyProof.Rows.All
import PyWqataf
import Wide.All
import OpenK.AllK
import Wide.FinOn
import PyProof.EqAt
import PyProof.EqKinds
import PyProof.TupleCall
import KE.BitLaws
import KE.IntBitsLaws
import PySem.Challenge.RW_passpatterns_s01_answers
import KE.KLam
import KE.KSortKeySt
import PyProof.ListRange
import PyProof.Rows.CallKwBuiltin
import PyProof.Rows.SetFrom
import KE.KRevIter
import KE.KDictList
import PyProof.Rows.SortShellAny
import Open.SpecLaws
import KE.OsGo
import KE.SpHead
import KE.OsHead
import KE.OsShapes
import KE.KNestM
set_option Elab.async false
set_option linter.all false
set_option maxRecDepth 100000
set_option maxHeartbeats 0
set_option genSizeOfSpec false
set_option genSizeOf false
set_option genInjectivity false
set_option compiler.extract_closed false
open PySem renaming Addr->aa,Value->ae,Shared->aj,wpAny_bind->ay,wpAny->az,Heap->aA,model->aC,World->aH,Stmt->aI,Program->aJ,Expr->aM,wpAny_pure->aT,sizeLine->aZ,eval->bF,Paired->bK,Around->bM,starEach->bQ,SetTable->bY,rawInt->cg,Scope->cN,cellsFrom->eA,backTo->eV,mainGlobals->fi,compEnvC->fJ,compareOp->fK,NameKind->gm,cLine->gz,codeAny->hX,wpAny_mono->iE,mem_of_lookup->iL,PyData->jJ,pyNext->ka,FuncData->kn,BoolOp->kW,scanBound->lT,sysModules->lW,pushCells->mY,wpAny_newObj_type->ni,binaryOp->nU,builtinsNs->nV,swapsWith->oE,wpAny_Call_Name_kw->oI,Arguments->oJ,codeAny_builtin->pT,notedBy->qg,pickOrder->qo,plainId_quiet->qp,wpAny_of_eq->qy,wpAny_setField->qz,wpAny_setState_of->qA,assignEach->rH,bootBuiltins->rK,codeAny_mono->rL,compPost->rN,importedModules->rV,sizeLine_eq->sI,sliceBounds->sJ,wpAny_call_entry->sQ,wpAny_holding->sR,wpAny_passesOwn->sS,attributeBase->tX,foldedSetIterable->uq,getMethod->uu,keywordEach->uA,noteFrame->uO,treeTable->vC,tupleKind->vD,wpAny_askSetting->vE,wpAny_rule->vF,wpAny_truthy_bool->vG,intBits_le_iff->wG,behindInMarks->wY,pushCells_keeps->yk,tupleKind_room_in1->yN,wpAny_Name->yT,wpAny_call->yU,wpAny_execs_nil->yV,wpAny_setEntries_of->yW,Within->Ah,boot_len->Ai,comprehension->AJ,firstArgMember->AQ,letOwnedTupleGo->Bm,recursionLimit->CN,subscripted->DK,wpAny_attempt->Ee,wpAny_callSpecial?_slot->Ef,wpAny_field->Eg,wpAny_fieldsOf->Eh,wpAny_ite_split->Ei,wpAny_updateSeq->Ej,isSubtype_type->HJ,wpAny_assign_Name->MD,wpAny_isInstance->ME,wpAny_loadName_local->MF,wpAny_pyIter_list->MG,wpAny_runValue->MH,builtinLookup_eq_fast->Ou,codeAny_compStart_list->OI,exec_Assign_Name_used->Pz,wpAny_comprehension_free->YH,wpAny_isTrue_Compare1->YI,wpAny_loadName_cell->YJ,wpAny_loadName_free->YK
open Pg renaming Bytes->ag,textOf->aD,splitOn->aG,Atom->bc,Path->bj,PList->bE,partBy->cU,Rule->cZ,rulesOf->dy,lineOf->dG,segsOf->dQ,beginning->fg,slimSeg->fm,decider->fL,unseen->gg,partOk->gC,matchesPath->gR,pathOf->gU,allFurther->hW,segOf->iq,isFault->iz,askable->jk,byText->jn,onByte->jt,stretches->ke,further->kH,ruleFits->kN,onSlash->mT,becomes->nI,allFitting->pN,faultIn->pX,overParts->ql,partEnds->sA,becomesFrom->wX
open PySem.W renaming Frag->aw,hideAll->gQ,Frag->hO,SharedT->lC,hideAll_none->lM,emptyDict->nM,findIn->nN,instObj->pG,keepIn->pH,of_hideAll->qh,fnOf->rj,funFrames_hide->rS,tabObj->tR,hideAll_get->uy,plainGet->wF,findIn->xu,callWith_K->Ac,hasDictIn->Ae,lookIn->Af,mg_of->Ag,callWith_K0->Fg,codeHdIn->Fh,codeIn->Fi,kla_obj->Fj,methodObj->Fl,plainGet_of->Fm,plainOver->Fn,takerIn->Fo,cellsFrom_some->NN,methodCall_KW->NO
open List renaming length_map->aE,getElem?_eq_some_iff->aK,mem_cons->bg,length_append->bw,length_cons->bH,getElem?_eq_getElem->bO,mem_map->bS,mem_cons_of_mem->bX,mem_append->cn,take_length->cv,map_append->cx,append_nil->cD,mem_singleton->cE,getElem?_map->cI,length_drop->cM,length_take->cQ,map_cons->cV,mem_append_left->cW,append_assoc->dt,mem_of_getElem?->du,mem_append_right->dA,mem_cons_self->dI,length_singleton->dR,length->eh,range->er,mem_flatMap->eQ,take_zero->eR,size_toArray->fe,length_pos_iff->fG,drop_drop->fS,all_eq_true->gG,map_map->gH,getElem?_eq_none->hU,getElem_of_mem->je,length_range->jf,not_mem_nil->jg,sum_cons->jh,getElem?_append_left->jF,nodup_cons->jG,drop_of_length_le->kq,take_of_length_le->kr,filter_cons->kZ,getElem_mem->lb,mem_filterMap->lg,pairwise_map->lh,drop_eq_nil_of_le->mn,mem_range->mr,pairwise_cons->mv,length_eq_zero_iff->nA,lookup->nB,nil_append->nD,any_eq_true->oY,cons_append->oZ,filter_nil->pf,getElem?_append_right->ph,length_filter_le->pj,take_append_drop->pk,any_cons->qM,filter_append->qN,getElem?_cons_succ->qO,getElem?_set_ne->qP,lookup_cons->qQ,mem_filter->qR,contains_eq_mem->tj,drop_zero->tm,filterMap_cons->tq,find?_cons->tw,getElem?_set_self->tD,map_nil->tE,all_cons->vT,any_eq_false->vU,any_map->vV,getElem?_drop->vW,length_nil->vX,length_reverse->vY,map_take->vZ,pairwise_lt_range->wa,set_set->wb,drop_left->zz,eq_nil_or_concat->zA,getD_eq_getElem?_getD->zB,getElem?_range->zC,isEmpty_eq_false_iff->zD,map_congr_left->zE,map_drop->zF,mem_flatten->zG,nodup_append->zH,nodup_nil->zI,pairwise_iff_getElem->zJ,take_left->zK,append_cancel_left->ED,append_eq_nil_iff->EE,append_inj'->EF,drop_eq_getElem_cons->EG,ext_getElem?->EH,findIdx?_eq_some_iff_getElem->EI,foldl_cons->EJ,getElem?_eq_none_iff->EK,length_eraseIdx_of_lt->EL,mem_of_find?_eq_some->EM,of_mem_zip->EN,range_succ_eq_map->EO,take_append->ER,take_take->ES,concat_eq_append->MZ,drop_append_of_le_length->Na,findIdx?_eq_none_iff->Nb,getElem?_take_of_lt->Nc,getElem?_toArray->Nd,head?_eq_getElem?->Nf,length_dropLast->Ng,length_replicate->Nh,mem_iff_getElem?->Ni,pairwise_append->Nj,pairwise_flatMap->Nk,pairwise_of_forall_mem_list->Nl,replicate_succ->Nm,sublist_cons_self->Nn
open Nat renaming le_refl->aF,zero_le->bI,ne_of_lt->cJ,lt_of_lt_of_le->cR,le_trans->dM,lt_irrefl->gI,le_of_lt->jH,pow_le_pow_right->kx,min_eq_left->mw,testBit_and->my,lt_succ_of_lt->nF,add_mul->px,pow_lt_pow_right->pz,testBit_two_pow->pA,lt_trans->qT,mul_le_mul->qU,ne_of_gt->qV,sub_self->qW,zero_add->qX,le_of_eq->tJ,le_succ->tK,lt_of_le_of_lt->tL,le_of_not_lt->we,lt_succ_self->wg,mod_eq_of_lt->wj,mul_le_mul_right->wk,one_mul->wm,testBit_lt_two_pow->wo,add_sub_cancel->zO,le_of_succ_le->zP,lt_pow_two_of_testBit->zQ,testBit_or->zR,testBit_xor->zS,add_sub_cancel_left->ET,min_eq_right->EU,shiftLeft_eq->EV,zero_testBit->EW,eq_of_testBit_eq->Nr,exists_testBit_of_ne_zero->Nt,testBit_two_pow_mul_add->Nu,testBit_two_pow_sub_one->Nv
open Bool renaming true->J1,false->J2,false_eq_true->aU,and_eq_true->bD,not_false->eJ,not_true->fc,false_ne_true->fC,eq_iff_iff->nu,false_xor->qE,or_eq_true->qF,true_xor->qG,false_and->vJ,not_eq_true'->vK,true_and->ze,noConfusion->Em,and_eq_true_iff->ML
open Ne renaming symm->br
open PySem.Heap renaming lt_size->bR,get?_push_of_some->bV,get?_push_size->dD,size_push->fQ,get?_update_other->kY,SameBut->me,get?_update_self->mf,get?_none_of_le->MY
open Sum renaming inl->bZ,inr->pK
open PySem.Value renaming ref->cO,none->iP,int->kG,type->nP,bool->pM,isInt_shape->Fz
open Wqataf renaming says->di,BAD->hV,patternOf->lH,told->lI,addOf->mI,tells->nQ,fitsIn->rC,rulesIn->rD,step->rE,Ans->wN,flags->wO,State->NQ
open Option.some renaming inj->dN
open PySem.F renaming plainAttrs_list->eT,slot_list_append->gn,type_list_append->gr,called_set->oV,plain_extend_loop->zl,plain_list_iadd->zm,slot_list_extend->Aa,type_list_extend->Ab,slot_dict_get->Ff,entry_proto_collect->MT,plain_proto_collect->MV,args_dict_get_2->NC,entry_dict_get->ND,plainAttrs_int->NF,slot_int_bit_length->NG,type_int_bit_length->NH
open PySem.PassesOwn renaming never->ff,leaving->Fe
open Iff renaming rfl->fz
open Int renaming toNat_natCast->fD,toNat->fR,reduceEq->qJ,natAbs_natCast->zq,toNat_of_nonneg->zr,natCast_inj->EA,natCast_pow->EB
open Array renaming length_toList->fO,getElem?_toList->iF,getElem?_eq_getElem->iY,getD_eq_getD_getElem?->oK,getElem?_eq_none->zb,getElem?_eq_some_iff->zc
open False renaming elim->fP
open PySem.SeqAt renaming EqAt->fW,shaped->tS
open WqatafNeutral renaming step->gy,natural->jM,asked1->Al,nat->Am,start->FC,asked->NR,bytes->NS
open PyProof.Rows renaming firstMet->gO,envOfC->iS,IntsAre->jE,AllBare->nq,callWith_type1->zY,firstMet->zZ,firstMet_succ->AR,IntsAre->NA,callWith_builtin1->NB,subscriptTail_builtinR->Yg
open PySem.SetTable renaming below->iM,grown->rq
open Int.ofNat renaming inj->jc
open PySem.Paired renaming snoc->ji
open PySem.Str renaming ofString->jK
open PySem.Obj renaming data_mapFields->kA,mapSeq->tM,isFreed_of_fields->wq,mapFields->wu,putSet->wx,cls_mapFields->EY
open Prod renaming mk->kB
open UInt8 renaming ofNat->kF,le_iff_toNat_le->tU,lt_irrefl->tV,toNat_ofNat'->wM,lt_trans->Fx,toNat_ofNat_of_lt'->Fy
open Option renaming some->TL,none->J0,map_some->ly,isSome_some->nG,isSome_none->qZ,map_eq_some_iff->wy,getD_none->EZ,isSome_iff_exists->Fb,isSome_map->Fc,isNone_iff_eq_none->Nw,some->Ny
open Or renaming inr->lz
open True renaming intro->lE
open PySem.Builtin.Int renaming intBits->lZ
open PyFlat renaming calls->mB,rows->nJ,row->rg,played->wC,told->wD,call->zX
open PySem.Challenge renaming pw_passpatterns_s01_answers->nL,rw_passpatterns_s01_answers->rh
open PySem.Heap.SameBut renaming update->oW
open PySem.PyData renaming eqv->pF,canLayAll0->tP,int->tQ,eqvAll->wB,depthAll->zW
open PySem.Around renaming under_plainId->qD
open Prod.mk renaming injEq->rf,inj->zV
open PyWqataf renaming shape->rl,answers->Fp,answers_asked->NP
open List.Pairwise renaming imp_of_mem->tf
open PySem.NameKind renaming free->tI
open PySem.Builtin renaming bitAnd->vN,bitNot->Eo,bitXor->Ep
open PySem.Builtin.List renaming listExtendWith->zf,listTooLong->En,listLengthHint->MM,listSameRef->MN
open PySem.Calls renaming spliced_cons->zg,spliced_nil->zh,Name_function_global->Es,callWith_builtin->Et,evalArgs_plain->Eu,call_len_list->MP,loadGlobal_builtin->MQ
open ForInStep renaming yield->zo
open List.cons renaming injEq->zy
open PySem.SetTable.below renaming go->Aj
open PyProof.Rows.F renaming plain_set_update_loop->Ex,entry_set_update_loop->MU
open PySem.Builtin.Range renaming rangeSize->MO
open PySem.W.Fast renaming te14364793385576792824->NI,te4187177175401517315->NJ,tw1435165496053646825->NK,tw14364793385576792824->NL,tw4187177175401517315->NM,te10156331382660048174->YT,te10274390034422433532->YU,te11892475500146522536->YV,te14289696077712309145->YW,te1435165496053646825->YX,te6613529449190102663->YY,tw10156331382660048174->YZ,tw10274390034422433532->Za,tw11892475500146522536->Zb,tw14289696077712309145->Zc,tw6613529449190102663->Zd
noncomputable section
theorem J6(h:True:=by rfl)(g:True:=by decide):True:=h
def J7:Lean.Syntax:=J6._auto_1
def J9:Lean.Syntax:=J6._auto_2
local macro_rules| `(tactic|k_is)=> `(tactic|first|exact .inl rfl|exact .inr rfl|exact .inr (.inl rfl)|exact .inr (.inr rfl)|assumption)
theorem J3{c:Prop}{h:Decidable c}(n:¬c){α:Sort u}{t e:α}:ite c t e=e:=if_neg n
theorem J4{c:Prop}{h:Decidable c}(n:c){α:Sort u}{t e:α}:ite c t e=t:=if_pos n
def J5{a:Prop}{b:Sort u}(h:a)(g:¬a):b:=absurd h g
theorem dF{p:Prop}[Decidable p](h:¬p):decide p=false:=decide_eq_false h
theorem dT{p:Prop}[Decidable p](h:p):decide p=true:=decide_eq_true h
namespace L2
open PySem PySem.Spec PyProof.Rows
noncomputable def inClass(s:aI)(j:Nat):aI:=match s with
 |.ClassDef _ _ _ body _ _ _ _ _ _ _=>body.getD j (.Pass ⟨0,0,0,0⟩)
 |_=>.Pass ⟨0,0,0,0⟩
def rP(s:aI):oJ:=match s with
 |.FunctionDef _ a _ _ _ _ _ _ _ _=>a
 |_=>{posonlyargs:=[],args:=[],vararg:=J0,kwonlyargs:=[],kw_defaults:=[],kwarg:=J0,defaults:=[]}
def jq(s:aI):List aI:=match s with
 |.FunctionDef _ _ b _ _ _ _ _ _ _=>b
 |_=> []
noncomputable def aN(s:aI):cN:=match s with
 |.FunctionDef _ _ _ _ _ _ sc _ _ _=>sc
 |_=>{kind:=.function,names:=[],isGenerator:=J2,isCoroutine:=J2}
end L2
namespace PP
open PySem PySem.Spec L2
open PyProof.Rows hiding St
open PySem.W (Frag nsIn findIn codeIn keepIn isFn makesIn)
noncomputable def top(i:Nat):aI:=nL.main.body.getD i (.Pass ⟨0,0,0,0⟩)
abbrev Kt:aI:=top 13
abbrev Kg:aI:=top 14
abbrev Kh:aI:=top 15
abbrev JZ:aI:=top 16
abbrev Km:aI:=top 17
abbrev Kp:aI:=top 19
abbrev Kq:aI:=top 20
abbrev JY:aI:=top 21
abbrev Du:aI:=top 22
abbrev Ka:aI:=top 23
abbrev CT:aI:=inClass (top 27) 0
abbrev JX:aI:=top 28
abbrev Ku:aI:=top 29
abbrev Kr:aI:=top 30
abbrev JW:aI:=top 31
abbrev KP:aI:=top 32
abbrev KO:aI:=top 33
abbrev JU:aI:=top 34
abbrev Ki:aI:=top 35
abbrev CU:aI:=inClass (top 41) 0
abbrev Dd:aI:=inClass (top 42) 0
abbrev De:aI:=inClass (top 42) 1
abbrev Kv:aI:=top 43
abbrev KA:aI:=top 44
abbrev Kx:aI:=top 45
abbrev KN:aI:=top 46
abbrev JV:aI:=top 47
abbrev KF:aI:=top 49
abbrev KE:aI:=top 50
abbrev KI:aI:=top 51
abbrev KJ:aI:=top 52
abbrev KD:aI:=top 53
abbrev CY:aI:=inClass (top 55) 0
abbrev CW:aI:=inClass (top 55) 1
abbrev Dc:aI:=inClass (top 55) 2
abbrev CV:aI:=inClass (top 55) 3
abbrev CZ:aI:=inClass (top 55) 4
abbrev Da:aI:=inClass (top 55) 5
abbrev KB:aI:=top 56
abbrev Di:aI:=inClass (top 58) 0
abbrev KC:aI:=top 59
abbrev Ks:aI:=top 60
abbrev Kf:aI:=top 61
abbrev Kw:aI:=top 62
abbrev KM:aI:=top 63
abbrev KH:aI:=top 64
abbrev KG:aI:=top 65
abbrev Kz:aI:=top 67
abbrev Kb:aI:=top 68
abbrev Ko:aI:=top 69
abbrev KQ:aI:=top 70
abbrev Kl:aI:=top 71
abbrev Kd:aI:=top 77
abbrev Kc:aI:=top 78
abbrev Ky:aI:=top 79
abbrev Kk:aI:=top 80
abbrev Kj:aI:=top 81
abbrev Dg:aI:=inClass (top 87) 0
abbrev Dh:aI:=inClass (top 87) 1
abbrev KL:aI:=top 88
abbrev Ke:aI:=top 89
abbrev Dr:aI:=inClass (top 90) 0
abbrev Dn:aI:=inClass (top 90) 1
abbrev Dq:aI:=inClass (top 90) 2
abbrev Ds:aI:=inClass (top 90) 3
abbrev Do:aI:=inClass (top 90) 4
abbrev Dt:aI:=inClass (top 90) 5
abbrev Dk:aI:=inClass (top 100) 0
abbrev Dj:aI:=inClass (top 100) 1
abbrev Dl:aI:=inClass (top 100) 2
abbrev Dm:aI:=inClass (top 100) 3
abbrev JS:aI:=top 101
abbrev JT:aI:=top 102
noncomputable def lK (h:aA):List aa->hO
 | []=> []
 |a::r=>match h.get? a with
  |some o=>(a,o)::lK h r
  |none=>lK h r
abbrev kI:=aa×Str×aI
noncomputable def xH (v:Option (Option ae)) (f:aa):Bool:=match v with
 |some (TL (.ref g))=>g==f
 |_=>J2
noncomputable def ia (s:aI):Str:=match s with
 |.FunctionDef n _ _ _ _ _ _ _ _ _=>n
 |_=>""
noncomputable def AZ (K:hO) (r:kI):Option (Option ae):=match r.1 with
 |0=>nsIn K fi (ia r.2.2)
 |C=>xu K (.ref C) (ia r.2.2)
noncomputable def xA (K:hO) (r:kI):Option (aa×kn):=match AZ K r with
 |some (TL (.ref f))=>(match K.lookup f with
  |some ⟨_,_,.func d,_⟩=>TL (f,d)
  |_=>J0)
 |_=>J0
abbrev Bb:=Str×Str×oJ×FuncBody×cN×aa×List (Str×aa)×ae×aa
noncomputable def Bc (K:hO) (r:kI):Option Bb:=(xA K r).map fun(_,d)=>(d.name,d.qualname,d.params,d.body,d.scope,d.globals,d.closure,d.defaults,d.builtins)
noncomputable def sO (r:kI):Option Bb:=TL (ia r.2.2,r.2.1,rP r.2.2,.stmts (jq r.2.2),aN r.2.2,fi,[],.none,nV)
noncomputable def Az (K:hO) (r:kI):Bool:=(xA K r).any fun(f,d)=>codeIn K d.code r.2.1&&keepIn K (.ref f)&&isFn K (.ref f)
noncomputable def rT:List aa:=3::[20,27,32,37,44,49,56,63,70,77,87,104,107,118,125,132,139,146,153,160,167,181,184,202,209,212,223,228,233,240,247,254,261,268,275,282,294,301,306,313,320,327,330,341,355,358,369,376,383,390,397,404,411,416,423,430,435,440,447,454,459,464,471,485,490,493,504,509,523,530,537,544,551,558,561,575,592,599,606,613,616,627,634].flatMap fun a=> [a,a+1]
noncomputable def Ho:List (Str×Int):=[("LINE_FEED",10),("BANG",33),("HASH",35),("STAR",42),("DASH",45),("DOT",46),("SLASH",47),("QUESTION",63),("OPEN_BRACKET",91),("BACKSLASH",92),("CLOSE_BRACKET",93),("MOST_PATH_BYTES",256),("PART_BEGINS",0),("ONE_DOT",1),("TWO_DOTS",2),("WITHIN_PART",3),("MOST_FITS_BYTES",128),("MOST_LEAST_BYTES",64),("MOST_LEAST_LINE_BYTES",24),("MOST_LEAST_PATTERNS",2),("MOST_TEXT_BYTES",512),("MOST_LISTS",16),("MOST_PATTERNS",64),("MOST_BYTES",2048),("ADD",0),("DROP",1),("LISTS",2),("BECOMES",3),("RULE",4),("FITS",5),("LEAST",6)]
noncomputable def Hm:List Str:=["len","enumerate","range","all","any","sum","max","min","sorted","set"]
noncomputable def Hn:List (aa×Str):=[(108,"Cell"),(185,"Machine"),(213,"Pairs"),(331,"Matcher"),(359,"Pattern"),(494,"PatternList"),(562,"Store"),(617,"Reader")]
noncomputable def Hl:List (aa×Str):=[(108,"stays"),(108,"moves"),(108,"optional"),(185,"starts"),(185,"end"),(185,"steps"),(213,"met"),(213,"numbers"),(331,"cells"),(331,"optional"),(331,"steps"),(359,"keeps"),(359,"for_directories"),(359,"anchored"),(359,"matcher"),(494,"directory"),(494,"size"),(494,"lines"),(562,"lists"),(617,"calls"),(617,"place")]
noncomputable def nZ:List kI:=[13,14,15,16,17,19,20,21,22,23,28,29,30,31,32,33,34,35,43,44,45,46,47,49,50,51,52,53,56,59,60,61,62,63,64,65,67,68,69,70,71,77,78,79,80,81,88,89,101,102].map fun i=>(0,ia (top i),top i)
noncomputable def og:List kI:=[(213,"Pairs.number_of",De),(331,"Matcher.entered",CW),(331,"Matcher.steps_of",Dc),(331,"Matcher.after",CV),(331,"Matcher.is_through",CZ),(331,"Matcher.matched_ends",Da),(494,"PatternList.pattern_count",Dh),(562,"Store.add",Dn),(562,"Store.drop",Dq),(562,"Store.list_count",Ds),(562,"Store.becomes",Do),(562,"Store.rule",Dt),(617,"Reader.at_end",Dj),(617,"Reader.number",Dl),(617,"Reader.row",Dm)]
noncomputable def oa:List kI:=[(108,"Cell.__init__",CT),(185,"Machine.__init__",CU),(213,"Pairs.__init__",Dd),(331,"Matcher.__init__",CY),(359,"Pattern.__init__",Di),(494,"PatternList.__init__",Dg),(562,"Store.__init__",Dr),(617,"Reader.__init__",Dk)]
noncomputable def BN (K:hO) (x:Str×Int):Bool:=match nsIn K fi x.1 with
 |some (TL (.int i _))=>i==x.2
 |_=>J2
noncomputable def xV (v:Option (Option ae)):Bool:=match v with
 |some J0=>J1
 |_=>J2
noncomputable def Bg (v:Option (Option ae)) (f:String):Bool:=match v with
 |some (TL (.builtin g))=>g==f
 |_=>J2
noncomputable def ue (K:hO) (c:aa×Str):Bool:=xH (nsIn K fi c.2) c.1&&makesIn K c.1&&keepIn K (.ref c.1)&&wF K c.1 Str.empty&&Ae K c.1&&Fn K c.1&&Bg (xu K (.ref c.1) "__setattr__") "object.__setattr__"
noncomputable def Yk (K:hO):Bool:=PySem.W.tabIn K "lines_that_count"==TL (70,66)
noncomputable def uE (K:hO):Bool:=Ho.all (BN K)&&Hm.all (fun x=>xV (nsIn K fi x))&&Hn.all (ue K)&&Hl.all (fun x=>xV (xu K (.ref x.1) x.2))&&xH (nsIn K fi "LineFault") 88&&
 PySem.W.excIn K 88 [.type "ValueError",.type "Exception",.type "BaseException",.type "object"] "ValueError.__new__"&&Yk K&&Fh K 70 66&&(K.lookup 66).isNone
noncomputable def xM (K:hO):Bool:=(nZ++og++oa).all (Az K)
noncomputable def xN (K:hO):List (Option Bb):=(nZ++og++oa).map (Bc K)
end PP
namespace PP
open PySem PySem.W PyProof.Rows
noncomputable def uv (p:aJ) (w:aH) (N:Nat):Option aj:=(Za NL (opening p) w N (NK (opening p)).fst (NK (opening p)).snd).bind (Zc p)
theorem Qg(p:aJ)(w:aH)(N:Nat):fencedOpening vC p w N=uv p w N:=by
 unfold fencedOpening uv;rw[<-YU,<-NI,<-YX,<-YW]
noncomputable def uw:List Obj->BT->Nat->Option BT
 | [],t,_=>TL t
 |o::r,t,i=>match((t.ins i o).get i).isSome with
  |true=>uw r (t.ins i o) (i+1)
  |false=>J0
noncomputable def xB (p:aJ) (w:aH) (n₀:Nat) (ann:Option ae):Nat->lC->Thread->Option lC
 |0,_,_=>J0
 |n+1,s,t=>match through t with
  |true=>TL s
  |false=>match Zd n₀ ann t with
   |false=>J0
   |true=>match YZ (Zb NL) p w s t with
    |some (s',t')=>xB p w n₀ ann n s' t'
    |none=>J0
noncomputable def lL (p:aJ) (w:aH) (N:Nat) (s:aj):Option lC:=
 match s.heap.isNs fi&&s.gens.size==0 with
 |true=>match uw s.heap.objs.toList .nil 0 with
  |some t=>xB p w s.heap.objs.size (s.heap.nsMap fi (jK "__annotations__")) N ⟨t,s.heap.objs.size,s.heap.life,s.gens,s.drawn,s.toks,s.os⟩ (topStub p)
  |none=>J0
 |false=>J0
theorem Hq{p:aJ}{w:aH}{n₀:Nat}{ann:Option ae}:∀{n:Nat}{s s':lC}{t:Thread},xB p w n₀ ann n s t=TL s'->topRun vC p w n₀ ann n s.abs t=TL s'.abs
 |0,_,_,_,h=>by cases h
 |n+1,s,s',t,h=>by
  unfold xB at h;rw[<-YY,<-YT,<-YV,<-NI]at h;unfold topRun;cases h1:through t with
  |true=>
   rw[h1]at h;cases h;rfl
  |false=>
   rw[h1]at h;dsimp only at h⊢;cases h2:stepOk n₀ ann t with
   |false=>rw[h2]at h;cases h
   |true=>
    rw[h2]at h;dsimp only at h⊢;cases h3:stepT (denote vC) p w s t with
    |none=>rw[h3]at h;cases h
    |some x=>
     obtain⟨s1,t1⟩:=x;rw[h3]at h;rw[stepT_spec h3];exact Hq h
theorem Hr{life:Life}:∀{l:List Obj}{t t':BT}{i:Nat},uw l t i=TL t'->absHeap t' (i+l.length) life=⟨(absHeap t i life).objs++l.toArray,life⟩
 | [],t,t',i,h=>by
  cases h;show absHeap t i life=_;simp[absHeap]
 |o::r,t,t',i,h=>by
  unfold uw at h;cases h1:((t.ins i o).get i).isSome with
  |false=>rw[h1]at h;cases h
  |true=>
   rw[h1]at h;have:=Hr (life:=life) h;rw[bH,show i+(r.length+1)=i+1+r.length by lia,this,absHeap_ins h1];show(⟨((absHeap t i life).objs.push o)++r.toArray,life⟩:aA)=_;simp
theorem Qj{p:aJ}{w:aH}{N:Nat}{s:aj}{s':lC}(h:lL p w N s=TL s'):(s.heap.isNs fi&&s.gens.size==0)=J1/\topRun vC p w s.heap.objs.size (s.heap.nsMap fi (jK "__annotations__")) N s (topStub p)=TL s'.abs:=by
 unfold lL at h;cases h1:s.heap.isNs fi&&s.gens.size==0 with
 |false=>rw[h1]at h;cases h
 |true=>
  rw[h1]at h;dsimp only at h;cases h2:uw s.heap.objs.toList .nil 0 with
  |none=>rw[h2]at h;cases h
  |some t=>
   rw[h2]at h;have e:=Hr (life:=s.heap.life) h2;have r:=Hq h;refine⟨rfl,?_⟩
   have a:(⟨t,s.heap.objs.size,s.heap.life,s.gens,s.drawn,s.toks,s.os⟩:lC).abs=s:=by
    obtain⟨⟨objs,life⟩,gens,drawn,toks,os⟩:=s;unfold lC.abs;dsimp only at e⊢;rw[qX,fO]at e;rw[e];simp[absHeap,BT.list]
   rw[a]at r;exact r
theorem Qi{p q:aJ}{loose:List Str}{Xt:aj->Bool}{α:Type}{Yf:aj->α}{Ya:aH->α}{N:Nat}{g0:Bool}
  (h:∀w:aH,((uv p w N).bind fun s₀=>(lL p w N s₀).map fun sT=>(staticsOk (rV p.main.body) s₀.heap sT.abs.heap&&namesBound p sT.abs.heap&&gensDone sT.abs&&laidKept s₀.heap sT.abs.heap,NM q loose (rV p.main.body) Xt g0 sT.abs,Yf sT.abs))=TL (J1,openGood q loose,Ya w)):
  LeftO p q loose Xt Yf Ya N g0:=fun w=>by
 have hw:=h w;rw[<-NJ,<-Qg]at hw;unfold openEnds;cases h1:fencedOpening vC p w N with
 |none=>rw[h1]at hw;cases hw
 |some s₀=>
  rw[h1]at hw;have hw:(lL p w N s₀).map _=_:=hw;cases h2:lL p w N s₀ with
  |none=>rw[h2]at hw;cases hw
  |some sT=>
   rw[h2]at hw;have hw:=dN hw;obtain⟨l1,l23⟩:=zV hw;obtain⟨l2,l3⟩:=zV l23;obtain⟨z1,z2⟩:=Qj h2;show(topFrom vC p w N s₀).map _=_;unfold topFrom;rw[z1];dsimp only;rw[z2];show((match staticsOk (rV p.main.body) s₀.heap sT.abs.heap&&namesBound p sT.abs.heap&&gensDone sT.abs&&laidKept s₀.heap sT.abs.heap with|true=>TL sT.abs|false=>J0):Option aj).map _=_;rw[l1];exact congrArg TL (Prod.ext l2 l3)
noncomputable def Qh:aI->Bool
 |.Assign [.Name x _] _ _=>x=="__name__"
 |_=>J2
noncomputable def dB:aJ:={nL with main:={nL.main with body:=nL.main.body.filter fun s=>!Qh s}}
noncomputable def mJ {α:Type} (p:aJ) (w:aH) (N:Nat) (X:aj->lC->α):Option α:=(uv p w N).bind fun s₀=>(lL p w N s₀).map (X s₀)
theorem jr{α β γ:Type}{p:aJ}{w:aH}{N:Nat}{X:aj->lC->α}{Y:aj->lC->β}{x:α}{y:β}(f:α->β->γ)(h1:mJ p w N X=TL x)(h2:mJ p w N Y=TL y):mJ p w N (fun s t=>f (X s t) (Y s t))=TL (f x y):=by
 unfold mJ at*;cases e:uv p w N with
 |none=>rw[e]at h1;cases h1
 |some s=>
  rw[e]at h1 h2;have h1:(lL p w N s).map (X s)=TL x:=h1;have h2:(lL p w N s).map (Y s)=TL y:=h2;show(lL p w N s).map _=_;cases e2:lL p w N s with
  |none=>rw[e2]at h1;cases h1
  |some t=>
   rw[e2]at h1 h2;have h1:=dN h1;have h2:=dN h2;show TL (f (X s t) (Y s t))=_;rw[h1,h2]
theorem Qe{p q:aJ}{loose:List Str}{Xt:aj->Bool}{α:Type}{Yf:aj->α}{Ya:aH->α}{N:Nat}{g0:Bool}
  (h1:∀w:aH,mJ p w N (fun s t=>staticsOk (rV p.main.body) s.heap t.abs.heap&&namesBound p t.abs.heap&&gensDone t.abs)=TL J1)(h2:∀w:aH,mJ p w N (fun s t=>laidKept s.heap t.abs.heap)=TL J1)
  (h3:∀w:aH,mJ p w N (fun _ t=>NM q loose (rV p.main.body) Xt g0 t.abs)=TL (openGood q loose))(h4:∀w:aH,mJ p w N (fun _ t=>Yf t.abs)=TL (Ya w)):LeftO p q loose Xt Yf Ya N g0:=
 Qi fun w=>jr kB (jr and (h1 w) (h2 w)) (jr kB (h3 w) (h4 w))
def Ba{α:Type}(X:aj->lC->α)(x:α):Prop:=∀w:aH,mJ nL w 9224 X=TL x
def jR{α:Type}(X:aj->α)(x:α):Prop:=Ba (fun _ t=>X t.abs) x
theorem Re:Ba (fun s t=>staticsOk (rV nL.main.body) s.heap t.abs.heap&&namesBound nL t.abs.heap&&gensDone t.abs) true:=fun w=>by kernel_rfl
theorem Rf:Ba (fun s t=>laidKept s.heap t.abs.heap) true:=fun w=>by kernel_rfl
theorem Rg:jR (fun s=>seen ((recsOf dB).map (·.name)) (ownsOf dB) [] {s with gens:= #[]}) (expectedOf dB):=fun w=>by kernel_rfl
theorem Il:jR (·.heap.bltView) bltViewBooted:=fun w=>by kernel_rfl
theorem Rh:jR (fun s=>s.heap.keysOk (looseW dB []) ((recsOf dB).map (·.name)) ((litsOf dB).map (·.1)) ((clssOf dB (looseW dB [])).map (·.name))&&s.heap.accountedOkI (rV nL.main.body)&&s.heap.isNs fi&&s.heap.isNs nV&&tablesOk dB s.heap&&(xlAt dB [] s&&recOk [] s)&&(if J1 then s.gens.size==0 else !leftWithCleanup s.gens)) true:=fun w=>by kernel_rfl
theorem Ri:jR (tabsOk dB) true:=fun w=>by kernel_rfl
theorem Rj:jR (pinSeenD dB (drecsOf dB)) (pinGoodD (drecsOf dB)):=fun w=>by kernel_rfl
theorem Rk:jR (plainSeenE dB (looseW dB [])) (plainGoodE dB (looseW dB [])):=fun w=>by kernel_rfl
theorem Rm:jR (plainSeenD dB []) (plainGoodD dB []):=fun w=>by kernel_rfl
theorem Rn:jR (wideSeen dB) (wideGood dB):=fun w=>by kernel_rfl
theorem Ro:jR (clsSeenW dB []) (clsGoodW dB []):=fun w=>by kernel_rfl
theorem Rp:jR (fun s=>uE (lK s.heap rT)) true:=fun w=>by kernel_rfl
theorem Rq:jR (fun s=>xM (lK s.heap rT)) true:=fun w=>by kernel_rfl
theorem Rr:jR (fun s=>xN (lK s.heap rT)) ((nZ++og++oa).map sO):=fun w=>by kernel_rfl
theorem Qc:LeftO nL dB [] (fun s=>xlAt dB [] s&&recOk [] s) (fun s=>(uE (lK s.heap rT),xM (lK s.heap rT),xN (lK s.heap rT))) (fun _=>(J1,J1,(nZ++og++oa).map sO)) 9224:=
 Qe Re Rf (fun w=>by
  rw[<-NJ];unfold openSeen openGood;exact jr kB (Rg w) (jr kB (Il w) (jr kB (Rh w) (jr kB (Ri w) (jr kB (Rj w) (jr kB (Rk w) (jr kB (Rm w) (jr kB (Rn w) (Ro w))))))))) fun w=>jr kB (Rp w) (jr kB (Rq w) (Rr w))
end PP
namespace PM
open Pg
theorem BZ:∀(b:Bool)(l:List Bool),(onward b l).length=l.length
 |_,[]=>rfl
 |b,x::r=>by simp[onward,BZ]
theorem uR:∀(b:Bool)(l:List Bool)(j:Nat),(onward b l)[j]?=TL J1↔j<l.length/\(b=J1\/∃i,i<=j/\l[i]?=TL J1)
 |b,[],j=>by simp[onward]
 |b,x::r,0=>by
  simp only[onward,List.getElem?_cons_zero,bH];constructor
  .intro h;have h:(b||x)=true:=dN h;refine⟨by lia,?_⟩;cases b with
   |true=>exact .inl rfl
   |false=>exact .inr ⟨0,aF _,by simpa using h⟩
  .rintro⟨_,h|⟨i,hi,h⟩⟩
   .simp[h]
   .have:i=0:=by lia
    subst this;have h:x=true:=by simpa using h
    simp[h]
 |b,x::r,j+1=>by
  simp only[onward,qO,bH];rw[uR (b||x) r j];constructor
  .rintro⟨h1,h|⟨i,hi,h⟩⟩
   .refine⟨by lia,?_⟩;cases b with
    |true=>exact .inl rfl
    |false=>exact .inr ⟨0,by lia,by simpa using h⟩
   .exact⟨by lia,.inr ⟨i+1,by lia,by simpa using h⟩⟩
  .rintro⟨h1,h|⟨i,hi,h⟩⟩
   .exact⟨by lia,.inl (by simp[h])⟩
   .refine⟨by lia,?_⟩
    match i,h with
    |0,h=>
     have h:x=true:=by simpa using h
     exact .inl (by simp[h])
    |i+1,h=>exact .inr ⟨i,by lia,by simpa using h⟩
theorem Ji(f:UInt8->Bool):∀(l:List Bool)(s:ag),l.length=s.length+1->(over f l s).length=s.length
 | [],s,h=>by simp at h
 |x::r,[],_=>by simp[over]
 |x::r,c::s,h=>by
  simp only[over,bH];rw[Ji f r s (by simpa using h)]
theorem Ci(f:UInt8->Bool):∀(l:List Bool)(s:ag)(j:Nat),(over f l s)[j]?=TL J1↔∃c,l[j]?=TL J1/\s[j]?=TL c/\f c=J1
 | [],s,j=>by simp[over]
 |x::r,[],j=>by simp[over]
 |x::r,c::s,0=>by simp[over]
 |x::r,c::s,j+1=>by
  simp only[over,qO];exact Ci f r s j
theorem Jh(f:ag->Bool):∀(l:List Bool)(s:bj),l.length=s.length+1->(ql f l s).length=s.length
 | [],s,h=>by simp at h
 |x::r,[],_=>by simp[ql]
 |x::r,c::s,h=>by
  simp only[ql,bH];rw[Jh f r s (by simpa using h)]
theorem Cg(f:ag->Bool):∀(l:List Bool)(s:bj)(j:Nat),(ql f l s)[j]?=TL J1↔∃c,l[j]?=TL J1/\s[j]?=TL c/\f c=J1
 | [],s,j=>by simp[ql]
 |x::r,[],j=>by simp[ql]
 |x::r,c::s,0=>by simp[ql]
 |x::r,c::s,j+1=>by
  simp only[ql,qO];exact Cg f r s j
theorem HS{l:List Bool}{n:Nat}(h:l.length=n+1):l.getLastD J2=J1↔l[n]?=TL true:=by
 rw[List.getLastD_eq_getLast?,List.getLast?_eq_getElem?,h,zO];rw[bO (by lia)];simp
def eS:List bc->ag->Prop
 | [],s=>s=[]
 |a::as,s=>match a with
  |.star=>∃u v,s=u++v/\eS as v
  |a=>∃c v,s=c::v/\a.takes c=J1/\eS as v
theorem kJ{as:List bc}{s:ag}:eS (.star::as) s↔∃u v,s=u++v/\eS as v:=fz
theorem mQ{a:bc}{as:List bc}{s:ag}(h:a≠.star):eS (a::as) s↔∃c v,s=c::v/\a.takes c=J1/\eS as v:=by
 cases a with
 |star=>exact J5 rfl h
 |any=>exact fz
 |byte c=>exact fz
 |cls n rs=>exact fz
theorem FM{a:bc}{s:ag}{l:List Bool}(h:a≠.star):atomStep s a l=J2::over a.takes l s:=by
 cases a with
 |star=>exact J5 rfl h
 |any=>rfl
 |byte c=>rfl
 |cls n rs=>rfl
theorem jP{α:Type}{s:List α}{i:Nat}{c:α}{v:List α}:s.drop i=c::v↔s[i]?=TL c/\s.drop (i+1)=v:=by
 constructor
 .intro h;have h1:(s.drop i)[0]?=TL c:=by rw[h];rfl
  rw[vW]at h1;refine⟨by simpa using h1,?_⟩;rw[<-fS,h];rfl
 .rintro⟨h1,h2⟩;obtain⟨hi,e⟩:=aK.mp h1;rw[EG hi,e,h2]
theorem XQ:bc.any≠.star:=fun h=>bc.noConfusion h
theorem AV(s:ag):∀(as:List bc)(l:List Bool),l.length=s.length+1->
  ((as.foldl (fun(l:List Bool)(a:bc)=>atomStep s a l) l).getLastD J2=J1↔∃i,l[i]?=TL J1/\eS as (s.drop i))
 | [],l,h=>by
  rw[List.foldl_nil,HS h];constructor
  .intro e;exact⟨s.length,e,by show s.drop s.length=[];simp⟩
  .rintro⟨i,e,q⟩;have q:s.drop i=[]:=q;have hi:=(aK.mp e).1;have:s.length<=i:=by simpa using q
   have:i=s.length:=by lia
   rw[<-this];exact e
 |a::as,l,h=>by
  rw[EJ];by_cases ha:a=.star
  .subst ha;have hl:(atomStep s .star l).length=s.length+1:=by show(onward J2 l).length=_;rw[BZ,h]
   rw[AV s as _ hl];constructor
   .rintro⟨j,e,q⟩;have e:(onward J2 l)[j]?=TL true:=e;obtain⟨hj,z|⟨i,hi,z⟩⟩:=(uR _ _ _).mp e
    .cases z
    .refine⟨i,z,kJ.mpr ⟨(s.drop i).take (j-i),s.drop j,?_,q⟩⟩;have:s.drop j=(s.drop i).drop (j-i):=by rw[fS];congr 1;lia
     rw[this,pk]
   .rintro⟨i,e,q⟩;obtain⟨u,v,e1,q⟩:=kJ.mp q;have hi:=(aK.mp e).1;have hlen:u.length+v.length=s.length-i:=by rw[<-bw,<-e1,cM]
    refine⟨i+u.length,(uR _ _ _).mpr ⟨by lia,.inr ⟨i,by lia,e⟩⟩,?_⟩;rw[<-fS,e1,zz];exact q
  .have hl:(atomStep s a l).length=s.length+1:=by rw[FM ha,bH,Ji _ _ _ h]
   rw[AV s as _ hl,FM ha];constructor
   .rintro⟨j,e,q⟩
    match j,e,q with
    |0,e,q=>simp at e
    |j+1,e,q=>
     rw[qO]at e;obtain⟨c,e1,e2,e3⟩:=(Ci _ _ _ _).mp e;exact⟨j,e1,(mQ ha).mpr ⟨c,s.drop (j+1),jP.mpr ⟨e2,rfl⟩,e3,q⟩⟩
   .rintro⟨i,e,q⟩;obtain⟨c,v,e1,e2,q⟩:=(mQ ha).mp q;obtain⟨e3,e4⟩:=jP.mp e1;refine⟨i+1,?_,by rw[e4];exact q⟩;rw[qO];exact(Ci _ _ _ _).mpr ⟨c,e,e3,e2⟩
theorem LF{α:Type}(s:List α)(i:Nat):(J1::s.map fun _=>J2)[i]?=TL J1↔i=0:=by
 match i with
 |0=>simp
 |i+1=>simp
theorem Ip(as:List bc)(s:ag):made as s=J1↔eS as s:=by
 unfold made;rw[AV s as _ (by simp)];constructor
 .rintro⟨i,e,q⟩;have:=(LF s i).mp e;subst this;exact q
 .intro q;exact⟨0,rfl,q⟩
def cC:List Seg->bj->Prop
 | [],p=>p=[]
 |.deep::r,p=>match r with
  | []=>p≠[]
  |b::r=>∃u v,p=u++v/\cC (b::r) v
 |.one as::r,p=>∃s q,p=s::q/\eS as s/\cC r q
theorem si{p:bj}:cC [.deep] p↔p≠[]:=fz
theorem ib{b:Seg}{r:List Seg}{p:bj}:cC (.deep::b::r) p↔∃u v,p=u++v/\cC (b::r) v:=by
 conv=>lhs;unfold cC
theorem kL{as:List bc}{r:List Seg}{p:bj}:cC (.one as::r) p↔∃s q,p=s::q/\eS as s/\cC r q:=by
 conv=>lhs;unfold cC
theorem sj:∀{segs:List Seg},segs≠[]-> ¬cC segs []
 | [],h,_=>h rfl
 | [.deep],_,q=>q rfl
 |.deep::b::r,_,q=>by
  obtain⟨u,v,e,q⟩:=ib.mp q
  have:v=[]:=by
   cases u with
   |nil=>simpa using e.symm
   |cons a u=>simp at e
  subst this;exact sj (by simp) q
 |.one as::r,_,q=>by
  obtain⟨s,q',e,_⟩:=kL.mp q;cases e
theorem FH:∀(l:List Bool),anyBut l=J1↔∃i,i+1<l.length/\l[i]?=TL J1
 | []=>by simp[anyBut]
 | [x]=>by
  simp only[anyBut,bH,vX];constructor
  .intro h;cases h
  .rintro⟨i,h,_⟩;lia
 |x::y::r=>by
  rw[show anyBut (x::y::r)=(x||anyBut (y::r))from rfl,qF,FH (y::r)];constructor
  .rintro(h|⟨i,h,e⟩)
   .exact⟨0,by simp,by simp[h]⟩
   .exact⟨i+1,by simp only[bH]at h⊢;lia,by simpa using e⟩
  .rintro⟨i,h,e⟩
   match i,h,e with
   |0,h,e=>exact .inl (by simpa using e)
   |i+1,h,e=>exact .inr ⟨i,by simp only[bH]at h⊢;lia,by simpa using e⟩
theorem BB(p:bj):∀(segs:List Seg)(l:List Bool),l.length=p.length+1->(matchFrom p segs l=J1↔∃i,l[i]?=TL J1/\cC segs (p.drop i))
 | [],l,h=>by
  rw[matchFrom,HS h];constructor
  .intro e;exact⟨p.length,e,by show p.drop p.length=[];simp⟩
  .rintro⟨i,e,q⟩;have q:p.drop i=[]:=q;have hi:=(aK.mp e).1;have:p.length<=i:=by simpa using q
   have:i=p.length:=by lia
   rw[<-this];exact e
 | [.deep],l,h=>by
  rw[matchFrom,FH];constructor
  .rintro⟨i,hi,e⟩
   exact⟨i,e,fun q=>by
    have:p.length<=i:=by simpa using q
    lia⟩
  .rintro⟨i,e,q⟩;have q:p.drop i≠[]:=q;have: ¬p.length<=i:=fun z=>q (by simpa using z);exact⟨i,by lia,e⟩
 |.deep::b::r,l,h=>by
  rw[matchFrom,BB p (b::r) _ (by rw[BZ,h])]
  .constructor
   .rintro⟨j,e,q⟩;obtain⟨hj,z|⟨i,hi,z⟩⟩:=(uR _ _ _).mp e
    .cases z
    .refine⟨i,z,ib.mpr ⟨(p.drop i).take (j-i),p.drop j,?_,q⟩⟩;have:p.drop j=(p.drop i).drop (j-i):=by rw[fS];congr 1;lia
     rw[this,pk]
   .rintro⟨i,e,q⟩;obtain⟨u,v,e1,q⟩:=ib.mp q;have hi:=(aK.mp e).1;have hlen:u.length+v.length=p.length-i:=by rw[<-bw,<-e1,cM]
    refine⟨i+u.length,(uR _ _ _).mpr ⟨by lia,.inr ⟨i,by lia,e⟩⟩,?_⟩;rw[<-fS,e1,zz];exact q
  .intro z;cases z
 |.one as::r,l,h=>by
  rw[matchFrom,BB p r _ (by rw[bH,Jh _ _ _ h])];constructor
  .rintro⟨j,e,q⟩
   match j,e,q with
   |0,e,q=>simp at e
   |j+1,e,q=>
    rw[qO]at e;obtain⟨c,e1,e2,e3⟩:=(Cg _ _ _ _).mp e;exact⟨j,e1,kL.mpr ⟨c,p.drop (j+1),jP.mpr ⟨e2,rfl⟩,(Ip _ _).mp e3,q⟩⟩
  .rintro⟨i,e,q⟩;obtain⟨c,v,e1,e2,q⟩:=kL.mp q;obtain⟨e3,e4⟩:=jP.mp e1;refine⟨i+1,?_,by rw[e4];exact q⟩;rw[qO];exact(Cg _ _ _ _).mpr ⟨c,e,e3,(Ip _ _).mpr e2⟩
theorem BC(segs:List Seg)(p:bj):gR segs p=J1↔cC segs p:=by
 unfold gR;rw[BB p segs _ (by simp)];constructor
 .rintro⟨i,e,q⟩;have:=(LF p i).mp e;subst this;exact q
 .intro q;exact⟨0,rfl,q⟩
theorem eZ(c:UInt8):∀s:ag,aG c s≠[]
 | []=>by simp[aG]
 |x::s=>by
  unfold aG;by_cases h:x=c
  .rw[J4 h];simp
  .rw[J3 h];cases aG c s with
   |nil=>simp
   |cons y r=>simp
theorem oC(c:UInt8)(s:ag):aG c (c::s)=[]::aG c s:=by
 rw[aG,J4 rfl]
theorem lU{c x:UInt8}(h:x≠c){s y:ag}{r:List ag}(e:aG c s=y::r):aG c (x::s)=(x::y)::r:=by
 rw[aG,J3 h,e]
theorem kc{c:UInt8}:∀{s:ag},c∉s->aG c s=[s]
 | [],_=>rfl
 |x::s,h=>by
  have h1:x≠c:=fun e=>h (by simp[e]);exact lU h1 (kc fun z=>h (bX _ z))
theorem ng(c:UInt8):∀(u v:ag),aG c (u++c::v)=aG c u++aG c v
 | [],v=>by rw[nD,oC];rfl
 |x::u,v=>by
  by_cases h:x=c
  .subst h;rw[oZ,oC,oC,ng x u v];rfl
  .cases e:aG c u with
   |nil=>exact J5 e (eZ c u)
   |cons y r=>
    have e2:aG c (u++c::v)=y::(r++aG c v):=by rw[ng c u v,e];rfl
    rw[oZ,lU h e2,lU h e];rfl
theorem vq{c:UInt8}:∀{s:ag}{y:ag},y∈aG c s->c∉y
 | [],y,h=>by
  have:y=[]:=by simpa [aG]using h
  subst this;simp
 |x::s,y,h=>by
  by_cases hx:x=c
  .subst hx;rw[oC]at h;rcases bg.mp h with rfl|h
   .simp
   .exact vq h
  .cases e:aG c s with
   |nil=>exact J5 e (eZ c s)
   |cons z r=>
    rw[lU hx e]at h;rcases bg.mp h with rfl|h
    .intro q;rcases bg.mp q with q|q
     .exact hx q.symm
     .exact vq (s:=s) (by rw[e];exact dI) q
    .exact vq (s:=s) (by rw[e];exact bX _ h)
theorem kR{s:ag}{q:bj}(h:q≠[]):aD (s::q)=s++47::aD q:=by
 cases q with
 |nil=>exact J5 rfl h
 |cons t r=>rfl
theorem lX:∀s:ag,aD (aG 47 s)=s
 | []=>rfl
 |x::s=>by
  by_cases hx:x=47
  .subst hx;rw[oC,kR (eZ _ _),lX s];rfl
  .cases e:aG 47 s with
   |nil=>exact J5 e (eZ _ s)
   |cons y r=>
    have ih:=lX s;rw[e]at ih;rw[lU hx e];cases r with
    |nil=>rw[<-ih];rfl
    |cons z r=>
     rw[kR (by simp)]at ih⊢;rw[<-ih];rfl
theorem LA:∀{p:bj},p≠[]->(∀s∈p,(47:UInt8)∉s)->aG 47 (aD p)=p
 | [],h,_=>J5 rfl h
 | [s],_,h=>kc (h s (by simp))
 |s::t::r,_,h=>by
  rw[kR (by simp),ng,kc (h s (by simp)),LA (by simp) (fun x hx=>h x (bX _ hx))];rfl
def Good(s:ag):Prop:=s≠[]/\(∀c∈s,c≠0)/\∀c∈s,c≠47
theorem Hk{s:ag}(h:gC s=J1):Good s:=by
 unfold gC at h;simp only[bD,vK,zD,tj,decide_eq_false_iff_not]at h;obtain⟨h1,h2,h3,_⟩:=h;exact⟨h1,fun c hc e=>h2 (e▸hc),fun c hc e=>h3 (e▸hc)⟩
def ck(p:bj):Prop:=p≠[]/\∀s∈p,Good s
theorem ck.split{p:bj}(h:ck p):aG 47 (aD p)=p:=LA h.1 fun s hs z=>(h.2 s hs).2.2 47 z rfl
theorem ck.bytes:∀{p:bj},ck p->∀c∈aD p,c≠0
 | [],h,_,_=>J5 rfl h.1
 | [s],h,c,hc=>(h.2 s (by simp)).2.1 c hc
 |s::t::r,h,c,hc=>by
  rw[kR (by simp)]at hc;rcases cn.mp hc with z|z
  .exact(h.2 s (by simp)).2.1 c z
  .rcases bg.mp z with z|z
   .subst z;decide
   .exact ck.bytes (p:=t::r) ⟨by simp,fun x hx=>h.2 x (bX _ hx)⟩ c z
theorem ck.text_ne:∀{p:bj},ck p->aD p≠[]
 | [],h=>J5 rfl h.1
 | [s],h=>(h.2 s (by simp)).1
 |s::t::r,h=>by
  rw[kR (by simp)];have:=(h.2 s (by simp)).1;intro z;simp at z
theorem ck.cut{p:bj}(h:ck p){u v:ag}(e:aD p=u++47::v):p=aG 47 u++aG 47 v:=by
 rw[<-ng,<-e,h.split]
structure MC where
 stays:Nat
 moves:Nat
 opt:Bool
def bJ(n:Nat)(c:UInt8):Bool:=n.testBit c.toNat
def dJ:List MC->ag->Prop
 | [],x=>x=[]
 |c::cs,x=>(c.opt=J1/\dJ cs x)\/∃u b v,x=u++b::v/\(∀d∈u,bJ c.stays d=J1)/\bJ c.moves b=J1/\dJ cs v
theorem kK:∀{as bs:List MC}{x:ag},dJ (as++bs) x↔∃y z,x=y++z/\dJ as y/\dJ bs z
 | [],bs,x=>by
  constructor
  .intro h;exact⟨[],x,rfl,rfl,h⟩
  .rintro⟨y,z,e,h1,h2⟩;have h1:y=[]:=h1;subst h1;rw[e];exact h2
 |c::as,bs,x=>by
  show((c.opt=J1/\dJ (as++bs) x)\/∃u b v,x=u++b::v/\(∀d∈u,bJ c.stays d=J1)/\bJ c.moves b=J1/\dJ (as++bs) v)↔_;constructor
  .rintro(⟨h1,h⟩|⟨u,b,v,e,h1,h2,h⟩)
   .obtain⟨y,z,e,q1,q2⟩:=kK.mp h;exact⟨y,z,e,.inl ⟨h1,q1⟩,q2⟩
   .obtain⟨y,z,e',q1,q2⟩:=kK.mp h;exact⟨u++b::y,z,by rw[e,e'];simp,.inr ⟨u,b,y,rfl,h1,h2,q1⟩,q2⟩
  .rintro⟨y,z,e,(⟨h1,h⟩|⟨u,b,v,e',h1,h2,h⟩),q⟩
   .exact .inl ⟨h1,kK.mpr ⟨y,z,e,h,q⟩⟩
   .exact .inr ⟨u,b,v++z,by rw[e,e'];simp,h1,h2,kK.mpr ⟨v,z,rfl,h,q⟩⟩
theorem sg{c:MC}{x:ag}:dJ [c] x↔(c.opt=J1/\x=[])\/∃u b,x=u++[b]/\(∀d∈u,bJ c.stays d=J1)/\bJ c.moves b=true:=by
 constructor
 .rintro(⟨h1,h⟩|⟨u,b,v,e,h1,h2,h⟩)
  .exact .inl ⟨h1,h⟩
  .have h:v=[]:=h;subst h;exact .inr ⟨u,b,e,h1,h2⟩
 .rintro(⟨h1,h⟩|⟨u,b,e,h1,h2⟩)
  .exact .inl ⟨h1,h⟩
  .exact .inr ⟨u,b,[],e,h1,h2,rfl⟩
structure tF(cw aQ cb:Nat):Prop where
 path:∀c:UInt8,bJ cw c=J1↔c≠0
 part:∀c:UInt8,bJ aQ c=J1↔c≠0/\c≠47
 slash:∀c:UInt8,bJ cb c=J1↔c=47
def oN(aQ:Nat)(a:bc)(c:MC):Prop:=match a with
 |.star=>c=⟨aQ,aQ,J1⟩
 |a=>c.stays=0/\c.opt=J2/\∀d:UInt8,bJ c.moves d=J1↔(d≠0/\d≠47)/\a.takes d=J1
theorem AA{aQ:Nat}{a:bc}{c:MC}(h:a≠.star):oN aQ a c↔c.stays=0/\c.opt=J2/\∀d:UInt8,bJ c.moves d=J1↔(d≠0/\d≠47)/\a.takes d=true:=by
 cases a with
 |star=>exact J5 rfl h
 |any=>exact fz
 |byte c=>exact fz
 |cls n rs=>exact fz
inductive jC(aQ:Nat):List bc->List MC->Prop
 |nil:jC aQ [] []
 |cons {a:bc} {c:MC} {as:List bc} {cs:List MC}:oN aQ a c->jC aQ as cs->jC aQ (a::as) (c::cs)
inductive iG(cw aQ cb:Nat):List Seg->List MC->Prop
 |lastDeep:iG cw aQ cb [.deep] [⟨cw,cw,J2⟩]
 |lastOne {as:List bc} {cs:List MC}:jC aQ as cs->iG cw aQ cb [.one as] cs
 |deep {b:Seg} {r:List Seg} {cs:List MC}:iG cw aQ cb (b::r) cs->iG cw aQ cb (.deep::b::r) (⟨cw,cb,J1⟩::cs)
 |one {as:List bc} {b:Seg} {r:List Seg} {cs ds:List MC}:jC aQ as cs->iG cw aQ cb (b::r) ds->iG cw aQ cb (.one as::b::r) (cs++⟨0,cb,J2⟩::ds)
def pE(s:ag):Prop:=∀c∈s,c≠0/\c≠47
theorem FY(d:UInt8):bJ 0 d=false:=by simp[bJ]
theorem IM{u:ag}(h:∀d∈u,bJ 0 d=J1):u=[]:=by
 cases u with
 |nil=>rfl
 |cons d u=>
  have:=h d (by simp);rw[FY]at this;cases this
theorem xi{cw aQ cb:Nat}(M:tF cw aQ cb):∀{as:List bc}{cs:List MC},jC aQ as cs->∀s,dJ cs s↔pE s/\eS as s
 | [],_,.nil,s=>by
  constructor
  .intro h;have h:s=[]:=h;subst h;exact⟨fun c hc=>by simp at hc,rfl⟩
  .exact fun h=>h.2
 |a::as,_::cs,.cons ha hr,s=>by
  have ih:=xi M hr;by_cases e:a=.star
  .subst e;have ha:_=_:=ha;rw[ha,kJ];constructor
   .rintro(⟨_,h⟩|⟨u,b,v,rfl,h1,h2,h⟩)
    .obtain⟨p,q⟩:=(ih s).mp h;exact⟨p,[],s,rfl,q⟩
    .obtain⟨p,q⟩:=(ih v).mp h;refine⟨fun c hc=>?_,u++[b],v,by simp,q⟩;rcases cn.mp hc with z|z
     .exact(M.part c).mp (h1 c z)
     .rcases bg.mp z with z|z
      .subst z;exact(M.part _).mp h2
      .exact p c z
   .rintro⟨p,u,v,rfl,q⟩;have pv:pE v:=fun c hc=>p c (dA _ hc);rcases zA u with rfl|⟨u',b,rfl⟩
    .exact .inl ⟨rfl,(ih _).mpr ⟨pv,q⟩⟩
    .refine .inr ⟨u',b,v,by simp,fun d hd=>(M.part d).mpr (p d (by simp[hd])),(M.part b).mpr (p b (by simp)),(ih v).mpr ⟨pv,q⟩⟩
  .obtain⟨h1,h2,h3⟩:=(AA e).mp ha;rw[mQ e];constructor
   .rintro(⟨z,_⟩|⟨u,b,v,rfl,q1,q2,h⟩)
    .rw[h2]at z;cases z
    .rw[h1]at q1;have:=IM q1;subst this;obtain⟨p,q⟩:=(ih v).mp h;obtain⟨z1,z2⟩:=(h3 b).mp q2;refine⟨fun c hc=>?_,b,v,rfl,z2,q⟩;rcases bg.mp hc with z|z
     .subst z;exact z1
     .exact p c z
   .rintro⟨p,c,v,rfl,q1,q⟩;refine .inr ⟨[],c,v,rfl,fun d hd=>by simp at hd,(h3 c).mpr ⟨p c (by simp),q1⟩,(ih v).mpr ⟨fun d hd=>p d (bX _ hd),q⟩⟩
theorem Good.plain{s:ag}(h:Good s):pE s:=fun c hc=>⟨h.2.1 c hc,h.2.2 c hc⟩
theorem sD{s:ag}(h:pE s):(47:UInt8)∉s:=fun z=>(h 47 z).2 rfl
theorem xl{cw aQ cb:Nat}(M:tF cw aQ cb):∀{segs:List Seg}{cs:List MC},iG cw aQ cb segs cs->∀p,ck p->(dJ cs (aD p)↔cC segs p)
 |_,_,.lastDeep,p,hp=>by
  rw[si,sg];constructor
  .intro _;exact hp.1
  .intro _;rcases zA (aD p)with e|⟨u,b,e⟩
   .exact J5 e hp.text_ne
   .rw[e];have hb:∀c∈u++[b],c≠0:=fun c hc=>hp.bytes c (by rw[e];simpa using hc);exact .inr ⟨u,b,by simp,fun d hd=>(M.path d).mpr (hb d (by simp[hd])),(M.path b).mpr (hb b (by simp))⟩
 |_,_,.lastOne hA,p,hp=>by
  rw[kL,xi M hA];constructor
  .rintro⟨h1,h2⟩;have e:=hp.split;rw[kc (sD h1)]at e;exact⟨aD p,[],e.symm,h2,rfl⟩
  .rintro⟨s,q,rfl,h1,h2⟩;have h2:q=[]:=h2;subst h2;exact⟨(hp.2 s (by simp)).plain,h1⟩
 |.deep::b::r,_::cs,.deep h,p,hp=>by
  have ih:=xl M h;rw[ib];constructor
  .rintro(⟨_,h⟩|⟨u,c,v,e,h1,h2,h⟩)
   .exact⟨[],p,rfl,(ih p hp).mp h⟩
   .have:c=47:=(M.slash c).mp h2;subst this;have e2:=hp.cut e;have gv:ck (aG 47 v):=⟨eZ _ _,fun s hs=>hp.2 s (by rw[e2];exact dA _ hs)⟩;exact⟨aG 47 u,aG 47 v,e2,(ih _ gv).mp (by rw[lX];exact h)⟩
  .rintro⟨u,v,rfl,q⟩;by_cases hu:u=[]
   .subst hu;exact .inl ⟨rfl,(ih _ hp).mpr q⟩
   .have hv:v≠[]:=fun z=>sj (segs:=b::r) (by simp) (z▸q);have gv:ck v:=⟨hv,fun s hs=>hp.2 s (dA _ hs)⟩;have gu:ck u:=⟨hu,fun s hs=>hp.2 s (cW _ hs)⟩
    have e:aD (u++v)=aD u++47::aD v:=by
     have q1:aG 47 (aD u++47::aD v)=u++v:=by rw[ng,gu.split,gv.split]
     rw[<-q1,lX]
    refine .inr ⟨aD u,47,aD v,e,fun d hd=>(M.path d).mpr (gu.bytes d hd),(M.slash 47).mpr rfl,(ih v gv).mpr q⟩
 |.one as::b::r,_,.one (ds:=ds) hA h,p,hp=>by
  have ih:=xl M h;rw[kL,kK];constructor
  .rintro⟨y,z,e,h1,h2⟩;rcases h2 with⟨z1,_⟩|⟨u,c,v,e',h3,h4,h5⟩
   .cases z1
   .have:=IM h3;subst this;have:c=47:=(M.slash c).mp h4;subst this;obtain⟨p1,q1⟩:=(xi M hA y).mp h1;have e3:aD p=y++47::v:=by rw[e,e'];rfl
    have e2:=hp.cut e3;rw[kc (sD p1)]at e2;have gv:ck (aG 47 v):=⟨eZ _ _,fun s hs=>hp.2 s (by rw[e2];exact dA _ hs)⟩;exact⟨y,aG 47 v,e2,q1,(ih _ gv).mp (by rw[lX];exact h5)⟩
  .rintro⟨s,q,rfl,h1,h2⟩;have hq:q≠[]:=fun z=>sj (segs:=b::r) (by simp) (z▸h2);have gq:ck q:=⟨hq,fun x hx=>hp.2 x (bX _ hx)⟩;rw[kR hq];exact⟨s,47::aD q,rfl,(xi M hA s).mpr ⟨(hp.2 s (by simp)).plain,h1⟩,.inr ⟨[],47,aD q,rfl,fun d hd=>by simp at hd,(M.slash 47).mpr rfl,(ih q gq).mpr h2⟩⟩
def wJ(cs:List MC)(k:Nat)(x:ag):Prop:=k<=cs.length/\∃y u,x=y++u/\dJ (cs.take k) y/\(u=[]\/∃c,cs[k]?=TL c/\∀d∈u,bJ c.stays d=J1)
def State(cs:List MC)(x:ag)(st:Nat):Prop:=∀k,st.testBit k=J1↔wJ cs k x
theorem State.through{cs:List MC}{x:ag}{st:Nat}(h:State cs x st):st.testBit cs.length=J1↔dJ cs x:=by
 rw[h cs.length];constructor
 .rintro⟨_,y,u,e,h1,h2|⟨c,h2,_⟩⟩
  .rw[cv]at h1;rw[e,h2,cD];exact h1
  .rw[hU (aF _)]at h2;cases h2
 .intro h;exact⟨aF _,x,[],by simp,by rw[cv];exact h,.inl rfl⟩
def iw(cs:List MC)(f:MC->Bool)(n:Nat):Prop:=∀k,n.testBit k=J1↔∃c,cs[k]?=TL c/\f c=J1
def oR(opt f r:Nat):Prop:=∀k,r.testBit k=J1↔∃j,j<=k/\f.testBit j=J1/\∀i,j<=i->i<k->opt.testBit i=J1
theorem take_snoc{α:Type}{l:List α}{i:Nat}{x:α}(h:l[i]?=TL x):l.take (i+1)=l.take i++[x]:=by
 rw[List.take_add_one,h];rfl
theorem By{cs:List MC}{x:ag}{j:Nat}:∀{k:Nat},j<=k->k<=cs.length->(∀i,j<=i->i<k->∃c,cs[i]?=TL c/\c.opt=J1)->dJ (cs.take j) x->dJ (cs.take k) x
 |0,h1,h2,h3,h=>by
  have:j=0:=by lia
  subst this;exact h
 |k+1,h1,h2,h3,h=>by
  by_cases e:j=k+1
  .subst e;exact h
  .obtain⟨c,hc,ho⟩:=h3 k (by lia) (by lia);rw[take_snoc hc,kK];exact⟨x,[],by simp,By (by lia) (by lia) (fun i a b=>h3 i a (by lia)) h,.inl ⟨ho,rfl⟩⟩
theorem Iq{cs:List MC}{x:ag}{b:UInt8}:∀{k:Nat},k<=cs.length->dJ (cs.take k) (x++[b])->∃j,j<k/\wJ cs j x/\(∃c,cs[j]?=TL c/\bJ c.moves b=J1)/\∀i,j+1<=i->i<k->∃c,cs[i]?=TL c/\c.opt=J1
 |0,_,h=>by
  have h:x++[b]=[]:=h;simp at h
 |k+1,hk,h=>by
  obtain⟨c,hc⟩:∃c,cs[k]?=TL c:=⟨_,bO (by lia)⟩;rw[take_snoc hc,kK]at h;obtain⟨y,z,e,h1,h2⟩:=h;rcases sg.mp h2 with⟨ho,rfl⟩|⟨u,d,rfl,h3,h4⟩
  .rw[cD]at e;rw[<-e]at h1;obtain⟨j,hj,q1,q2,q3⟩:=Iq (by lia) h1;refine⟨j,by lia,q1,q2,fun i a b'=>?_⟩;by_cases ei:i=k
   .subst ei;exact⟨c,hc,ho⟩
   .exact q3 i a (by lia)
  .rw[<-dt]at e;obtain⟨e1,e2⟩:=EF e rfl;have:b=d:=by simpa using e2
   subst this;exact⟨k,by lia,⟨by lia,y,u,e1,h1,.inr ⟨c,hc,h3⟩⟩,⟨c,hc,h4⟩,fun i a b'=>by lia⟩
theorem Ir{cs:List MC}:∀{k:Nat},k<=cs.length->dJ (cs.take k) []->∀i,i<k->∃c,cs[i]?=TL c/\c.opt=J1
 |0,_,_,i,hi=>by lia
 |k+1,hk,h,i,hi=>by
  obtain⟨c,hc⟩:∃c,cs[k]?=TL c:=⟨_,bO (by lia)⟩;rw[take_snoc hc,kK]at h;obtain⟨y,z,e,h1,h2⟩:=h
  have ey:y=[]:=by
   cases y with
   |nil=>rfl
   |cons a y=>simp at e
  subst ey;have ez:z=[]:=by simpa using e.symm
  subst ez;rcases sg.mp h2 with⟨ho,_⟩|⟨u,d,e',_⟩
  .by_cases ei:i=k
   .subst ei;exact⟨c,hc,ho⟩
   .exact Ir (by lia) h1 i (by lia)
  .simp at e'
theorem XS{cs:List MC}{opt r:Nat}(ho:iw cs (·.opt) opt)(hr:oR opt 1 r):State cs [] r:=fun k=>by
 rw[hr k];constructor
 .rintro⟨j,hj,h1,h2⟩
  have:j=0:=by
   rw[Nat.testBit_one_eq_true_iff_self_eq_zero]at h1;exact h1
  subst this;have h3:∀i,0<=i->i<k->∃c,cs[i]?=TL c/\c.opt=true:=fun i a b=>(ho i).mp (h2 i a b)
  have hk:k<=cs.length:=by
   cases k with
   |zero=>lia
   |succ k=>
    obtain⟨c,hc,_⟩:=h3 k (by lia) (by lia);exact(aK.mp hc).1
  exact⟨hk,[],[],rfl,By (bI _) hk h3 (show dJ [] []from rfl),.inl rfl⟩
 .rintro⟨hk,y,u,e,h1,_⟩
  have ey:y=[]:=by
   cases y with
   |nil=>rfl
   |cons a y=>simp at e
  subst ey;exact⟨0,bI _,by simp,fun i _ hi=>(ho i).mpr (Ir hk h1 i hi)⟩
theorem DY(n k:Nat):(n<<<1).testBit k=J1↔∃j,k=j+1/\n.testBit j=true:=by
 rw[Nat.testBit_shiftLeft];cases k with
 |zero=>simp
 |succ k=>simp
theorem XT{cs:List MC}{x:ag}{b:UInt8}{opt st sm mm e:Nat}(ho:iw cs (·.opt) opt)(hs:iw cs (fun c=>bJ c.stays b) sm)(hm:iw cs (fun c=>bJ c.moves b) mm)
  (h:State cs x st)(he:oR opt ((st&&&mm)<<<1) e):State cs (x++[b]) ((st&&&sm)|||e):=fun k=>by
 rw[zR,qF,my,bD,h k,hs k,he k];constructor
 .rintro(⟨⟨hk,y,u,ex,h1,h2⟩,c,hc,hb⟩|⟨j,hj,h1,h2⟩)
  .refine⟨hk,y,u++[b],by rw[ex];simp,h1,.inr ⟨c,hc,fun d hd=>?_⟩⟩;rcases cn.mp hd with z|z
   .rcases h2 with rfl|⟨c',hc',q⟩
    .simp at z
    .rw[hc]at hc';cases hc';exact q d z
   .have:d=b:=by simpa using z
    subst this;exact hb
  .obtain⟨j',rfl,h3⟩:=(DY _ _).mp h1;rw[my,bD,h j',hm j']at h3;obtain⟨⟨hk',y,u,ex,q1,q2⟩,c,hc,hb⟩:=h3;have hj':j'<cs.length:=(aK.mp hc).1;have h4:∀i,j'+1<=i->i<k->∃c,cs[i]?=TL c/\c.opt=true:=fun i a b=>(ho i).mp (h2 i a b)
   have hk:k<=cs.length:=by
    cases k with
    |zero=>lia
    |succ k=>
     by_cases e:j'=k
     .lia
     .obtain⟨c,hc,_⟩:=h4 k (by lia) (by lia);exact(aK.mp hc).1
   have m1:dJ (cs.take (j'+1)) (x++[b]):=by
    rw[take_snoc hc,kK];refine⟨y,u++[b],by rw[ex];simp,q1,sg.mpr (.inr ⟨u,b,rfl,?_,hb⟩)⟩;rcases q2 with rfl|⟨c',hc',q⟩
    .intro d hd;simp at hd
    .rw[hc]at hc';cases hc';exact q
   exact⟨hk,x++[b],[],by simp,By hj hk h4 m1,.inl rfl⟩
 .rintro⟨hk,y,u,ex,h1,h2⟩;rcases zA u with rfl|⟨u',d,rfl⟩
  .rw[cD]at ex;rw[<-ex]at h1;obtain⟨j,hj,q1,⟨c,hc,hb⟩,q3⟩:=Iq hk h1;refine .inr ⟨j+1,by lia,(DY _ _).mpr ⟨j,rfl,?_⟩,fun i a b'=>(ho i).mpr (q3 i a b')⟩;rw[my,bD,h j,hm j];exact⟨q1,c,hc,hb⟩
  .rw[MZ,<-dt]at ex;obtain⟨e1,e2⟩:=EF ex rfl;have:b=d:=by simpa using e2
   subst this;rcases h2 with z|⟨c,hc,q⟩
   .simp at z
   .refine .inl ⟨⟨hk,y,u',e1,h1,.inr ⟨c,hc,fun d hd=>q d (by simp[hd])⟩⟩,c,hc,q b (by simp)⟩
theorem RD{x:ag}:∀{cs:List MC}{z:ag},dJ cs (x++z)->∃k,wJ cs k x:=fun{cs z} h=>by
 suffices q:∀(k:Nat),k<=cs.length->∀z,dJ (cs.take k) (x++z)->∃k,wJ cs k x from q cs.length (aF _) z (by rw[cv];exact h);intro k
 induction k with
 |zero=>
  intro _ z h;have h:x++z=[]:=h
  have hx:x=[]:=by
   cases x with
   |nil=>rfl
   |cons a x=>simp at h
  subst hx;exact⟨0,bI _,[],[],rfl,rfl,.inl rfl⟩
 |succ k ih=>
  intro hk z h;obtain⟨c,hc⟩:∃c,cs[k]?=TL c:=⟨_,bO (by lia)⟩;rw[take_snoc hc,kK]at h;obtain⟨y,w,e,h1,h2⟩:=h;rcases List.append_eq_append_iff.mp e with⟨a,e1,e2⟩|⟨a,e1,e2⟩
  .rw[e1]at h1;exact ih (by lia) a h1
  .
   rcases sg.mp h2 with⟨ho,rfl⟩|⟨u,d,rfl,h3,h4⟩
   .have ea:a=[]:=by
     cases a with
     |nil=>rfl
     |cons b a=>simp at e2
    subst ea;rw[cD]at e1;exact ih (by lia) [] (by rw[cD,e1];exact h1)
   .rcases zA z with rfl|⟨z',b,rfl⟩
    .rw[cD]at e2;subst e2
     have m:dJ (cs.take (k+1)) x:=by
      rw[take_snoc hc,kK];exact⟨y,u++[d],e1,h1,sg.mpr (.inr ⟨u,d,rfl,h3,h4⟩)⟩
     exact⟨k+1,hk,x,[],by simp,m,.inl rfl⟩
    .rw[MZ,<-dt]at e2;obtain⟨e3,_⟩:=EF e2 rfl;exact⟨k,by lia,y,a,e1,h1,.inr ⟨c,hc,fun d' hd'=>h3 d' (by rw[e3];exact cW _ hd')⟩⟩
theorem XU{cs:List MC}{x:ag}(h:State cs x 0)(z:ag): ¬dJ cs (x++z):=fun q=>by
 obtain⟨k,hk⟩:=RD q;have:=(h k).mpr hk;rw[EW]at this;cases this
noncomputable def gP(opt f:Nat):Nat->Nat
 |0=>f
 |t+1=>(gP opt f t&&&opt)<<<1
noncomputable def vd(opt f:Nat):Nat->Nat
 |0=>f
 |t+1=>vd opt f t|||gP opt f (t+1)
theorem ur(opt f:Nat):∀(t k:Nat),(gP opt f t).testBit k=J1↔∃j,k=j+t/\f.testBit j=J1/\∀i,j<=i->i<k->opt.testBit i=J1
 |0,k=>by
  constructor
  .intro h;exact⟨k,rfl,h,fun i a b=>by lia⟩
  .rintro⟨j,rfl,h,_⟩;exact h
 |t+1,k=>by
  rw[gP,DY];constructor
  .rintro⟨k',rfl,h⟩;rw[my,bD,ur opt f t k']at h;obtain⟨⟨j,rfl,h1,h2⟩,h3⟩:=h;refine⟨j,by lia,h1,fun i a b=>?_⟩;by_cases e:i=j+t
   .rw[e];exact h3
   .exact h2 i a (by lia)
  .rintro⟨j,rfl,h1,h2⟩;refine⟨j+t,by lia,?_⟩;rw[my,bD,ur opt f t];exact⟨⟨j,rfl,h1,fun i a b=>h2 i a (by lia)⟩,h2 _ (by lia) (by lia)⟩
theorem JK(opt f:Nat):∀(t k:Nat),(vd opt f t).testBit k=J1↔∃s,s<=t/\(gP opt f s).testBit k=J1
 |0,k=>by
  constructor
  .intro h;exact⟨0,aF _,h⟩
  .rintro⟨s,hs,h⟩;have:s=0:=by lia
   subst this;exact h
 |t+1,k=>by
  rw[vd,zR,qF,JK opt f t k];constructor
  .rintro(⟨s,hs,h⟩|h)
   .exact⟨s,by lia,h⟩
   .exact⟨t+1,aF _,h⟩
  .rintro⟨s,hs,h⟩;by_cases e:s=t+1
   .subst e;exact .inr h
   .exact .inl ⟨s,by lia,h⟩
theorem GZ{opt f t:Nat}(h:gP opt f t&&&opt=0):∀d,gP opt f (t+(d+1))=0
 |0=>by
  show(gP opt f t&&&opt)<<<1=0;rw[h];rfl
 |d+1=>by
  show(gP opt f (t+(d+1))&&&opt)<<<1=0;rw[GZ h d];simp
theorem Wb{opt f t:Nat}(h:gP opt f t&&&opt=0):oR opt f (vd opt f t):=fun k=>by
 rw[JK];constructor
 .rintro⟨s,_,q⟩;obtain⟨j,rfl,h1,h2⟩:=(ur _ _ _ _).mp q;exact⟨j,by lia,h1,h2⟩
 .rintro⟨j,hj,h1,h2⟩;have q:(gP opt f (k-j)).testBit k=true:=(ur _ _ _ _).mpr ⟨j,by lia,h1,h2⟩;by_cases e:k-j<=t
  .exact⟨_,e,q⟩
  .have z:=GZ h (k-j-t-1);rw[show t+(k-j-t-1+1)=k-j by lia]at z;rw[z,EW]at q;cases q
theorem PV{opt f t n:Nat}(hn:opt<2^n)(h:gP opt f t&&&opt≠0):t<n:=by
 obtain⟨k,hk⟩:=Nt h;rw[my,bD]at hk;obtain⟨j,rfl,_,_⟩:=(ur _ _ _ _).mp hk.1;by_cases e:t<n
 .exact e
 .have:opt.testBit (j+t)=false:=wo (cR hn (kx (by lia) (by lia)));rw[this]at hk;exact J5 hk.2 (by simp)
theorem GQ{opt f r n:Nat}(ho:opt<2^n)(hf:f<2^(n+1))(h:oR opt f r):r<2^(n+1):=by
 apply zQ;intro i hi;cases e:r.testBit i with
 |false=>rfl
 |true=>
  obtain⟨j,hj,h1,h2⟩:=(h i).mp e;by_cases z:j=i
  .subst z;rw[wo (cR hf (kx (by lia) hi))]at h1;cases h1
  .have h3:=h2 (i-1) (by lia) (by lia);rw[wo (cR ho (kx (by lia) (by lia)))]at h3;cases h3
theorem XR{cs:List MC}{x:ag}{st:Nat}(h:State cs x st):st<2^(cs.length+1):=by
 apply zQ;intro i hi;cases e:st.testBit i with
 |false=>rfl
 |true=>
  have:=((h i).mp e).1;lia
noncomputable def cG:Nat->ag->List Nat
 |_,[]=> []
 |n,c::s=>if c=47 then n::cG (n+1) s else cG (n+1) s
def gM(x:ag):List Nat:=cG 0 x++[x.length]
theorem vk:∀(n:Nat)(u v:ag),cG n (u++v)=cG n u++cG (n+u.length) v
 |n,[],v=>by simp[cG]
 |n,c::u,v=>by
  rw[oZ,cG,cG,vk (n+1) u v];have e:n+1+u.length=n+(c::u).length:=by simp only[bH];lia
  rw[e];by_cases h:c=47
  .rw[J4 h,J4 h];rfl
  .rw[J3 h,J3 h]
theorem Dv:∀(n:Nat){s:ag},(47:UInt8)∉s->cG n s=[]
 |_,[],_=>rfl
 |n,c::s,h=>by
  rw[cG,J3 (fun e=>h (by simp[e])),Dv (n+1) (fun z=>h (bX _ z))]
theorem yy:∀{n:Nat}{s:ag}{e:Nat},e∈cG n s↔∃i,e=n+i/\s[i]?=TL 47
 |n,[],e=>by simp[cG]
 |n,c::s,e=>by
  rw[cG];by_cases h:c=47
  .rw[J4 h,bg,yy];constructor
   .rintro(rfl|⟨i,rfl,q⟩)
    .exact⟨0,rfl,by simp[h]⟩
    .exact⟨i+1,by lia,by simpa using q⟩
   .rintro⟨i,rfl,q⟩
    match i,q with
    |0,q=>exact .inl rfl
    |i+1,q=>exact .inr ⟨i,by lia,by simpa using q⟩
  .rw[J3 h,yy];constructor
   .rintro⟨i,rfl,q⟩;exact⟨i+1,by lia,by simpa using q⟩
   .rintro⟨i,rfl,q⟩
    match i,q with
    |0,q=>exact J5 (by simpa using q) h
    |i+1,q=>exact⟨i,by lia,by simpa using q⟩
def cB(p:bj)(k:Nat):Nat:=(aD (p.take k)).length
theorem yJ:∀{p:bj}{k:Nat},0<k->k<p.length->aD p=aD (p.take k)++47::aD (p.drop k)
 | [],k,_,h=>by simp at h
 |s::p,0,h,_=>by lia
 |s::p,1,_,h=>by
  have hp:p≠[]:=by intro z;subst z;simp at h
  rw[kR hp];rfl
 |s::p,k+2,_,h=>by
  have hp:p≠[]:=by intro z;subst z;simp at h
  have hp2:p.take (k+1)≠[]:=by
   intro z;have:(p.take (k+1)).length=0:=by rw[z];rfl
   rw[cQ]at this;simp only[bH]at h;lia
  rw[kR hp,show(s::p).take (k+2)=s::p.take (k+1)from rfl,show(s::p).drop (k+2)=p.drop (k+1)from rfl,kR hp2,yJ (p:=p) (k:=k+1) (by lia) (by simp only[bH]at h;lia)];simp
theorem ui(p:bj):cB p p.length=(aD p).length:=by rw[cB,cv]
theorem DW{p:bj}{k:Nat}(h0:0<k)(hk:k<=p.length):(aD p).take (cB p k)=aD (p.take k):=by
 by_cases e:k=p.length
 .subst e;rw[ui,cv,cv]
 .rw[yJ h0 (by lia),cB,zK]
theorem xq{p:bj}{j k:Nat}(h0:0<j)(h:j<k)(hk:k<=p.length):cB p j<cB p k:=by
 have e1:p.take j=(p.take k).take j:=by rw[ES];congr 1;lia
 have hl:(p.take k).length=k:=by rw[cQ];lia
 unfold cB;rw[e1,yJ (p:=p.take k) h0 (by lia)];simp
theorem GO{p:bj}{j k:Nat}(h1:0<j)(h2:j<=p.length)(h3:0<k)(h4:k<=p.length)(e:cB p j=cB p k):j=k:=by
 rcases Nat.lt_trichotomy j k with h|h|h
 .have:=xq h1 h h4;lia
 .exact h
 .have:=xq h3 h h2;lia
theorem AM:∀{p:bj},p≠[]->(∀s∈p,(47:UInt8)∉s)->gM (aD p)=(er p.length).map fun k=>cB p (k+1)
 | [],h,_=>J5 rfl h
 | [s],_,h=>by
  show cG 0 s++[s.length]=_;rw[Dv 0 (h s (by simp))];rfl
 |s::t::r,_,h=>by
  have ih:=AM (p:=t::r) (by simp) (fun x hx=>h x (bX _ hx));unfold gM at ih⊢
  have shift:∀(m n:Nat)(z:ag),cG (n+m) z=(cG n z).map (·+m):=fun m n z=>by
   induction z generalizing n with
   |nil=>rfl
   |cons c z ihz=>
    rw[cG,cG];have:=ihz (n+1);rw[show n+1+m=n+m+1 by lia]at this;by_cases e:c=47
    .rw[J4 e,J4 e,this];rfl
    .rw[J3 e,J3 e,this]
  rw[kR (by simp),vk,Dv 0 (h s (by simp)),nD,cG,J4 rfl]
  have e1:cG (0+s.length+1) (aD (t::r))=(cG 0 (aD (t::r))).map (·+(s.length+1)):=by
   rw[<-shift];congr 1
  have e2:(s++47::aD (t::r)).length=(aD (t::r)).length+(s.length+1):=by simp only[bw,bH];lia
  rw[e1,e2];have e3:(cG 0 (aD (t::r))).map (·+(s.length+1))++[(aD (t::r)).length+(s.length+1)]=(cG 0 (aD (t::r))++[(aD (t::r)).length]).map (·+(s.length+1)):=by simp
  rw[oZ,e3,ih,gH];rw[show(s::t::r).length=(t::r).length+1 from rfl,EO,cV,gH]
  congr 1
  .show 0+s.length=(aD [s]).length;show 0+s.length=s.length;lia
  .refine zE fun k hk=>?_;have hk:k<(t::r).length:=by simpa using hk
   show(aD ((t::r).take (k+1))).length+(s.length+1)=(aD (s::(t::r).take (k+1))).length;have:(t::r).take (k+1)≠[]:=by simp
   rw[kR this,bw,bH];lia
def nY(x:ag):Prop:=ck (aG 47 x)
noncomputable def ic(segs:List Seg)(x:ag):List Nat:=(gM x).filter fun e=>gR segs (aG 47 (x.take e))
theorem ck.take{p:bj}{k:Nat}(h:ck p)(h0:0<k):ck (p.take k):=⟨by
 intro z;have:(p.take k).length=0:=by rw[z];rfl
 rw[cQ]at this;have:p.length=0:=by lia
 exact h.1 (nA.mp this),fun s hs=>h.2 s (List.mem_of_mem_take hs)⟩
theorem ck.drop{p:bj}{k:Nat}(h:ck p)(h0:k<p.length):ck (p.drop k):=⟨by
 intro z;have:(p.drop k).length=0:=by rw[z];rfl
 rw[cM]at this;lia,fun s hs=>h.2 s (List.mem_of_mem_drop hs)⟩
theorem IC{p:bj}(h:ck p){e:Nat}:e∈gM (aD p)↔∃k,0<k/\k<=p.length/\e=cB p k:=by
 rw[AM h.1 fun s hs z=>(h.2 s hs).2.2 47 z rfl,bS];constructor
 .rintro⟨k,hk,rfl⟩;have hk:k<p.length:=by simpa using hk
  exact⟨k+1,by lia,by lia,rfl⟩
 .rintro⟨k,h0,hk,rfl⟩;exact⟨k-1,by simp;lia,by rw[show k-1+1=k by lia]⟩
theorem DG{p:bj}(h:ck p){k:Nat}(h0:0<k)(hk:k<=p.length):aG 47 ((aD p).take (cB p k))=p.take k:=by
 rw[DW h0 hk,(h.take h0).split]
theorem Bx{cw aQ cb:Nat}(M:tF cw aQ cb){segs:List Seg}{cs:List MC}(hc:iG cw aQ cb segs cs){x:ag}(hx:nY x){e:Nat}(he:e∈gM x):
  dJ cs (x.take e)↔gR segs (aG 47 (x.take e))=true:=by
 have ex:aD (aG 47 x)=x:=lX x;rw[<-ex]at he;obtain⟨k,h0,hk,rfl⟩:=(IC hx).mp he;have q:=DW h0 hk;rw[ex]at q;have s:=DG hx h0 hk;rw[ex]at s;rw[s,BC,q];exact xl M hc _ (hx.take h0)
theorem ID{segs:List Seg}{p:bj}(h:ck p){e:Nat}:e∈ic segs (aD p)↔∃k,0<k/\k<=p.length/\e=cB p k/\gR segs (p.take k)=true:=by
 rw[ic,qR,IC h];constructor
 .rintro⟨⟨k,h0,hk,rfl⟩,q⟩;rw[DG h h0 hk]at q;exact⟨k,h0,hk,rfl,q⟩
 .rintro⟨k,h0,hk,rfl,q⟩;exact⟨⟨k,h0,hk,rfl⟩,by rw[DG h h0 hk];exact q⟩
def fM(segs:List Seg)(x:ag)(i:Nat):List Nat:=(cG 0 (x.take i)).filter fun e=>gR segs (aG 47 (x.take e))
theorem AW{segs:List Seg}{x:ag}{i:Nat}{c:UInt8}(h:x[i]?=TL c):
  fM segs x (i+1)=fM segs x i++if c=47/\gR segs (aG 47 (x.take i))=J1 then [i]else []:=by
 unfold fM;rw[take_snoc h,vk,qN];have hi:i<x.length:=(aK.mp h).1
 congr 1
 rw[show 0+(x.take i).length=i by rw[cQ];lia,cG];by_cases e:c=47
 .rw[J4 e];show([i]:List Nat).filter _=_;by_cases q:gR segs (aG 47 (x.take i))=J1
  .rw[J4 ⟨e,q⟩,kZ,J4 q];rfl
  .rw[J3 (fun z=>q z.2),kZ,J3 q];rfl
 .rw[J3 e,J3 (fun z=>e z.1)];rfl
theorem Iy{segs:List Seg}{x:ag}:ic segs x=fM segs x x.length++if gR segs (aG 47 x)=J1 then [x.length]else []:=by
 unfold ic gM fM;rw[qN,cv]
 congr 1
 rw[kZ];rw[cv];rfl
theorem RJ{cw aQ cb:Nat}(M:tF cw aQ cb){segs:List Seg}{cs:List MC}(hc:iG cw aQ cb segs cs){x:ag}(hx:nY x){i:Nat}(hi:i<=x.length)(hs:State cs (x.take i) 0):
  ic segs x=fM segs x i:=by
 unfold ic gM fM
 have hx2:cG 0 x=cG 0 (x.take i)++cG i (x.drop i):=by
  conv=>lhs;rw[<-pk i x]
  rw[vk,show 0+(x.take i).length=i by rw[cQ];lia]
 rw[hx2,dt,qN]
 have J0:∀e,e∈gM x->i<=e->gR segs (aG 47 (x.take e))≠true:=fun e he hie q=>by
  have m:=(Bx M hc hx he).mpr q;refine XU hs ((x.take e).drop i) ?_;have:x.take i=(x.take e).take i:=by rw[ES];congr 1;lia
  rw[this,pk];exact m
 have e2:(cG i (x.drop i)++[x.length]).filter (fun e=>gR segs (aG 47 (x.take e)))=[]:=by
  rw[List.filter_eq_nil_iff];intro e he;rcases cn.mp he with z|z
  .obtain⟨j,rfl,_⟩:=yy.mp z;exact J0 _ (by unfold gM;rw[hx2];exact cW _ (dA _ z)) (by lia)
  .have:e=x.length:=by simpa using z
   subst this;exact J0 _ (by unfold gM;simp) hi
 rw[e2,cD]
def gj(a b:Nat×Nat×Nat):Prop:=a.1<b.1\/(a.1=b.1/\(a.2.1<b.2.1\/(a.2.1=b.2.1/\a.2.2<b.2.2)))
theorem Ry{a b:Nat×Nat×Nat}(h1: ¬gj a b)(h2: ¬gj b a):a=b:=by
 obtain⟨a1,a2,a3⟩:=a;obtain⟨b1,b2,b3⟩:=b;unfold gj at h1 h2;simp only at h1 h2;have e1:a1=b1:=by lia
 have e2:a2=b2:=by lia
 have e3:a3=b3:=by lia
 rw[e1,e2,e3]
theorem Io{a b c:Nat×Nat×Nat}(h1: ¬gj a b)(h2: ¬gj b c): ¬gj a c:=by
 obtain⟨a1,a2,a3⟩:=a;obtain⟨b1,b2,b3⟩:=b;obtain⟨c1,c2,c3⟩:=c;intro h;have x:b1<=a1:=we fun z=>h1 (.inl z);have y:c1<=b1:=we fun z=>h2 (.inl z);rcases h with h|⟨rfl,h⟩
 .exact gI _ (cR h (dM y x))
 .obtain rfl:=Nat.le_antisymm x y;have x:b2<=a2:=we fun z=>h1 (.inr ⟨rfl,.inl z⟩);have y:c2<=b2:=we fun z=>h2 (.inr ⟨rfl,.inl z⟩);rcases h with h|⟨rfl,h⟩
  .exact gI _ (cR h (dM y x))
  .obtain rfl:=Nat.le_antisymm x y;exact h2 (.inr ⟨rfl,.inr ⟨rfl,tL (we fun z=>h1 (.inr ⟨rfl,.inr ⟨rfl,z⟩⟩)) h⟩⟩)
theorem Bw{a b:Nat×Nat×Nat}(h1:gj a b): ¬gj b a:=by
 obtain⟨a1,a2,a3⟩:=a;obtain⟨b1,b2,b3⟩:=b;unfold gj at*;simp only at*;lia
theorem Qb(a b:Nat×Nat×Nat):(greater a b=b/\gj a b)\/(greater a b=a/\ ¬gj a b):=by
 unfold greater;by_cases h:a.1<b.1\/(a.1=b.1/\(a.2.1<b.2.1\/(a.2.1=b.2.1/\a.2.2<b.2.2)))
 .rw[J4 h];exact .inl ⟨rfl,h⟩
 .rw[J3 h];exact .inr ⟨rfl,h⟩
theorem GX:∀(l:List (Nat×Nat×Nat))(x:Nat×Nat×Nat),l.foldl greater x∈x::l/\∀y∈x::l,¬gj (l.foldl greater x) y
 | [],x=>⟨by simp,fun y hy=>by
   have:y=x:=by simpa using hy
   subst this;intro z;exact Bw z z⟩
 |b::l,x=>by
  obtain⟨h1,h2⟩:=GX l (greater x b);rw[EJ];rcases Qb x b with⟨e,q⟩|⟨e,q⟩
  .rw[e]at h1 h2⊢;refine⟨bX _ h1,fun y hy=>?_⟩;rcases bg.mp hy with rfl|hy
   .exact Io (h2 b (by simp)) (Bw q)
   .exact h2 y hy
  .rw[e]at h1 h2⊢;refine⟨?_,fun y hy=>?_⟩
   .rcases bg.mp h1 with z|z
    .rw[z];simp
    .exact bX _ (bX _ z)
   .rcases bg.mp hy with rfl|hy
    .exact h2 _ (by simp)
    .rcases bg.mp hy with rfl|hy
     .exact Io (h2 x (by simp)) q
     .exact h2 y (bX _ hy)
def yp(s:ag):Option cZ:=(dG s).bind fun x=>x
theorem BE(l:bE)(p:bj)(isDir:Bool):∀(lines:List ag)(n m:Nat),m∈fitting l p isDir n lines↔∃j s y,m=n+j/\lines[j]?=TL s/\yp s=TL y/\kN y l.dir p isDir=J1
 | [],n,m=>by simp[fitting]
 |s::r,n,m=>by
  rw[fitting,cn,BE l p isDir r (n+1) m];constructor
  .rintro(h|⟨j,s',y,rfl,h1,h2,h3⟩)
   .cases e:(dG s).bind fun(x:Option cZ)=>x with
    |none=>rw[e]at h;simp at h
    |some y=>
     rw[e]at h;by_cases q:kN y l.dir p isDir=J1
     .simp only[J4 q]at h;exact⟨0,s,y,by simpa using h,rfl,e,q⟩
     .simp only[J3 q]at h;simp at h
   .exact⟨j+1,s',y,by lia,by simpa using h1,h2,h3⟩
  .rintro⟨j,s',y,rfl,h1,h2,h3⟩
   match j,h1 with
   |0,h1=>
    have:s=s':=by simpa using h1
    subst this;have h2:(dG s).bind (fun(x:Option cZ)=>x)=TL y:=h2;rw[h2];simp only[J4 h3];exact .inl (by simp)
   |j+1,h1=>exact .inr ⟨j,s',y,by lia,by simpa using h1,h2,h3⟩
theorem Iz(p:bj)(isDir:Bool):∀(ls:List bE)(i:Nat)(x:Nat×Nat×Nat),x∈pN p isDir i ls↔∃j l,ls[j]?=TL l/\x.1=l.dir.length/\x.2.1=i+j/\x.2.2∈fitting l p isDir 1 (linesOf l.text)
 | [],i,x=>by simp[pN]
 |l::r,i,x=>by
  rw[pN,cn,Iz p isDir r (i+1) x,bS];constructor
  .rintro(⟨n,hn,rfl⟩|⟨j,l',h1,h2,h3,h4⟩)
   .exact⟨0,l,rfl,rfl,rfl,hn⟩
   .exact⟨j+1,l',by simpa using h1,h2,by lia,h4⟩
  .rintro⟨j,l',h1,h2,h3,h4⟩
   match j,h1,h3 with
   |0,h1,h3=>
    have:l=l':=by simpa using h1
    subst this;exact .inl ⟨x.2.2,h4,by rw[<-h2];rw[show i=x.2.1 from h3.symm]⟩
   |j+1,h1,h3=>exact .inr ⟨j,l',by simpa using h1,h2,by lia,h4⟩
def kC(ls:List bE)(i n:Nat)(l:bE)(r:cZ):Prop:=ls[i]?=TL l/\∃s,1<=n/\(linesOf l.text)[n-1]?=TL s/\yp s=TL r
theorem kC.inj{ls:List bE}{i n:Nat}{l l':bE}{r r':cZ}(h:kC ls i n l r)(h':kC ls i n l' r'):l=l'/\r=r':=by
 obtain⟨e,s,_,e1,e2⟩:=h;obtain⟨e',s',_,e1',e2'⟩:=h';rw[e]at e';cases e';rw[e1]at e1';cases e1';rw[e2]at e2';cases e2';exact⟨rfl,rfl⟩
theorem RQ{ls:List bE}{i n:Nat}{l:bE}{r:cZ}(h:kC ls i n l r):negAt ls i n=r.neg:=by
 obtain⟨e,s,h1,e1,e2⟩:=h;unfold negAt ruleAt;rw[e];simp only[e1];rw[J3 (by lia),show(dG s).bind id=TL r from e2]
def jb(ls:List bE)(q:bj)(isDir:Bool)(i n:Nat):Prop:=∃l r,kC ls i n l r/\kN r l.dir q isDir=J1
theorem BD{ls:List bE}{q:bj}{isDir:Bool}{x:Nat×Nat×Nat}:x∈pN q isDir 0 ls↔jb ls q isDir x.2.1 x.2.2/\∃l,ls[x.2.1]?=TL l/\x.1=l.dir.length:=by
 rw[Iz];constructor
 .rintro⟨j,l,h1,h2,h3,h4⟩;rw[qX]at h3;obtain⟨m,s,y,e,e1,e2,e3⟩:=(BE _ _ _ _ _ _).mp h4;rw[h3];exact⟨⟨l,y,⟨h1,s,by lia,by rw[e,ET];exact e1,e2⟩,e3⟩,l,h1,h2⟩
 .rintro⟨⟨l,r,⟨h1,s,h2,h3,h4⟩,h5⟩,l',h6,h7⟩;rw[h1]at h6;cases h6;exact⟨x.2.1,l,h1,h7,by lia,(BE _ _ _ _ _ _).mpr ⟨x.2.2-1,s,r,by lia,h3,h4,h5⟩⟩
noncomputable def hY(ls:List bE)(i:Nat):Nat:=match ls[i]? with
 |some l=>l.dir.length
 |none=>0
theorem Pa{ls:List bE}{q:bj}{isDir:Bool}(h:∀i n,¬jb ls q isDir i n):fL ls q isDir=none:=by
 unfold fL;cases e:pN q isDir 0 ls with
 |nil=>rfl
 |cons x r=>exact J5 (BD.mp (by rw[e];exact dI)).1 (h _ _)
theorem Pb{ls:List bE}{q:bj}{isDir:Bool}{i n:Nat}(h:jb ls q isDir i n)(hm:∀i' n',jb ls q isDir i' n'-> ¬gj (hY ls i,i,n) (hY ls i',i',n')):fL ls q isDir=TL (i,n):=by
 have key:∀j m,jb ls q isDir j m->(hY ls j,j,m)∈pN q isDir 0 ls:=fun j m hf=>by
  obtain⟨l,r,⟨e,z⟩,f⟩:=id hf;exact BD.mpr ⟨hf,l,e,by show hY ls j=_;unfold hY;rw[e]⟩
 have back:∀x,x∈pN q isDir 0 ls->jb ls q isDir x.2.1 x.2.2/\x=(hY ls x.2.1,x.2.1,x.2.2):=fun x hx=>by
  obtain⟨hf,l,e,e1⟩:=BD.mp hx;refine⟨hf,?_⟩;have:hY ls x.2.1=x.1:=by unfold hY;rw[e];exact e1.symm
  rw[this]
 have hk:=key i n h;unfold fL;cases e:pN q isDir 0 ls with
 |nil=>rw[e]at hk;cases hk
 |cons x r=>
  obtain⟨f1,f2⟩:=GX r x;rw[<-e]at f1 f2;obtain⟨g1,g2⟩:=back _ f1;have q1:=f2 _ hk;have q2:=hm _ _ g1;rw[<-g2]at q2;have:=Ry q1 q2;show TL (r.foldl greater x).2=TL (i,n);rw[this]
theorem Ar:∀{d p z:bj},behind d p=TL z↔p=d++z
 | [],p,z=>by
  show TL p=TL z↔_;simp
 |d::ds,[],z=>by
  show(J0:Option bj)=TL z↔_;simp
 |d::ds,s::p,z=>by
  show(if d=s then behind ds p else J0)=TL z↔_;by_cases h:d=s
  .subst h;rw[J4 rfl,Ar];simp
  .rw[J3 h];constructor
   .intro q;cases q
   .intro q;simp only[oZ,zy]at q;exact J5 q.1.symm h
theorem vf{r:cZ}{d p:bj}{isDir:Bool}:kN r d p isDir=J1↔∃q,p=d++q/\q≠[]/\(r.dirs=J2\/isDir=J1)/\gR r.segs q=true:=by
 unfold kN;cases e:behind d p with
 |none=>
  constructor
  .intro h;cases h
  .rintro⟨q,h,_⟩;rw[Ar.mpr h]at e;cases e
 |some q=>
  have e:=Ar.mp e;simp only[bD,qF,vK,zD];constructor
  .rintro⟨h1,h2,h3⟩;exact⟨q,e,h1,h2,h3⟩
  .rintro⟨q',e',h1,h2,h3⟩;rw[e]at e';have:=ED e';subst this;exact⟨h1,h2,h3⟩
theorem Pr(p:bj):cB p 0=0:=by simp[cB,aD]
theorem ck.end_pos{p:bj}(h:ck p){k:Nat}(h0:0<k):0<cB p k:=by
 have:=(h.take h0).text_ne;unfold cB;exact fG.mpr this
theorem ck.end_lt{p:bj}(h:ck p){j k:Nat}(hjk:j<k)(hk:k<=p.length):cB p j<cB p k:=by
 by_cases e:j=0
 .subst e;rw[Pr];exact h.end_pos hjk
 .exact xq (by lia) hjk hk
noncomputable def gD(n:Nat):Nat:=if 0<n then n+1 else n
theorem DZ{d q:bj}(hd:d≠[])(hq:q≠[]):aD (d++q)=aD d++47::aD q:=by
 have h:=yJ (p:=d++q) (k:=d.length) (fG.mpr hd) (by rw[bw];have:=fG.mpr hq;lia);rw[zK,zz]at h;exact h
theorem Ms{d:bj}(h:ck d):0<(aD d).length:=fG.mpr h.text_ne
def oP(d:bj):Prop:=d=[]\/ck d
theorem Pn{d q:bj}(hd:oP d)(hq:q≠[]):(aD (d++q)).drop (gD (aD d).length)=aD q:=by
 rcases hd with rfl|hd
 .rfl
 .unfold gD;rw[J4 (Ms hd),DZ hd.1 hq,<-fS,zz];rfl
theorem GP{d q:bj}(hd:oP d){j:Nat}(h0:0<j)(hj:j<=q.length):cB (d++q) (d.length+j)=gD (aD d).length+cB q j:=by
 have hq:q.take j≠[]:=by
  intro z;have:(q.take j).length=0:=by rw[z];rfl
  rw[cQ]at this;lia
 unfold cB;rw[ER,kr (by lia),ET];rcases hd with rfl|hd
 .simp[gD,aD]
 .unfold gD;rw[J4 (Ms hd),DZ hd.1 hq,bw,bH];lia
theorem FR{d p:bj}(hd:oP d)(hp:ck p):(aD d=[]\/(aD p).take ((aD d).length+1)=aD d++[47])↔∃q,q≠[]/\p=d++q:=by
 rcases hd with rfl|hd
 .constructor
  .intro _;exact⟨p,hp.1,rfl⟩
  .intro _;exact .inl rfl
 .constructor
  .rintro(z|h)
   .exact J5 z hd.text_ne
   .have e:aD p=aD d++47::(aD p).drop ((aD d).length+1):=by
     conv=>lhs;rw[<-pk ((aD d).length+1) (aD p),h]
     simp
    have e2:=hp.cut e;rw[hd.split]at e2;exact⟨_,eZ _ _,e2⟩
  .rintro⟨q,hq,rfl⟩;rw[DZ hd.1 hq];refine .inr ?_;have:aD d++47::aD q=(aD d++[47])++aD q:=by simp
   rw[this];have e:(aD d).length+1=(aD d++[47]).length:=by simp
   rw[e,zK]
noncomputable def iR(r:cZ)(isDir:Bool)(rest:ag):List Nat:=if r.dirs=J1/\isDir=J2 then(ic r.segs rest).filter (fun e=>decide (e<rest.length))else ic r.segs rest
def eW(p:bj)(isDir:Bool)(k:Nat):Bool:=decide (k<p.length)||isDir
theorem xT{r:cZ}{isDir:Bool}{q:bj}(hq:ck q){e:Nat}:e∈iR r isDir (aD q)↔∃j,0<j/\j<=q.length/\e=cB q j/\(r.dirs=J2\/eW q isDir j=J1)/\gR r.segs (q.take j)=true:=by
 unfold iR eW;by_cases c:r.dirs=J1/\isDir=J2
 .rw[J4 c,qR,ID hq];constructor
  .rintro⟨⟨j,h0,hj,rfl,m⟩,h⟩;refine⟨j,h0,hj,rfl,.inr ?_,m⟩;have h:cB q j<(aD q).length:=by simpa using h
   by_cases z:j=q.length
   .subst z;rw[ui]at h;lia
   .rw[dT (show j<q.length by lia)];rfl
  .rintro⟨j,h0,hj,rfl,h,m⟩;refine⟨⟨j,h0,hj,rfl,m⟩,?_⟩;rw[c.1,c.2]at h
   have h:j<q.length:=by
    rcases h with h|h
    .cases h
    .simpa using h
   have:=xq h0 h (aF _);rw[ui]at this;simpa using this
 .rw[J3 c,ID hq];constructor
  .rintro⟨j,h0,hj,rfl,m⟩;refine⟨j,h0,hj,rfl,?_,m⟩;cases e1:r.dirs with
   |false=>exact .inl rfl
   |true=>
    cases e2:isDir with
    |false=>exact J5 ⟨e1,e2⟩ c
    |true=>exact .inr (by simp)
  .rintro⟨j,h0,hj,rfl,_,m⟩;exact⟨j,h0,hj,rfl,m⟩
theorem MI{r:cZ}{isDir:Bool}{d q:bj}(hd:oP d)(hp:ck (d++q))(hq:q≠[]){E:Nat}:
  (∃e,e∈iR r isDir (aD q)/\E=gD (aD d).length+e)↔∃k,0<k/\k<=(d++q).length/\E=cB (d++q) k/\kN r d ((d++q).take k) (eW (d++q) isDir k)=true:=by
 have gq:ck q:=⟨hq,fun s hs=>hp.2 s (dA _ hs)⟩;constructor
 .rintro⟨e,he,rfl⟩;obtain⟨j,h0,hj,rfl,h1,h2⟩:=(xT gq).mp he;refine⟨d.length+j,by lia,by rw[bw];lia,(GP hd h0 hj).symm,vf.mpr ⟨q.take j,?_,?_,?_,h2⟩⟩
  .rw[ER,kr (by lia),ET]
  .exact(gq.take h0).1
  .rcases h1 with h1|h1
   .exact .inl h1
   .refine .inr ?_;unfold eW at h1⊢;rw[bw];by_cases z:j<q.length
    .rw[dT (show d.length+j<d.length+q.length by lia)];rfl
    .rw[dF z]at h1;rw[show isDir=J1 from by simpa using h1];simp
 .rintro⟨k,h0,hk,rfl,h⟩;obtain⟨z,e,hz,h1,h2⟩:=vf.mp h;rw[bw]at hk
  have hkd:d.length<k:=by
   have:((d++q).take k).length=d.length+z.length:=by rw[e,bw]
   rw[cQ,bw]at this;have:=fG.mpr hz;lia
  have ez:q.take (k-d.length)=z:=by
   rw[ER,kr (by lia)]at e;exact ED e
  refine⟨cB q (k-d.length),(xT gq).mpr ⟨k-d.length,by lia,by lia,rfl,?_,by rw[ez];exact h2⟩,?_⟩
  .rcases h1 with h1|h1
   .exact .inl h1
   .refine .inr ?_;unfold eW at h1⊢;rw[bw]at h1;by_cases y:k<d.length+q.length
    .rw[dT (show k-d.length<q.length by lia)];rfl
    .rw[dF y]at h1;rw[show isDir=J1 from by simpa using h1];simp
  .have:=GP (q:=q) hd (j:=k-d.length) (by lia) (by lia);rw[show d.length+(k-d.length)=k by lia]at this;exact this
abbrev jD:=Nat->Option (Nat×Nat×Bool)
noncomputable def gL(ls:List bE)(i:Nat):Nat:=match ls[i]? with
 |some l=>(aD l.dir).length
 |none=>0
def kU(ls:List bE)(p:bj)(isDir:Bool)(done:Nat->Nat->Prop)(g:jD):Prop:=∀k,0<k->k<=p.length->
 (g (cB p k)=J0/\∀i n,done i n-> ¬jb ls (p.take k) (eW p isDir k) i n)\/
 ∃i n,g (cB p k)=TL (i,n,negAt ls i n)/\done i n/\jb ls (p.take k) (eW p isDir k) i n/\∀i' n',done i' n'->jb ls (p.take k) (eW p isDir k) i' n'-> ¬gj (gL ls i,i,n) (gL ls i',i',n')
theorem Oh{ls:List bE}{p:bj}{isDir:Bool}:kU ls p isDir (fun _ _=>False) fun _=>none:=fun _ _ _=>.inl ⟨rfl,fun _ _ h=>h.elim⟩
theorem pQ{ls:List bE}{p:bj}{isDir:Bool}{done done':Nat->Nat->Prop}{g:jD}(h:kU ls p isDir done g)(h1:∀i n,done i n->done' i n)
  (h2:∀i n k,0<k->k<=p.length->done' i n->jb ls (p.take k) (eW p isDir k) i n->done i n):kU ls p isDir done' g:=fun k h0 hk=>by
 rcases h k h0 hk with⟨e,q⟩|⟨i,n,e,hd,hf,q⟩
 .exact .inl ⟨e,fun i n hd hf=>q i n (h2 i n k h0 hk hd hf) hf⟩
 .exact .inr ⟨i,n,e,h1 _ _ hd,hf,fun i' n' hd' hf'=>q i' n' (h2 i' n' k h0 hk hd' hf') hf'⟩
theorem Og{ls:List bE}{d q:bj}{isDir:Bool}{done:Nat->Nat->Prop}{g g':jD}{i n:Nat}{l:bE}{r:cZ}(hl:kC ls i n l r)(hld:l.dir=d)(hd:oP d)(hp:ck (d++q))(hq:q≠[])
  (h:kU ls (d++q) isDir done g)(hn:∀i' n',done i' n'-> ¬gj (gL ls i,i,n) (gL ls i',i',n'))
  (hg1:∀E,(∃e,e∈iR r isDir (aD q)/\E=gD (aD d).length+e)->g' E=TL (i,n,r.neg))
  (hg2:∀E,¬(∃e,e∈iR r isDir (aD q)/\E=gD (aD d).length+e)->g' E=g E):
  kU ls (d++q) isDir (fun i' n'=>done i' n'\/(i'=i/\n'=n)) g':=fun k h0 hk=>by
 by_cases c:∃e,e∈iR r isDir (aD q)/\cB (d++q) k=gD (aD d).length+e
 .obtain⟨k',h0',hk',e,hf⟩:=(MI hd hp hq).mp c;have:k=k':=GO h0 hk h0' hk' e;subst this;refine .inr ⟨i,n,by rw[hg1 _ c,RQ hl],.inr ⟨rfl,rfl⟩,⟨l,r,hl,by rw[hld];exact hf⟩,fun i' n' hd' _=>?_⟩;rcases hd' with hd'|⟨rfl,rfl⟩
  .exact hn i' n' hd'
  .intro z;exact Bw z z
 .rw[hg2 _ c]
  have nf: ¬jb ls ((d++q).take k) (eW (d++q) isDir k) i n:=by
   rintro⟨l',r',hl',hf⟩;obtain⟨rfl,rfl⟩:=hl.inj hl';rw[hld]at hf;exact c ((MI hd hp hq).mpr ⟨k,h0,hk,rfl,hf⟩)
  rcases h k h0 hk with⟨e,q'⟩|⟨i1,n1,e,hd1,hf,q'⟩
  .refine .inl ⟨e,fun i' n' hd' hf=>?_⟩;rcases hd' with hd'|⟨rfl,rfl⟩
   .exact q' i' n' hd' hf
   .exact nf hf
  .refine .inr ⟨i1,n1,e,.inl hd1,hf,fun i' n' hd' hf'=>?_⟩;rcases hd' with hd'|⟨rfl,rfl⟩
   .exact q' i' n' hd' hf'
   .exact J5 hf' nf
theorem Of{ls:List bE}{p:bj}{isDir:Bool}{done:Nat->Nat->Prop}{g:jD}(hp:ck p)(h:kU ls p isDir done g)(ha:∀i n,(∃l r,kC ls i n l r)->done i n){k:Nat}(h0:0<k)(hk:k<=p.length):
  g (cB p k)=(fL ls (p.take k) (eW p isDir k)).map fun x=>(x.1,x.2,negAt ls x.1 x.2):=by
 have all:∀i n,jb ls (p.take k) (eW p isDir k) i n->done i n:=fun i n⟨l,r,h1,_⟩=>ha i n ⟨l,r,h1⟩
 have pre:∀i n,jb ls (p.take k) (eW p isDir k) i n->hY ls i<=p.length/\gL ls i=cB p (hY ls i):=fun i n⟨l,r,⟨e,_⟩,hf⟩=>by
  obtain⟨z,ez,_,_⟩:=vf.mp hf;have ed:hY ls i=l.dir.length:=by unfold hY;rw[e]
  have el:gL ls i=(aD l.dir).length:=by unfold gL;rw[e]
  have hlen:l.dir.length<=(p.take k).length:=by rw[ez,bw];lia
  rw[cQ]at hlen;rw[ed,el];refine⟨by lia,?_⟩;unfold cB
  have:p.take l.dir.length=l.dir:=by
   have q:(p.take k).take l.dir.length=l.dir:=by rw[ez,zK]
   rw[ES,mw (by lia)]at q;exact q
  rw[this]
 rcases h k h0 hk with⟨e,q⟩|⟨i,n,e,hd,hf,q⟩
 .rw[e,Pa fun i n hf=>q i n (all i n hf) hf];rfl
 .rw[e,Pb hf fun i' n' hf'=>?_]
  .rfl
  .have z:=q i' n' (all i' n' hf') hf';obtain⟨a1,a2⟩:=pre i n hf;obtain⟨b1,b2⟩:=pre i' n' hf';intro y;apply z;rcases y with y|⟨y1,y2⟩
   .refine .inl ?_;have y:hY ls i<hY ls i':=y;show gL ls i<gL ls i';rw[a2,b2];exact hp.end_lt y b1
   .refine .inr ⟨?_,y2⟩;have y1:hY ls i=hY ls i':=y1;show gL ls i=gL ls i';rw[a2,b2,y1]
def mH(ls:List bE)(p:bj)(isDir:Bool)(k:Nat):Prop:=k<p.length/\becomes ls p isDir=wX ls p isDir (p.length-1-k) (k+1)
theorem YD{ls:List bE}{p:bj}{isDir:Bool}(h:p≠[]):mH ls p isDir 0:=⟨fG.mpr h,rfl⟩
theorem GE{p:bj}{isDir:Bool}{k:Nat}(h:k<p.length):eW p isDir k=true:=by unfold eW;rw[dT h];rfl
theorem uh{p:bj}{isDir:Bool}:eW p isDir p.length=isDir:=by unfold eW;rw[dF (by lia)];rfl
theorem YA{ls:List bE}{p:bj}{isDir:Bool}{k:Nat}(h:mH ls p isDir k){i n:Nat}(hd:fL ls (p.take (k+1)) (eW p isDir (k+1))=TL (i,n))(hn:negAt ls i n=J2):becomes ls p isDir=(2,i,n):=by
 rw[h.2];by_cases e:k+1=p.length
 .rw[show p.length-1-k=0 by lia,wX];rw[e,cv,uh]at hd;rw[hd];simp[hn]
 .have:=h.1;rw[show p.length-1-k=(p.length-2-k)+1 by lia,wX];rw[GE (by lia)]at hd;rw[hd];simp[hn]
theorem YC{ls:List bE}{p:bj}{isDir:Bool}{k:Nat}(h:mH ls p isDir k)(hk:k+1<p.length)(hd:∀i n,fL ls (p.take (k+1)) (eW p isDir (k+1))=TL (i,n)->negAt ls i n=J1):mH ls p isDir (k+1):=by
 refine⟨hk,?_⟩;rw[h.2,show p.length-1-k=(p.length-1-(k+1))+1 by lia,wX];rw[GE hk]at hd;cases e:fL ls (p.take (k+1)) J1 with
 |none=>rfl
 |some x=>
  have:=hd x.1 x.2 e;simp only[this,if_true]
theorem YB{ls:List bE}{p:bj}{isDir:Bool}(h:mH ls p isDir (p.length-1))(hd:∀i n,fL ls p isDir=TL (i,n)->negAt ls i n=J1):
  becomes ls p isDir=match fL ls p isDir with
   |some x=>(1,x.1,x.2)
   |none=>(0,0,0):=by
 rw[h.2,show p.length-1-(p.length-1)=0 by lia,wX];cases e:fL ls p isDir with
 |none=>rfl
 |some x=>
  have:=hd x.1 x.2 e;simp only[this,if_true]
noncomputable def jl(lo hi:Nat):Nat:=(2^(hi-lo+1)-1)*2^lo
theorem tZ(lo hi c:Nat)(h:lo<=hi):(jl lo hi).testBit c=decide (lo<=c/\c<=hi):=by
 unfold jl;rw[Nat.testBit_mul_two_pow];by_cases h1:lo<=c
 .rw[dT h1,ze,Nv];by_cases h2:c<=hi
  .rw[dT (show c-lo<hi-lo+1 by lia),dT ⟨h1,h2⟩]
  .rw[dF (show¬c-lo<hi-lo+1 by lia),dF (fun z=>h2 z.2)]
 .rw[dF h1,vJ,dF (fun z=>h1 z.1)]
theorem FT{lo hi:Nat}(h:lo<=hi):jl lo hi<2^(hi+1):=by
 apply zQ;intro i hi';rw[tZ _ _ _ h,dF (by lia)]
def cw:Nat:=jl 1 255
def aQ:Nat:=cw^^^2^47
def cb:Nat:=2^47
theorem Ea{c d:UInt8}:c≠d↔c.toNat≠d.toNat:=by
 constructor
 .intro h e;exact h (UInt8.toNat_inj.mp e)
 .intro h e;exact h (by rw[e])
theorem iW{c d:UInt8}:c=d↔c.toNat=d.toNat:=UInt8.toNat_inj.symm
theorem kT(c:UInt8):c.toNat<256:=UInt8.toNat_lt c
theorem mR:tF cw aQ cb where
 path c:=by
  have:=kT c;rw[bJ,cw,tZ _ _ _ (by lia),decide_eq_true_iff,Ea];show _↔c.toNat≠0;lia
 part c:=by
  have:=kT c;rw[bJ,aQ,cw,zS,tZ _ _ _ (by lia),pA,Ea,Ea];show _↔c.toNat≠0/\c.toNat≠47;by_cases h:c.toNat=47
  .rw[h];decide
  .by_cases h2:c.toNat=0
   .rw[h2];decide
   .rw[dT (show 1<=c.toNat/\c.toNat<=255 by lia),dF (show¬47=c.toNat by lia)];simp[h,h2]
 slash c:=by
  rw[bJ,cb,pA,decide_eq_true_iff,iW];show 47=c.toNat↔c.toNat=47;lia
def kD(f:UInt8->Bool)(n:Nat):Prop:=n<2^256/\∀c:UInt8,bJ n c=f c
theorem Lc{a b:UInt8}(h:a<=b):kD (fun c=>decide (a<=c)&&decide (c<=b)) (jl a.toNat b.toNat):=by
 have h':a.toNat<=b.toNat:=tU.mp h;refine⟨cR (FT h') (kx (by lia) (by have:=kT b;lia)),fun c=>?_⟩;rw[bJ,tZ _ _ _ h',Bool.decide_and]
 congr 1
theorem Wq{f g:UInt8->Bool}{m n:Nat}(h1:kD f m)(h2:kD g n):kD (fun c=>f c||g c) (m|||n):=
 ⟨Nat.or_lt_two_pow h1.1 h2.1,fun c=>by show bJ (m|||n) c=(f c||g c);rw[<-h1.2 c,<-h2.2 c];simp[bJ]⟩
theorem Wp{f:UInt8->Bool}{m:Nat}(h:kD f m):kD (fun c=>!f c) (jl 0 255^^^m):=by
 refine⟨Nat.xor_lt_two_pow (FT (by lia)) h.1,fun c=>?_⟩;have:=kT c;show bJ (jl 0 255^^^m) c=!f c;rw[<-h.2 c,bJ,zS,tZ _ _ _ (by lia),dT (by lia),bJ];cases m.testBit c.toNat<;>rfl
theorem Ld(c:UInt8):kD (fun d=>d==c) (2^c.toNat):=by
 have:=kT c;refine⟨pz (by lia) this,fun d=>?_⟩;rw[bJ,pA];by_cases h:d=c
 .subst h;simp
 .rw[dF (fun e=>h (iW.mpr e.symm))];exact(beq_false_of_ne h).symm
theorem AB{a:bc}(ha:a≠.star){n:Nat}(h:kD a.takes n):oN aQ a ⟨0,n&&&aQ,J2⟩:=by
 refine(AA ha).mpr ⟨rfl,rfl,fun d=>?_⟩;show(n&&&aQ).testBit d.toNat=J1↔_;rw[my,bD,<-mR.part d];have:=h.2 d;unfold bJ at this⊢;rw[this];exact And.comm
theorem OC:oN aQ .any ⟨0,aQ&&&aQ,J2⟩:=by
 refine(AA XQ).mpr ⟨rfl,rfl,fun d=>?_⟩;rw[Nat.and_self];show bJ aQ d=J1↔_;rw[mR.part d];show _↔_/\J1=J1;simp
noncomputable def fo(s:ag):Option ((UInt8×UInt8)×ag):=match inClass s with
 |none=>J0
 |some (a,r)=>if r.head?=TL 45 then(match inClass (r.drop 1)with
   |none=>J0
   |some (b,q)=>if a<=b then TL ((a,b),q)else J0)
  else TL ((a,a),r)
theorem yE(n:Nat)(s:ag)(h:s.head?≠TL 93):ke (n+1) s=match fo s with
  |none=>J0
  |some (ab,q)=>(ke n q).map fun x=>(ab::x.1,x.2):=by
 rw[ke,J3 h];unfold fo;cases inClass s with
 |none=>rfl
 |some x=>
  obtain⟨a,r⟩:=x;simp only;by_cases c:r.head?=TL 45
  .rw[J4 c,J4 c];cases inClass (r.drop 1)with
   |none=>rfl
   |some y=>
    obtain⟨b,q⟩:=y;simp only;by_cases d:a<=b
    .rw[J4 d,J4 d]
    .rw[J3 d,J3 d]
  .rw[J3 c,J3 c]
theorem HA{s:ag}{i:Nat}(h:s.length<=i):inClass (s.drop i)=none:=by
 rw[kq h];rfl
theorem gA{α:Type}{s:List α}{i:Nat}{c:α}(h:s[i]?=TL c):s.drop i=c::s.drop (i+1):=jP.mpr ⟨h,rfl⟩
theorem xD{s:ag}{i:Nat}{c:UInt8}(h:s[i]?=TL c)(hc:c=93\/c=45):inClass (s.drop i)=none:=by
 rw[gA h]
 have h92:c≠92:=by
  rcases hc with rfl|rfl<;>decide
 cases s.drop (i+1)with
 |nil=>
  rw[inClass,J4 (.inr hc)]
 |cons d r=>rw[inClass,J3 h92,J4 hc]
theorem HB{s:ag}{i:Nat}(h:s[i]?=TL 92):inClass (s.drop i)=match s[i+1]? with
  |none=>J0
  |some d=>TL (d,s.drop (i+2)):=by
 rw[gA h];cases e:s[i+1]? with
 |none=>
  rw[kq (EK.mp e)];rfl
 |some d=>
  rw[gA e];rfl
theorem Hz{s:ag}{i:Nat}{c:UInt8}(h:s[i]?=TL c)(h1:c≠93)(h2:c≠45)(h3:c≠92):inClass (s.drop i)=TL (c,s.drop (i+1)):=by
 rw[gA h];cases s.drop (i+1)with
 |nil=>rw[inClass,J3 (by simp[h1,h2,h3])]
 |cons d r=>rw[inClass,J3 h3,J3 (by simp[h1,h2])]
def At(s:ag)(i:Nat)(r:ag)(j:Nat):Prop:=i<j/\j<=s.length/\r=s.drop j
theorem Hy{s:ag}{i:Nat}{c:UInt8}{r:ag}(h:inClass (s.drop i)=TL (c,r)):∃j,At s i r j:=by
 cases e:s[i]? with
 |none=>rw[HA (EK.mp e)]at h;cases h
 |some d=>
  have hi:i<s.length:=(aK.mp e).1;by_cases h1:d=93
  .rw[xD e (.inl h1)]at h;cases h
  by_cases h2:d=45
  .rw[xD e (.inr h2)]at h;cases h
  by_cases h3:d=92
  .subst h3;rw[HB e]at h;cases e1:s[i+1]? with
   |none=>rw[e1]at h;cases h
   |some x=>
    rw[e1]at h;cases h;exact⟨i+2,by lia,by have:=(aK.mp e1).1;lia,rfl⟩
  .rw[Hz e h1 h2 h3]at h;cases h;exact⟨i+1,by lia,by lia,rfl⟩
theorem Yc{s:ag}{i:Nat}{ab:UInt8×UInt8}{r:ag}(h:fo (s.drop i)=TL (ab,r)):ab.1<=ab.2/\∃j,At s i r j:=by
 unfold fo at h;cases e:inClass (s.drop i)with
 |none=>rw[e]at h;cases h
 |some x=>
  obtain⟨a,q⟩:=x;rw[e]at h;simp only at h;obtain⟨j,h1,h2,rfl⟩:=Hy e;by_cases c:(s.drop j).head?=TL 45
  .rw[J4 c,fS]at h;cases e2:inClass (s.drop (j+1))with
   |none=>rw[e2]at h;cases h
   |some y=>
    obtain⟨b,q2⟩:=y;rw[e2]at h;simp only at h;by_cases d:a<=b
    .rw[J4 d]at h;cases h;obtain⟨k,g1,g2,rfl⟩:=Hy e2;exact⟨d,k,by lia,g2,rfl⟩
    .rw[J3 d]at h;cases h
  .rw[J3 c]at h;cases h;exact⟨UInt8.le_refl _,j,h1,h2,rfl⟩
theorem DJ{s:ag}{ab:UInt8×UInt8}{r:ag}(h:fo s=TL (ab,r)):r.length<s.length:=by
 have h':fo (s.drop 0)=TL (ab,r):=h;obtain⟨_,j,h1,h2,rfl⟩:=Yc h';rw[cM];omega
theorem LM:∀(n m:Nat)(s:ag),s.length<n->s.length<m->ke n s=ke m s
 |0,_,_,h,_=>by lia
 |_,0,_,_,h=>by lia
 |n+1,m+1,s,h1,h2=>by
  by_cases c:s.head?=TL 93
  .rw[ke,ke,J4 c,J4 c]
  .rw[yE n s c,yE m s c];cases e:fo s with
   |none=>rfl
   |some x=>
    obtain⟨ab,q⟩:=x;have:=DJ e;simp only;rw[LM n m q (by lia) (by lia)]
def gE(s:ag):Option (List (UInt8×UInt8)×ag):=ke (s.length+1) s
theorem LO{n:Nat}{s:ag}(h:s.length<n):ke n s=gE s:=LM _ _ _ h (by lia)
theorem LQ{s:ag}(h:s.head?=TL 93):gE s=TL ([],s.drop 1):=by rw[gE,ke,J4 h]
theorem LP{s:ag}(h:s.head?≠TL 93):gE s=match fo s with
  |none=>J0
  |some (ab,q)=>(gE q).map fun x=>(ab::x.1,x.2):=by
 rw[gE,yE _ _ h];cases e:fo s with
 |none=>rfl
 |some x=>
  obtain⟨ab,q⟩:=x;simp only;rw[LO (DJ e)]
def jL(t:ag)(rs:List (UInt8×UInt8))(q:ag):Prop:=gE t=(gE q).map fun x=>(rs++x.1,x.2)
theorem LH(t:ag):jL t [] t:=by
 unfold jL;cases gE t<;>rfl
theorem LK{t q q':ag}{rs:List (UInt8×UInt8)}{ab:UInt8×UInt8}(h:jL t rs q)(h1:q.head?≠TL 93)(h2:fo q=TL (ab,q')):jL t (rs++[ab]) q':=by
 unfold jL at h⊢;rw[h,LP h1,h2];simp only;cases gE q' with
 |none=>rfl
 |some x=>simp
theorem LG{t q:ag}{rs:List (UInt8×UInt8)}(h:jL t rs q)(h1:q.head?≠TL 93)(h2:fo q=J0):gE t=none:=by
 rw[h,LP h1,h2];rfl
theorem LJ{t:ag}{rs:List (UInt8×UInt8)}(h:jL t rs []):gE t=none:=by rw[h];rfl
theorem LL{t q:ag}{rs:List (UInt8×UInt8)}(h:jL t rs q)(h1:q.head?=TL 93):gE t=TL (rs,q.drop 1):=by rw[h,LQ h1];simp
theorem LN:∀(n:Nat){s:ag}{rs:List (UInt8×UInt8)}{r:ag},ke n s=TL (rs,r)->r.length<s.length
 |0,s,rs,r,h=>by cases h
 |n+1,s,rs,r,h=>by
  by_cases c:s.head?=TL 93
  .rw[ke,J4 c]at h;cases h;cases s with
   |nil=>cases c
   |cons x s=>simp
  .rw[yE _ _ c]at h;cases e:fo s with
   |none=>rw[e]at h;cases h
   |some x=>
    obtain⟨ab,q⟩:=x;rw[e]at h;simp only at h;have l1:=DJ e;cases e2:ke n q with
    |none=>rw[e2]at h;cases h
    |some y=>
     obtain⟨rs',r'⟩:=y;rw[e2]at h;cases h;have:=LN n e2;show r'.length<s.length;lia
def SetOf(rs:List (UInt8×UInt8))(n:Nat):Prop:=kD (fun c=>rs.any fun r=>decide (r.1<=c)&&decide (c<=r.2)) n
theorem Wm{ab:UInt8×UInt8}(h:ab.1<=ab.2):SetOf [ab] (jl ab.1.toNat ab.2.toNat):=by
 have:=Lc h;refine⟨this.1,fun c=>?_⟩;rw[this.2 c];simp
theorem Wn{rs:List (UInt8×UInt8)}{n:Nat}{ab:UInt8×UInt8}(h:SetOf rs n)(hab:ab.1<=ab.2):SetOf (rs++[ab]) (n|||jl ab.1.toNat ab.2.toNat):=by
 have:=Wq h (Lc hab);refine⟨this.1,fun c=>?_⟩;rw[this.2 c];simp
noncomputable def eE:ag->Option (bc×ag)
 | []=>J0
 |c::s=>
  if c=42 then TL (.star,s)
  else if c=63 then TL (.any,s)
  else if c=92 then(match s with
   | []=>J0
   |d::r=>TL (.byte d,r))
  else if c=91 then(match gE (if s.head?=TL 33 then s.drop 1 else s)with
   |none=>J0
   |some (rs,r)=>if rs.isEmpty=J1 then J0 else TL (.cls (s.head?==TL 33) rs,r))
  else TL (.byte c,s)
theorem Ap(n:Nat)(c:UInt8)(s:ag):atoms (n+1) (c::s)=(eE (c::s)).bind fun x=>(atoms n x.2).map fun l=>x.1::l:=by
 rw[atoms.eq_def,eE.eq_def];simp only;by_cases h1:c=42
 .rw[J4 h1,J4 h1];rfl
 rw[J3 h1,J3 h1];by_cases h2:c=63
 .rw[J4 h2,J4 h2];rfl
 rw[J3 h2,J3 h2];by_cases h3:c=92
 .rw[J4 h3,J4 h3];cases s with
  |nil=>rfl
  |cons d r=>rfl
 rw[J3 h3,J3 h3];by_cases h4:c=91
 .rw[J4 h4,J4 h4]
  have hl:(if s.head?=TL 33 then s.drop 1 else s).length<s.length+1:=by
   by_cases z:s.head?=TL 33
   .rw[J4 z,cM];lia
   .rw[J3 z];lia
  rw[LO hl];cases gE (if s.head?=TL 33 then s.drop 1 else s)with
  |none=>rfl
  |some x=>
   obtain⟨rs,r⟩:=x;simp only;by_cases z:rs.isEmpty=J1
   .rw[J4 z,J4 z];rfl
   .rw[J3 z,J3 z];rfl
 .rw[J3 h4,J3 h4];rfl
theorem BH{s:ag}{a:bc}{r:ag}(h:eE s=TL (a,r)):r.length<s.length:=by
 cases s with
 |nil=>cases h
 |cons c s=>
  rw[eE.eq_def]at h;simp only at h;by_cases h1:c=42
  .rw[J4 h1]at h;cases h;simp
  rw[J3 h1]at h;by_cases h2:c=63
  .rw[J4 h2]at h;cases h;simp
  rw[J3 h2]at h;by_cases h3:c=92
  .rw[J4 h3]at h;cases s with
   |nil=>cases h
   |cons d s=>cases h;simp only[bH];lia
  rw[J3 h3]at h;by_cases h4:c=91
  .rw[J4 h4]at h;cases e:gE (if s.head?=TL 33 then s.drop 1 else s)with
   |none=>rw[e]at h;cases h
   |some x=>
    obtain⟨rs,q⟩:=x;rw[e]at h;simp only at h;by_cases z:rs.isEmpty=J1
    .rw[J4 z]at h;cases h
    .rw[J3 z]at h;cases h;have:=LN _ e
     have hl:(if s.head?=TL 33 then s.drop 1 else s).length<=s.length:=by
      by_cases z:s.head?=TL 33
      .rw[J4 z,cM];lia
      .rw[J3 z];lia
     simp only[bH];lia
  .rw[J3 h4]at h;cases h;simp
theorem FN:∀(n m:Nat)(s:ag),s.length<n->s.length<m->atoms n s=atoms m s
 |0,_,_,h,_=>by lia
 |_,0,_,_,h=>by lia
 |n+1,m+1,[],_,_=>rfl
 |n+1,m+1,c::s,h1,h2=>by
  rw[Ap,Ap];cases e:eE (c::s)with
  |none=>rfl
  |some x=>
   have:=BH (a:=x.1) (r:=x.2) e;show(atoms n x.2).map _=(atoms m x.2).map _;rw[FN n m x.2 (by lia) (by lia)]
def ats(s:ag):Option (List bc):=atoms (s.length+1) s
theorem FP:ats []=TL []:=rfl
theorem Aq{s:ag}(h:s≠[]):ats s=(eE s).bind fun x=>(ats x.2).map fun l=>x.1::l:=by
 cases s with
 |nil=>exact J5 rfl h
 |cons c s=>
  unfold ats;rw[Ap];cases e:eE (c::s)with
  |none=>rfl
  |some x=>
   have:=BH (a:=x.1) (r:=x.2) e;show(atoms (c::s).length x.2).map _=(atoms (x.2.length+1) x.2).map _;rw[FN _ (x.2.length+1) x.2 (by lia) (by lia)]
def nr(s:ag)(as:List bc)(q:ag):Prop:=ats s=(ats q).map fun l=>as++l
theorem Oc(s:ag):nr s [] s:=by
 unfold nr;cases ats s<;>rfl
theorem Od{s q q':ag}{as:List bc}{a:bc}(h:nr s as q)(hq:q≠[])(h2:eE q=TL (a,q')):nr s (as++[a]) q':=by
 unfold nr at h⊢;rw[h,Aq hq,h2];show Option.map _ ((ats q').map _)=_;cases ats q' with
 |none=>rfl
 |some x=>simp
theorem Ob{s q:ag}{as:List bc}(h:nr s as q)(hq:q≠[])(h2:eE q=J0):ats s=none:=by
 rw[h,Aq hq,h2];rfl
theorem Oa{s:ag}{as:List bc}(h:nr s as []):ats s=TL as:=by
 rw[h,FP];simp
theorem Gm:∀{as:List bc}{cs:List MC}{a:bc}{c:MC},jC aQ as cs->oN aQ a c->jC aQ (as++[a]) (cs++[c])
 | [],_,_,_,.nil,h=>.cons h .nil
 |_::_,_::_,_,_,.cons h1 h2,h=>.cons h1 (Gm h2 h)
inductive oO:List Seg->List MC->Prop
 |nil:oO [] []
 |deep {r:List Seg} {cs:List MC}:oO r cs->oO (r++[.deep]) (cs++[⟨cw,cb,J1⟩])
 |one {r:List Seg} {cs ds:List MC} {as:List bc}:oO r cs->jC aQ as ds->oO (r++[.one as]) ((cs++ds)++[⟨0,cb,J2⟩])
theorem xk:∀{r:List Seg}{cs:List MC},oO r cs->∀{b:Seg}{t:List Seg}{ds:List MC},iG cw aQ cb (b::t) ds->iG cw aQ cb (r++b::t) (cs++ds)
 |_,_,.nil,b,t,ds,h=>h
 |_,_,.deep (r:=r) (cs:=cs) h1,b,t,ds,h=>by
  have:=xk h1 (.deep h);rw[dt,dt];exact this
 |_,_,.one (r:=r) (cs:=cs) (ds:=es) (as:=as) h1 h2,b,t,ds,h=>by
  have:=xk h1 (.one h2 h);rw[dt,dt,dt];exact this
theorem qv(s:ag)(r:List ag):dQ (s::r)=match iq s,dQ r with
  |some x,TL l=>TL (x::l)
  |_,_=>none:=rfl
theorem KZ:∀(a b:List ag),dQ (a++b)=match dQ a,dQ b with
  |some x,TL y=>TL (x++y)
  |_,_=>J0
 | [],b=>by
  show dQ b=_;rw[show dQ []=TL []from rfl];cases dQ b<;>rfl
 |s::a,b=>by
  rw[oZ,qv,qv,KZ a b];cases iq s with
  |none=>rfl
  |some x=>
   cases dQ a with
   |none=>rfl
   |some y=>
    cases dQ b with
    |none=>rfl
    |some z=>rfl
theorem La{l:List ag}{i:Nat}{s:ag}(h:l[i]?=TL s)(hs:iq s=J0):dQ l=none:=by
 induction l generalizing i with
 |nil=>simp at h
 |cons x r ih=>
  rw[qv]
  match i,h with
  |0,h=>
   have:x=s:=by simpa using h
   subst this;rw[hs]
  |i+1,h=>
   rw[ih (by simpa using h)];cases iq x<;>rfl
theorem vi:iq []=none:=rfl
theorem vh:iq [42,42]=TL .deep:=rfl
theorem vj{s:ag}(h1:s≠[])(h2:s≠[42,42]):iq s=(ats s).map .one:=by
 unfold iq;rw[J3 h1,J3 h2];rfl
noncomputable def ot(s:ag):Option cZ:=
 bodyOf (s.head?==TL 33) ((if(s.head?==TL 33)=J1 then s.drop 1 else s).getLast?==TL 47)
  (if((if(s.head?==TL 33)=J1 then s.drop 1 else s).getLast?==TL 47)=J1 then(if(s.head?==TL 33)=J1 then s.drop 1 else s).dropLast else(if(s.head?==TL 33)=J1 then s.drop 1 else s))
theorem Bq{s:ag}(h:s=[]\/s.head?=TL 35):dG s=TL none:=by
 unfold dG;rw[J4 h]
theorem Br{s:ag}(h: ¬(s=[]\/s.head?=TL 35)):dG s=(ot s).map some:=by
 unfold dG;rw[J3 h];rfl
noncomputable def gT(s:ag):List ag:=aG 47 (if s.contains 47=J1 then(if s.head?=TL 47 then s.drop 1 else s)else 42::42::47::s)
theorem Aw(neg dirs:Bool)(s:ag):bodyOf neg dirs s=(dQ (gT s)).map fun l=>⟨neg,dirs,s.contains 47,l⟩:=by
 unfold bodyOf gT;by_cases h:s.contains 47=J1
 .rw[J4 h];simp only[J4 h]
 .rw[J3 h];have hm:(47:UInt8)∉s:=by simpa using h
  have hh:s.head?≠TL 47:=fun z=>by
   cases s with
   |nil=>cases z
   |cons c s=>
    have:c=47:=by simpa using z
    subst this;exact hm (by simp)
  rw[J3 hh]
  have e:aG 47 (42::42::47::s)=[42,42]::aG 47 s:=by
   have:=ng 47 [42,42] s;rw[kc (c:=47) (s:=[42,42]) (by decide)]at this;exact this
  rw[e,qv,vh];cases dQ (aG 47 s)with
  |none=>rfl
  |some l=>simp only[ly,J3 h]
def fb(segs:List Seg):ag->Spot->Prop
 | [],x=>pathEnds segs x=J1
 |c::z,x=>if c=47 then∃y,y∈mT segs x/\fb segs z y else∃y,y∈jt segs c x/\fb segs z y
theorem wR{segs:List Seg}{z:ag}{x:Spot}:fb segs (47::z) x↔∃y,y∈mT segs x/\fb segs z y:=by
 show(if(47:UInt8)=47 then _ else _)↔_;rw[J4 rfl]
theorem wQ{segs:List Seg}{c:UInt8}{z:ag}{x:Spot}(h:c≠47):fb segs (c::z) x↔∃y,y∈jt segs c x/\fb segs z y:=by
 show(if c=47 then _ else _)↔_;rw[J3 h]
theorem Jp{as:List bc}{k f j:Nat}(h:as[j]?=TL .star):passing as k (f+1) j=.atom k j::passing as k f (j+1):=by
 rw[passing];split
 .rfl
 .next h'=>exact J5 h h'
theorem TM{as:List bc}{k f j:Nat}(h: ¬as[j]?=TL .star):passing as k (f+1) j=[.atom k j]:=by
 rw[passing];split
 .next h'=>exact J5 h' h
 .rfl
theorem Jm{segs:List Seg}{k i:Nat}{as:List bc}(hk:segs[k]?=TL (.one as)):sA segs (.atom k i)=(i==as.length):=by
 unfold sA;simp only[hk]
theorem Ja{segs:List Seg}{c:UInt8}{k i:Nat}{as:List bc}(hk:segs[k]?=TL (.one as))(h:as[i]?=J0):jt segs c (.atom k i)=[]:=by
 unfold jt;simp only[hk,h]
theorem Jd{segs:List Seg}{c:UInt8}{k i:Nat}{as:List bc}(hk:segs[k]?=TL (.one as))(h:as[i]?=TL .star):jt segs c (.atom k i)=[.atom k i]++passing as k as.length (i+1):=by
 unfold jt;simp only[hk,h]
theorem Jc{segs:List Seg}{c:UInt8}{k i:Nat}{as:List bc}{a:bc}(hk:segs[k]?=TL (.one as))(h:as[i]?=TL a)(hs:a≠.star):
  jt segs c (.atom k i)=if a.takes c=J1 then passing as k as.length (i+1)else []:=by
 unfold jt;cases a with
 |star=>exact J5 rfl hs
 |any=>simp only[hk,h]
 |byte c=>simp only[hk,h]
 |cls n rs=>simp only[hk,h]
theorem oq(as:List bc)(k:Nat):∀(f j:Nat)(x:Spot),x∈passing as k f j↔∃i,j<=i/\i<=j+f/\x=.atom k i/\∀m,j<=m->m<i->as[m]?=TL .star
 |0,j,x=>by
  rw[passing,cE];constructor
  .rintro rfl;exact⟨j,aF _,aF _,rfl,fun m a b=>by lia⟩
  .rintro⟨i,h1,h2,rfl,_⟩;rw[show i=j by lia]
 |f+1,j,x=>by
  have base:(∃i,j<=i/\i<=j+(f+1)/\x=.atom k i/\∀m,j<=m->m<i->as[m]?=TL .star)↔x=.atom k j\/(as[j]?=TL .star/\∃i,j+1<=i/\i<=j+1+f/\x=.atom k i/\∀m,j+1<=m->m<i->as[m]?=TL .star):=by
   constructor
   .rintro⟨i,h1,h2,rfl,h3⟩;by_cases e:i=j
    .rw[e];exact .inl rfl
    .exact .inr ⟨h3 j (aF _) (by lia),i,by lia,by lia,rfl,fun m a b=>h3 m (by lia) b⟩
   .rintro(rfl|⟨h0,i,h1,h2,rfl,h3⟩)
    .exact⟨j,aF _,by lia,rfl,fun m a b=>by lia⟩
    .refine⟨i,by lia,by lia,rfl,fun m a b=>?_⟩;by_cases e:m=j
     .rw[e];exact h0
     .exact h3 m (by lia) b
  rw[base,<-oq as k f (j+1) x];by_cases h:as[j]?=TL .star
  .rw[Jp h,bg];simp[h]
  .rw[TM h,cE];simp[h]
def tN(as:List bc)(s:ag):Prop:=match as with
 | []=>s=[]
 |a::r=>∃c v,s=c::v/\a.takes c=J1/\(match a with
  |.star=>eS (.star::r) v
  |_=>eS r v)
theorem BY{r:List bc}{s:ag}:tN (.star::r) s↔∃c v,s=c::v/\eS (.star::r) v:=by
 constructor
 .rintro⟨c,v,h1,_,h2⟩;exact⟨c,v,h1,h2⟩
 .rintro⟨c,v,h1,h2⟩;exact⟨c,v,h1,rfl,h2⟩
theorem Jf{a:bc}{r:List bc}{s:ag}(h:a≠.star):tN (a::r) s↔eS (a::r) s:=by
 rw[mQ h];cases a with
 |star=>exact J5 rfl h
 |any=>exact fz
 |byte c=>exact fz
 |cls n rs=>exact fz
theorem Rz{a:bc}{r:List bc}{s:ag}:eS (a::r) s↔tN (a::r) s\/(a=.star/\eS r s):=by
 by_cases h:a=.star
 .subst h;rw[BY,kJ];constructor
  .rintro⟨u,v,rfl,h⟩;cases u with
   |nil=>exact .inr ⟨rfl,h⟩
   |cons c u=>exact .inl ⟨c,u++v,rfl,kJ.mpr ⟨u,v,rfl,h⟩⟩
  .rintro(⟨c,v,rfl,h⟩|⟨_,h⟩)
   .obtain⟨u,w,e,h'⟩:=kJ.mp h;exact⟨c::u,w,by rw[e];rfl,h'⟩
   .exact⟨[],s,rfl,h⟩
 .rw[Jf h];simp[h]
theorem uH(as:List bc)(s:ag):∀(n j:Nat),j+n=as.length->(eS (as.drop j) s↔∃i,j<=i/\i<=as.length/\(∀m,j<=m->m<i->as[m]?=TL .star)/\tN (as.drop i) s)
 |0,j,h=>by
  rw[kq (by lia)];constructor
  .intro q;exact⟨j,aF _,by lia,fun m a b=>by lia,by rw[kq (by lia)];exact q⟩
  .rintro⟨i,h1,h2,_,q⟩;rw[kq (by lia)]at q;exact q
 |n+1,j,h=>by
  obtain⟨a,ha⟩:∃a,as[j]?=TL a:=⟨_,bO (by lia)⟩;rw[gA ha,Rz,uH as s n (j+1) (by lia)];constructor
  .rintro(q|⟨rfl,i,h1,h2,h3,q⟩)
   .exact⟨j,aF _,by lia,fun m a b=>by lia,by rw[gA ha];exact q⟩
   .refine⟨i,by lia,h2,fun m a b=>?_,q⟩;by_cases e:m=j
    .rw[e];exact ha
    .exact h3 m (by lia) b
  .rintro⟨i,h1,h2,h3,q⟩;by_cases e:i=j
   .subst e;rw[gA ha]at q;exact .inl q
   .have:a=.star:=by
     have:=h3 j (aF _) (by lia);rw[ha]at this;exact dN this
    exact .inr ⟨this,i,by lia,h2,fun m a b=>h3 m (by lia) b,q⟩
def rm(segs:List Seg)(k:Nat)(q:bj):Prop:=(q=[]/\k+1=segs.length)\/(q≠[]/\cC (segs.drop (k+1)) q)
theorem ve{segs:List Seg}{k:Nat}{q:bj}(hk:k<segs.length):rm segs k q↔cC (segs.drop (k+1)) q:=by
 unfold rm;constructor
 .rintro(⟨rfl,h⟩|⟨_,h⟩)
  .rw[kq (by lia)];rfl
  .exact h
 .intro h;by_cases e:q=[]
  .subst e;refine .inl ⟨rfl,?_⟩;by_cases z:k+1=segs.length
   .exact z
   .exact J5 h (sj (by
     intro y;have:(segs.drop (k+1)).length=0:=(by rw[y];rfl);rw[cM]at this;lia))
  .exact .inr ⟨e,h⟩
section
variable(segs:List Seg)
theorem NU:∀(n:Nat)(z:ag),z.length<=n->
  (∀k,k<segs.length->((∃x,x∈fg k (segs.drop k)/\fb segs z x)↔cC (segs.drop k) (aG 47 z)))/\
  (∀k,segs[k]?=TL .deep->(fb segs z (.deep k)↔∃s q,aG 47 z=s::q/\((q=[]/\k+1=segs.length)\/(q≠[]/\cC (segs.drop k) q))))/\
  (∀k as j,segs[k]?=TL (.one as)->j<=as.length->((∃x,x∈passing as k as.length j/\fb segs z x)↔∃s q,aG 47 z=s::q/\eS (as.drop j) s/\rm segs k q)):=by
 intro n
 induction n with
 |zero=>
  intro z hz;have:z=[]:=nA.mp (by lia);subst this
  have hD:∀k,segs[k]?=TL .deep->(fb segs [] (.deep k)↔∃s q,aG 47 []=s::q/\((q=[]/\k+1=segs.length)\/(q≠[]/\cC (segs.drop k) q))):=by
   intro k hk;show pathEnds segs (.deep k)=J1↔_;unfold pathEnds sA;simp only[ze,beq_iff_eq];constructor
   .intro h;exact⟨[],[],rfl,.inl ⟨rfl,h⟩⟩
   .rintro⟨s,q,e,h⟩;have e: [[]]=s::q:=e;cases e;rcases h with⟨_,h⟩|⟨h,_⟩
    .exact h
    .exact J5 rfl h
  have hA:∀k as j,segs[k]?=TL (.one as)->j<=as.length->((∃x,x∈passing as k as.length j/\fb segs [] x)↔∃s q,aG 47 []=s::q/\eS (as.drop j) s/\rm segs k q):=by
   intro k as j hk hj
   have one:∀i,fb segs [] (.atom k i)↔i=as.length/\k+1=segs.length:=fun i=>by
    show(sA segs (.atom k i)&&(k+1==segs.length))=J1↔_;rw[Jm hk];simp only[bD,beq_iff_eq]
   constructor
   .rintro⟨x,hx,ha⟩;obtain⟨i,h1,h2,rfl,h3⟩:=(oq _ _ _ _ _).mp hx;obtain⟨rfl,e⟩:=(one i).mp ha;refine⟨[],[],rfl,(uH as [] (as.length-j) j (by lia)).mpr ⟨as.length,hj,aF _,h3,?_⟩,.inl ⟨rfl,e⟩⟩;rw[kq (aF _)];rfl
   .rintro⟨s,q,e,hm,hr⟩;have e: [[]]=s::q:=e;cases e;rcases hr with⟨_,hr⟩|⟨hr,_⟩
    .obtain⟨i,h1,h2,h3,ho⟩:=(uH as [] (as.length-j) j (by lia)).mp hm
     have ei:i=as.length:=by
      by_cases z:i=as.length
      .exact z
      .obtain⟨a,ha⟩:∃a,as[i]?=TL a:=⟨_,bO (by lia)⟩;rw[gA ha]at ho;obtain⟨c,v,e,_⟩:=ho;cases e
     subst ei;exact⟨_,(oq _ _ _ _ _).mpr ⟨as.length,hj,by lia,rfl,h3⟩,(one _).mpr ⟨rfl,hr⟩⟩
    .exact J5 rfl hr
  refine⟨?_,hD,hA⟩
  suffices key:∀(r:List Seg) k,segs.drop k=r->r≠[]->((∃x,x∈fg k r/\fb segs [] x)↔cC r (aG 47 []))from
   fun k hk=>key _ k rfl (by intro y;have:(segs.drop k).length=0:=(by rw[y];rfl);rw[cM]at this;lia)
  intro r
  induction r with
  |nil=>intro k _ h;exact J5 rfl h
  |cons b r ih=>
   intro k hk _
   have hb:segs[k]?=TL b:=by
    have:=(jP.mp hk).1;exact this
   have hr:segs.drop (k+1)=r:=(jP.mp hk).2;have hlt:k<segs.length:=(aK.mp hb).1;cases b with
   |one as=>
    show(∃x,x∈passing as k as.length 0/\fb segs [] x)↔_;rw[hA k as 0 hb (bI _),kL];constructor
    .rintro⟨s,q,e,h1,h2⟩;exact⟨s,q,e,h1,by rw[<-hr];exact(ve hlt).mp h2⟩
    .rintro⟨s,q,e,h1,h2⟩;exact⟨s,q,e,h1,(ve hlt).mpr (by rw[hr];exact h2)⟩
   |deep=>
    rw[fg];cases r with
    |nil=>
     rw[si];constructor
     .intro _;exact eZ _ _
     .intro _;refine⟨.deep k,by simp,(hD k hb).mpr ⟨[],[],rfl,.inl ⟨rfl,?_⟩⟩⟩;have:(segs.drop (k+1)).length=0:=by rw[hr];rfl
      rw[cM]at this;lia
    |cons b' r'=>
     have ih':=ih (k+1) hr (by simp);rw[ib];constructor
     .rintro⟨x,hx,ha⟩;rcases bg.mp hx with rfl|hx
      .obtain⟨s,q,e,h⟩:=(hD k hb).mp ha;have e: [[]]=s::q:=e;cases e;rcases h with⟨_,h⟩|⟨h,_⟩
       .exfalso;have:(segs.drop (k+1)).length=(b'::r').length:=by rw[hr]
        rw[cM,bH]at this;lia
       .exact J5 rfl h
      .exact⟨[],_,rfl,ih'.mp ⟨x,hx,ha⟩⟩
     .rintro⟨u,v,e,h⟩;have e:([[]]:bj)=u++v:=e;cases u with
      |nil=>
       have:v=[[]]:=e.symm;subst this;obtain⟨x,hx,ha⟩:=ih'.mpr h;exact⟨x,bX _ hx,ha⟩
      |cons s u=>
       have:v=[]:=by
        cases u with
        |nil=>simp at e;exact e.2
        |cons t u=>simp at e
       subst this;exact J5 h (sj (by simp))
 |succ n ihn=>
  intro z hz;by_cases hz0:z.length<=n
  .exact ihn z hz0
  cases z with
  |nil=>simp at hz0
  |cons c z=>
   have hz':z.length<=n:=by simpa using hz
   obtain⟨ihS,ihD,ihA⟩:=ihn z hz'
   have hD:∀k,segs[k]?=TL .deep->(fb segs (c::z) (.deep k)↔∃s q,aG 47 (c::z)=s::q/\((q=[]/\k+1=segs.length)\/(q≠[]/\cC (segs.drop k) q))):=by
    intro k hk;have hlt:k<segs.length:=(aK.mp hk).1;by_cases hc:c=47
    .subst hc;rw[wR,oC]
     have e:mT segs (.deep k)=fg k (segs.drop k):=by
      unfold mT sA;simp
     rw[e,ihS k hlt];constructor
     .intro h;exact⟨[],_,rfl,.inr ⟨eZ _ _,h⟩⟩
     .rintro⟨s,q,e,h⟩;cases e;rcases h with⟨h,_⟩|⟨_,h⟩
      .exact J5 h (eZ _ _)
      .exact h
    .rw[wQ hc];have e:jt segs c (.deep k)=[.deep k]:=rfl;rw[e];cases q0:aG 47 z with
     |nil=>exact J5 q0 (eZ _ _)
     |cons y r=>
      rw[lU hc q0];have ih:=ihD k hk;rw[q0]at ih;constructor
      .rintro⟨x,hx,ha⟩;have:x=.deep k:=by simpa using hx
       subst this;obtain⟨s,q,e,h⟩:=ih.mp ha;cases e;exact⟨_,_,rfl,h⟩
      .rintro⟨s,q,e,h⟩;cases e;exact⟨.deep k,by simp,ih.mpr ⟨_,_,rfl,h⟩⟩
   have hB:∀k as i,segs[k]?=TL (.one as)->i<=as.length->(fb segs (c::z) (.atom k i)↔∃s q,aG 47 (c::z)=s::q/\tN (as.drop i) s/\rm segs k q):=by
    intro k as i hk hi;have hlt:k<segs.length:=(aK.mp hk).1;by_cases hc:c=47
    .subst hc;rw[wR,oC];have pe:sA segs (.atom k i)=(i==as.length):=Jm hk;by_cases hie:i=as.length
     .have e:mT segs (.atom k i)=fg (k+1) (segs.drop (k+1)):=by
       unfold mT;rw[pe];simp[hie]
      rw[e];by_cases hk1:k+1<segs.length
      .rw[ihS (k+1) hk1];constructor
       .intro h;refine⟨[],_,rfl,?_,.inr ⟨eZ _ _,h⟩⟩;rw[kq (by lia)];rfl
       .rintro⟨s,q,e,_,h⟩;cases e;exact(ve hlt).mp h
      .have e2:segs.drop (k+1)=[]:=kq (by lia);rw[e2];constructor
       .rintro⟨x,hx,_⟩;cases hx
       .rintro⟨s,q,e,_,h⟩;cases e;rcases h with⟨h,_⟩|⟨h1,h⟩
        .exact J5 h (eZ _ _)
        .rw[e2]at h;exact J5 h h1
     .have e:mT segs (.atom k i)=[]:=by
       unfold mT;rw[pe];simp[hie]
      rw[e];constructor
      .rintro⟨x,hx,_⟩;cases hx
      .rintro⟨s,q,e,ho,_⟩;cases e;obtain⟨a,ha⟩:∃a,as[i]?=TL a:=⟨_,bO (by lia)⟩;rw[gA ha]at ho;obtain⟨d,v,e,_⟩:=ho;cases e
    .rw[wQ hc];cases q0:aG 47 z with
     |nil=>exact J5 q0 (eZ _ _)
     |cons y r=>
      rw[lU hc q0];by_cases hie:i=as.length
      .have e:jt segs c (.atom k i)=[]:=Ja hk (hU (by lia));rw[e,kq (by lia)];constructor
       .rintro⟨x,hx,_⟩;cases hx
       .rintro⟨s,q,e,ho,_⟩;cases e;have ho:c::y=[]:=ho;cases ho
      .obtain⟨a,ha⟩:∃a,as[i]?=TL a:=⟨_,bO (by lia)⟩;rw[gA ha];by_cases hs:a=.star
       .subst hs;have e:jt segs c (.atom k i)=[.atom k i]++passing as k as.length (i+1):=Jd hk ha;rw[e];have ih:=ihA k as i hk hi;rw[q0,gA ha]at ih
        have mem:∀x,x∈ [Spot.atom k i]++passing as k as.length (i+1)↔x∈passing as k (as.length+1) i:=fun x=>by
         rw[show passing as k (as.length+1) i=Spot.atom k i::passing as k as.length (i+1)from Jp ha];simp
        have big:∀x,x∈passing as k (as.length+1) i↔x∈passing as k as.length i:=fun x=>by
         rw[oq,oq];constructor
         .rintro⟨m,h1,h2,rfl,h3⟩;refine⟨m,h1,?_,rfl,h3⟩;by_cases z:m<=i+as.length
          .exact z
          .have:=(aK.mp (h3 (m-1) (by lia) (by lia))).1;lia
         .rintro⟨m,h1,h2,rfl,h3⟩;exact⟨m,h1,by lia,rfl,h3⟩
        constructor
        .rintro⟨x,hx,hacc⟩;obtain⟨s,q,e,hm,hr⟩:=ih.mp ⟨x,(big x).mp ((mem x).mp hx),hacc⟩;cases e;exact⟨_,_,rfl,BY.mpr ⟨c,_,rfl,hm⟩,hr⟩
        .rintro⟨s,q,e,ho,hr⟩;cases e;obtain⟨d,v,e,hm⟩:=BY.mp ho;cases e;obtain⟨x,hx,hacc⟩:=ih.mpr ⟨_,_,rfl,hm,hr⟩;exact⟨x,(mem x).mpr ((big x).mpr hx),hacc⟩
       .have e:jt segs c (.atom k i)=if a.takes c=J1 then passing as k as.length (i+1)else []:=Jc hk ha hs
        rw[e];simp only[Jf hs];have ih:=ihA k as (i+1) hk (by lia);rw[q0]at ih;by_cases ht:a.takes c=J1
        .rw[J4 ht,ih];constructor
         .rintro⟨s,q,e,hm,hr⟩;cases e;exact⟨_,_,rfl,(mQ hs).mpr ⟨c,_,rfl,ht,hm⟩,hr⟩
         .rintro⟨s,q,e,ho,hr⟩;cases e;obtain⟨d,v,e,_,hm⟩:=(mQ hs).mp ho;cases e;exact⟨_,_,rfl,hm,hr⟩
        .rw[J3 ht];constructor
         .rintro⟨x,hx,_⟩;cases hx
         .rintro⟨s,q,e,ho,hr⟩;cases e;obtain⟨d,v,e,h,hm⟩:=(mQ hs).mp ho;cases e;exact J5 h ht
   have hA:∀k as j,segs[k]?=TL (.one as)->j<=as.length->((∃x,x∈passing as k as.length j/\fb segs (c::z) x)↔∃s q,aG 47 (c::z)=s::q/\eS (as.drop j) s/\rm segs k q):=by
    intro k as j hk hj;constructor
    .rintro⟨x,hx,ha⟩;obtain⟨i,h1,h2,rfl,h3⟩:=(oq _ _ _ _ _).mp hx
     have hi:i<=as.length:=by
      by_cases y:i=j
      .lia
      .have:=(aK.mp (h3 (i-1) (by lia) (by lia))).1;lia
     obtain⟨s,q,e,ho,hr⟩:=(hB k as i hk hi).mp ha;exact⟨s,q,e,(uH as s (as.length-j) j (by lia)).mpr ⟨i,h1,hi,h3,ho⟩,hr⟩
    .rintro⟨s,q,e,hm,hr⟩;obtain⟨i,h1,h2,h3,ho⟩:=(uH as s (as.length-j) j (by lia)).mp hm;exact⟨_,(oq _ _ _ _ _).mpr ⟨i,h1,by lia,rfl,h3⟩,(hB k as i hk h2).mpr ⟨s,q,e,ho,hr⟩⟩
   refine⟨?_,hD,hA⟩
   suffices key:∀(r:List Seg) k,segs.drop k=r->r≠[]->((∃x,x∈fg k r/\fb segs (c::z) x)↔cC r (aG 47 (c::z)))from
    fun k hk=>key _ k rfl (by intro y;have:(segs.drop k).length=0:=(by rw[y];rfl);rw[cM]at this;lia)
   intro r
   induction r with
   |nil=>intro k _ h;exact J5 rfl h
   |cons b r ih=>
    intro k hk _;have hb:segs[k]?=TL b:=(jP.mp hk).1;have hr:segs.drop (k+1)=r:=(jP.mp hk).2;have hlt:k<segs.length:=(aK.mp hb).1;cases b with
    |one as=>
     show(∃x,x∈passing as k as.length 0/\fb segs (c::z) x)↔_;rw[hA k as 0 hb (bI _),kL];constructor
     .rintro⟨s,q,e,h1,h2⟩;exact⟨s,q,e,h1,by rw[<-hr];exact(ve hlt).mp h2⟩
     .rintro⟨s,q,e,h1,h2⟩;exact⟨s,q,e,h1,(ve hlt).mpr (by rw[hr];exact h2)⟩
    |deep=>
     rw[fg];cases r with
     |nil=>
      rw[si];constructor
      .intro _;exact eZ _ _
      .intro _
       have hl:k+1=segs.length:=by
        have:(segs.drop (k+1)).length=0:=by rw[hr];rfl
        rw[cM]at this;lia
       refine⟨.deep k,by simp,(hD k hb).mpr ?_⟩;cases q0:aG 47 (c::z)with
       |nil=>exact J5 q0 (eZ _ _)
       |cons s q=>
        refine⟨s,q,rfl,?_⟩;by_cases hq:q=[]
        .exact .inl ⟨hq,hl⟩
        .exact .inr ⟨hq,by rw[hk];exact hq⟩
     |cons b' r'=>
      have ih':=ih (k+1) hr (by simp)
      have hl:k+1≠segs.length:=fun e=>by
       have:(segs.drop (k+1)).length=(b'::r').length:=by rw[hr]
       rw[cM,bH]at this;lia
      rw[ib];constructor
      .rintro⟨x,hx,ha⟩;rcases bg.mp hx with rfl|hx
       .obtain⟨s,q,e,h⟩:=(hD k hb).mp ha;rcases h with⟨_,h⟩|⟨_,h⟩
        .exact J5 h hl
        .rw[hk,ib]at h;obtain⟨u,v,e2,h⟩:=h;exact⟨s::u,v,by rw[e,e2];rfl,h⟩
       .exact⟨[],_,rfl,ih'.mp ⟨x,hx,ha⟩⟩
      .rintro⟨u,v,e,h⟩;cases u with
       |nil=>
        have e:aG 47 (c::z)=v:=e;rw[<-e]at h;obtain⟨x,hx,ha⟩:=ih'.mpr h;exact⟨x,bX _ hx,ha⟩
       |cons s u=>
        refine⟨.deep k,dI,(hD k hb).mpr ⟨s,u++v,e,.inr ⟨?_,?_⟩⟩⟩
        .intro y;have:v=[]:=(EE.mp y).2;subst this;exact sj (by simp) h
        .rw[hk,ib];exact⟨u,v,rfl,h⟩
theorem FE(h:segs≠[])(z:ag):(∃x,x∈fg 0 segs/\fb segs z x)↔cC segs (aG 47 z):=
 (NU segs z.length z (aF _)).1 0 (fG.mpr h)
end
def mz:ag->Nat->Prop
 | [],p=>p=3
 |c::z,p=>if c=47 then p=3/\mz z 0 else c≠0/\mz z (cU p c)
theorem Co{z:ag}{p:Nat}:mz (47::z) p↔p=3/\mz z 0:=by
 show(if(47:UInt8)=47 then _ else _)↔_;rw[J4 rfl]
theorem Cm{c:UInt8}{z:ag}{p:Nat}(h:c≠47):mz (c::z) p↔c≠0/\mz z (cU p c):=by
 show(if c=47 then _ else _)↔_;rw[J3 h]
def kP(u:ag):Nat:=u.foldl cU 0
theorem XO(u:ag)(c:UInt8):kP (u++[c])=cU (kP u) c:=by simp[kP]
theorem TH(c:UInt8):cU 3 c=3:=by
 unfold cU;rw[J3 (by lia)]
theorem LD:∀(u:ag),u.foldl cU 3=3
 | []=>rfl
 |c::u=>by rw[EJ,TH];exact LD u
theorem XN(u:ag):kP u=3↔u≠[]/\u≠[46]/\u≠[46,46]:=by
 match u with
 | []=>simp[kP]
 | [c]=>
  show cU 0 c=3↔_;unfold cU;by_cases h:c=46
  .simp[h]
  .simp[h]
 | [c,d]=>
  show cU (cU 0 c) d=3↔_;unfold cU;by_cases h:c=46
  .by_cases h2:d=46
   .simp[h,h2]
   .simp[h,h2]
  .simp[h]
 |c::d::e::u=>
  have:kP (c::d::e::u)=3:=by
   show u.foldl cU (cU (cU (cU 0 c) d) e)=3
   have e3:cU (cU (cU 0 c) d) e=3:=by
    unfold cU;by_cases h:c=46
    .by_cases h2:d=46
     .simp[h,h2]
     .simp[h,h2]
    .simp[h]
   rw[e3];exact LD u
  simp[this]
theorem Jn{u:ag}(h:pE u):gC u=J1↔kP u=3:=by
 rw[XN];unfold gC
 have h0:u.contains 0=false:=by
  rw[tj,decide_eq_false_iff_not];intro z;exact(h 0 z).1 rfl
 have h47:u.contains 47=false:=by
  rw[tj,decide_eq_false_iff_not];intro z;exact(h 47 z).2 rfl
 rw[h0,h47];simp only[bD,vK,zD,bne_iff_ne,eJ,true_and]
theorem yi:∀(z u:ag),pE u->(mz z (kP u)↔(aG 47 (u++z)).all gC=J1)
 | [],u,h=>by
  rw[cD,kc (sD h)];show kP u=3↔_;rw[<-Jn h];simp
 |c::z,u,h=>by
  by_cases hc:c=47
  .subst hc;rw[Co,ng,kc (sD h),<-Jn h];have ih:=yi z [] (fun d hd=>by simp at hd);rw[show kP []=0 from rfl,nD]at ih;rw[ih];simp
  .rw[Cm hc];by_cases h0:c=0
   .subst h0;constructor
    .rintro⟨q,_⟩;exact J5 rfl q
    .intro q;exfalso
     have mem:∀(u:ag),(47:UInt8)∉u->∃y r,aG 47 (u++0::z)=y::r/\(0:UInt8)∈y:=by
      intro u
      induction u with
      |nil=>
       intro _;cases e:aG 47 z with
       |nil=>exact J5 e (eZ _ _)
       |cons y r=>exact⟨0::y,r,lU (by decide) e,by simp⟩
      |cons d u ih=>
       intro hd;obtain⟨y,r,e,hy⟩:=ih (fun x=>hd (bX _ x));exact⟨d::y,r,lU (fun x=>hd (by simp[x])) e,bX _ hy⟩
     obtain⟨y,r,e,hy⟩:=mem u (sD h);rw[e]at q;have:=(Hk (gG.mp q y (by simp))).2.1 0 hy;exact this rfl
   .have hp:pE (u++[c]):=fun d hd=>by
     rcases cn.mp hd with x|x
     .exact h d x
     .have:d=c:=by simpa using x
      rw[this];exact⟨h0,hc⟩
    have ih:=yi z (u++[c]) hp;rw[XO]at ih;rw[ih];simp[h0]
section
variable(a b:List Seg)
def ki(z:ag)(s t:Spot)(p:Nat):Prop:=fb a z s/\fb b z t/\mz z p
theorem FD{c:UInt8}{z:ag}{s t:Spot}{p:Nat}{x:ag}:ki a b (c::z) s t p↔c≠0/\∃y,y∈kH a b c ⟨s,t,p,x⟩/\ki a b z y.one y.two y.part:=by
 unfold ki kH;by_cases hc:c=47
 .subst hc;rw[wR,wR,Co];simp only[if_true];constructor
  .rintro⟨⟨s',h1,h2⟩,⟨t',h3,h4⟩,rfl,h5⟩;refine⟨by decide,⟨s',t',0,47::x⟩,?_,h2,h4,h5⟩;simp only[if_true];exact eQ.mpr ⟨s',h1,bS.mpr ⟨t',h3,rfl⟩⟩
  .rintro⟨_,y,hy,h2,h4,h5⟩;by_cases hp:p=3
   .simp only[hp,if_true]at hy;obtain⟨s',h1,hy⟩:=eQ.mp hy;obtain⟨t',h3,rfl⟩:=bS.mp hy;exact⟨⟨s',h1,h2⟩,⟨t',h3,h4⟩,hp,h5⟩
   .simp only[hp,if_false]at hy;cases hy
 .rw[wQ hc,wQ hc,Cm hc];simp only[hc,if_false];constructor
  .rintro⟨⟨s',h1,h2⟩,⟨t',h3,h4⟩,h0,h5⟩;exact⟨h0,⟨s',t',cU p c,c::x⟩,eQ.mpr ⟨s',h1,bS.mpr ⟨t',h3,rfl⟩⟩,h2,h4,h5⟩
  .rintro⟨h0,y,hy,h2,h4,h5⟩;obtain⟨s',h1,hy⟩:=eQ.mp hy;obtain⟨t',h3,rfl⟩:=bS.mp hy;exact⟨⟨s',h1,h2⟩,⟨t',h3,h4⟩,h0,h5⟩
theorem AX{c:UInt8}{w y:Way}(h:y∈kH a b c w):y.text=c::w.text:=by
 unfold kH at h;by_cases hc:c=47
 .rw[J4 hc]at h;by_cases hp:w.part=3
  .rw[J4 hp]at h;obtain⟨s',h1,h⟩:=eQ.mp h;obtain⟨t',h3,rfl⟩:=bS.mp h;rfl
  .rw[J3 hp]at h;cases h
 .rw[J3 hc]at h;obtain⟨s',h1,h⟩:=eQ.mp h;obtain⟨t',h3,rfl⟩:=bS.mp h;rfl
def Both(x:ag):Prop:=∃s t,s∈fg 0 a/\t∈fg 0 b/\ki a b x s t 0
theorem Oq(ha:a≠[])(hb:b≠[])(x:ag):Both a b x↔cC a (aG 47 x)/\cC b (aG 47 x)/\(aG 47 x).all gC=true:=by
 have hz:=yi x [] (fun d hd=>by simp at hd);rw[show kP []=0 from rfl,nD]at hz;rw[<-FE a ha,<-FE b hb,<-hz];constructor
 .rintro⟨s,t,h1,h2,h3,h4,h5⟩;exact⟨⟨s,h1,h3⟩,⟨t,h2,h4⟩,h5⟩
 .rintro⟨⟨s,h1,h3⟩,⟨t,h2,h4⟩,h5⟩;exact⟨s,t,h1,h2,h3,h4,h5⟩
end
def eD:ag->ag->Prop
 | [],_=>True
 |_::_,[]=>False
 |c::x,d::y=>c<d\/(c=d/\eD x y)
theorem qb:∀x:ag,eD x x
 | []=>trivial
 |c::x=>.inr ⟨rfl,qb x⟩
theorem Ij:∀{x y z:ag},eD x y->eD y z->eD x z
 | [],_,_,_,_=>trivial
 |c::x,[],_,h,_=>h.elim
 |c::x,d::y,[],_,h=>h.elim
 |c::x,d::y,e::z,h1,h2=>by
  rcases h1 with h1|⟨rfl,h1⟩
  .rcases h2 with h2|⟨rfl,h2⟩
   .exact .inl (Fx h1 h2)
   .exact .inl h1
  .rcases h2 with h2|⟨rfl,h2⟩
   .exact .inl h2
   .exact .inr ⟨rfl,Ij h1 h2⟩
theorem Ii:∀{x y:ag}(z:ag),x.length=y.length->eD x y->eD (x++z) (y++z)
 | [],[],z,_,_=>qb z
 | [],d::y,z,h,_=>by simp at h
 |c::x,[],z,h,_=>by simp at h
 |c::x,d::y,z,h,q=>by
  rcases q with q|⟨rfl,q⟩
  .exact .inl q
  .exact .inr ⟨rfl,Ii z (by simpa using h) q⟩
theorem Bo:∀{x y:ag}(u v:ag),x.length=y.length->eD x y->x≠y->eD (x++u) (y++v)
 | [],[],_,_,_,_,h=>J5 rfl h
 | [],d::y,_,_,h,_,_=>by simp at h
 |c::x,[],_,_,h,_,_=>by simp at h
 |c::x,d::y,u,v,h,q,n=>by
  rcases q with q|⟨rfl,q⟩
  .exact .inl q
  .exact .inr ⟨rfl,Bo u v (by simpa using h) q fun e=>n (by rw[e])⟩
theorem Bn:∀(x:ag){c d:UInt8},c<=d->eD (x++[c]) (x++[d])
 | [],c,d,h=>by
  by_cases e:c=d
  .exact .inr ⟨e,trivial⟩
  .exact .inl (UInt8.lt_of_le_of_ne h e)
 |b::x,c,d,h=>.inr ⟨rfl,Bn x h⟩
def js(x y:ag):Prop:=x.length<y.length\/(x.length=y.length/\eD x y)
theorem QM(x:ag):js x x:=.inr ⟨rfl,qb x⟩
theorem xJ{x y z:ag}(h1:js x y)(h2:js y z):js x z:=by
 rcases h1 with h1|⟨h1,q1⟩
 .rcases h2 with h2|⟨h2,_⟩
  .exact .inl (by lia)
  .exact .inl (by lia)
 .rcases h2 with h2|⟨h2,q2⟩
  .exact .inl (by lia)
  .exact .inr ⟨by lia,Ij q1 q2⟩
theorem rZ{x y:ag}(h:js x y):x.length<=y.length:=by
 rcases h with h|⟨h,_⟩<;>lia
theorem Ie(c:UInt8):c∈letters↔c≠0:=by
 unfold letters;rw[bS];constructor
 .rintro⟨n,hn,rfl⟩ e;have hn:n<255:=by simpa using hn
  have:=congrArg UInt8.toNat e;rw[Fy (by show n+1<256;lia)]at this;have this:n+1=0:=this;lia
 .intro h;have h1:=kT c;have h2:c.toNat≠0:=fun e=>h (iW.mpr e);refine⟨c.toNat-1,by simp;lia,?_⟩;rw[show c.toNat-1+1=c.toNat by lia];exact UInt8.ofNat_toNat
theorem QY:letters.Pairwise (fun c d=>c<=d):=by
 unfold letters;rw[lh];refine tf ?_ (wa (n:=255));intro m n hm hn h;have hm:m<255:=by simpa using hm
 have hn:n<255:=by simpa using hn
 rw[tU,Fy (by show m+1<256;lia),Fy (by show n+1<256;lia)];lia
theorem Ge(x:Way)(r:List Way):(jn r=[]/\jn (x::r)=[[x]])\/(∃q,jn r=[]::q/\jn (x::r)=[[x]])\/∃y g q,jn r=(y::g)::q/\jn (x::r)=if x.text=y.text then(x::y::g)::q else [x]::(y::g)::q:=by
 rw[jn];cases e:jn r with
 |nil=>exact .inl ⟨rfl,rfl⟩
 |cons h q=>
  cases h with
  |nil=>exact .inr (.inl ⟨q,rfl,rfl⟩)
  |cons y g=>exact .inr (.inr ⟨y,g,q,rfl,rfl⟩)
theorem xg:∀l:List Way,(jn l).flatten=l/\(∀g∈jn l,g≠[])/\∀g∈jn l,∀x∈g,∀y∈g,x.text=y.text
 | []=>⟨rfl,fun g hg=>(by cases hg),fun g hg=>(by cases hg)⟩
 |x::r=>by
  obtain⟨h1,h2,h3⟩:=xg r;rcases Ge x r with⟨e,e'⟩|⟨q,e,e'⟩|⟨y,g,q,e,e'⟩
  .rw[e]at h1;rw[e'];have hr:r=[]:=h1.symm;subst hr;refine⟨rfl,fun g hg=>?_,fun g hg a ha b hb=>?_⟩
   .have:g=[x]:=by simpa using hg
    rw[this];simp
   .have:g=[x]:=by simpa using hg
    subst this;have e1:a=x:=by simpa using ha
    have e2:b=x:=by simpa using hb
    rw[e1,e2]
  .exact J5 rfl (h2 [] (by rw[e];simp))
  .rw[e]at h1 h2 h3;rw[e'];by_cases c:x.text=y.text
   .rw[J4 c];refine⟨by rw[<-h1];rfl,fun g' hg=>?_,fun g' hg a ha b hb=>?_⟩
    .rcases bg.mp hg with rfl|hg
     .simp
     .exact h2 g' (bX _ hg)
    .rcases bg.mp hg with rfl|hg
     .have key:∀z∈x::y::g,z.text=y.text:=fun z hz=>by
       rcases bg.mp hz with rfl|hz
       .exact c
       .exact h3 _ (by simp) z hz y (by simp)
      rw[key a ha,key b hb]
     .exact h3 g' (bX _ hg) a ha b hb
   .rw[J3 c];refine⟨by rw[<-h1];rfl,fun g' hg=>?_,fun g' hg a ha b hb=>?_⟩
    .rcases bg.mp hg with rfl|hg
     .simp
     .exact h2 g' hg
    .rcases bg.mp hg with rfl|hg
     .have e1:a=x:=by simpa using ha
      have e2:b=x:=by simpa using hb
      rw[e1,e2]
     .exact h3 g' hg a ha b hb
def tx(w:Way):ag:=w.text.reverse
theorem Gf{n:Nat}:∀(l:List Way),(∀w∈l,w.text.length=n)->l.Pairwise (fun w v=>eD (tx w) (tx v))->(jn l).Pairwise fun g h=>∀x∈g,∀y∈h,eD (tx x) (tx y)/\x.text≠y.text
 | [],_,_=>.nil
 |x::r,hn,hl=>by
  obtain⟨hx,hr⟩:=mv.mp hl;have ih:=Gf r (fun w hw=>hn w (bX _ hw)) hr;obtain⟨f1,f2,f3⟩:=xg r
  have inr:∀g∈jn r,∀y∈g,y∈r:=fun g hg y hy=>by
   rw[<-f1];exact zG.mpr ⟨g,hg,hy⟩
  rcases Ge x r with⟨e,e'⟩|⟨q,e,e'⟩|⟨y,g,q,e,e'⟩
  .rw[e'];simp
  .exact J5 rfl (f2 [] (by rw[e];simp))
  .rw[e'];rw[e]at ih inr f3;obtain⟨i1,i2⟩:=mv.mp ih;by_cases c:x.text=y.text
   .rw[J4 c];refine mv.mpr ⟨fun h hh v hv w hw=>?_,i2⟩;rcases bg.mp hv with rfl|hv
    .refine⟨hx w (inr h (bX _ hh) w hw),?_⟩;rw[c];exact(i1 h hh y (by simp) w hw).2
    .exact i1 h hh v hv w hw
   .rw[J3 c];refine mv.mpr ⟨fun h hh v hv w hw=>?_,ih⟩;have ev:v=x:=by simpa using hv
    subst ev;refine⟨hx w (inr h hh w hw),fun e0=>?_⟩;rcases bg.mp hh with rfl|hh'
    .exact c (e0.trans (f3 _ (by simp) w hw y (by simp)))
    .
     have l1:eD (tx v) (tx y):=hx y (inr (y::g) (by simp) y (by simp));obtain⟨l2,n2⟩:=i1 h hh' y (by simp) w hw;have e1:tx v=tx w:=by unfold tx;rw[e0]
     rw[e1]at l1;apply n2
     have anti:∀{p q:ag},eD p q->eD q p->p.length=q.length->p=q:=by
      intro p
      induction p with
      |nil=>
       intro q _ _ hl;exact(nA.mp hl.symm).symm
      |cons c p ihp=>
       intro q h1 h2 hl;cases q with
       |nil=>simp at hl
       |cons d q=>
        rcases h1 with h1|⟨rfl,h1⟩
        .rcases h2 with h2|⟨rfl,_⟩
         .exact J5 (Fx h1 h2) (tV _)
         .exact J5 h1 (tV _)
        .rcases h2 with h2|⟨_,h2⟩
         .exact J5 h2 (tV _)
         .rw[ihp h1 h2 (by simpa using hl)]
     have hy:=hn y (bX _ (inr (y::g) (by simp) y (by simp)));have hw':=hn w (bX _ (inr h hh w hw));have:=anti l2 l1 (by unfold tx;rw[vY,vY,hy,hw']);unfold tx at this;exact List.reverse_inj.mp this
section
variable(a b:List Seg)
theorem IA{l:List Way}{y:Way}:y∈hW a b l↔∃w,w∈l/\∃c,c≠0/\y∈kH a b c w:=by
 unfold hW;obtain⟨f1,_,_⟩:=xg l;constructor
 .intro h;obtain⟨g,hg,h⟩:=eQ.mp h;obtain⟨c,hc,h⟩:=eQ.mp h;obtain⟨w,hw,h⟩:=eQ.mp h;exact⟨w,by rw[<-f1];exact zG.mpr ⟨g,hg,hw⟩,c,(Ie c).mp hc,h⟩
 .rintro⟨w,hw,c,hc,h⟩;rw[<-f1]at hw;obtain⟨g,hg,hw⟩:=zG.mp hw;exact eQ.mpr ⟨g,hg,eQ.mpr ⟨c,(Ie c).mpr hc,eQ.mpr ⟨w,hw,h⟩⟩⟩
theorem NW{l:List Way}{n:Nat}(hn:∀w∈l,w.text.length=n)(hl:l.Pairwise fun w v=>eD (tx w) (tx v)):(hW a b l).Pairwise fun w v=>eD (tx w) (tx v):=by
 unfold hW;obtain⟨f1,f2,f3⟩:=xg l
 have inl:∀g∈jn l,∀y∈g,y∈l:=fun g hg y hy=>by
  rw[<-f1];exact zG.mpr ⟨g,hg,hy⟩
 have ft:∀{c:UInt8}{w y:Way},y∈kH a b c w->tx y=tx w++[c]:=fun{c w y} h=>by
  unfold tx;rw[AX a b h,List.reverse_cons]
 rw[Nk];refine⟨fun g hg=>?_,(Gf l hn hl).imp_of_mem ?_⟩
 .rw[Nk];refine⟨fun c hc=>?_,QY.imp_of_mem ?_⟩
  .
   have all:∀x∈g.flatMap (kH a b c),∀y∈g.flatMap (kH a b c),tx x=tx y:=fun x hx y hy=>by
    obtain⟨w,hw,hx⟩:=eQ.mp hx;obtain⟨v,hv,hy⟩:=eQ.mp hy;rw[ft hx,ft hy];unfold tx;rw[f3 g hg w hw v hv]
   refine Nl fun x hx y hy=>?_;rw[all x hx y hy];exact qb _
  .intro c d hc hd hcd x hx y hy;obtain⟨w,hw,hx⟩:=eQ.mp hx;obtain⟨v,hv,hy⟩:=eQ.mp hy;rw[ft hx,ft hy];have:tx w=tx v:=by unfold tx;rw[f3 g hg w hw v hv]
   rw[this];exact Bn _ hcd
 .intro g h hg hh hgh x hx y hy;obtain⟨c,hc,hx⟩:=eQ.mp hx;obtain⟨w,hw,hx⟩:=eQ.mp hx;obtain⟨d,hd,hy⟩:=eQ.mp hy;obtain⟨v,hv,hy⟩:=eQ.mp hy;obtain⟨q1,q2⟩:=hgh w hw v hv;rw[ft hx,ft hy];refine Bo [c] [d] ?_ q1 fun e=>q2 (List.reverse_inj.mp e);unfold tx;rw[vY,vY,hn w (inl g hg w hw),hn v (inl h hh v hv)]
end
structure iN(segs:List Seg):Prop where
 ne:segs≠[]
 len:segs.length<=14
 ats:∀(k:Nat)(as:List bc),segs[k]?=TL (.one as)->as.length<=24
def lD(segs:List Seg):Spot->Prop
 |.deep k=>segs[k]?=TL .deep
 |.atom k j=>∃as,segs[k]?=TL (.one as)/\j<=as.length
theorem Cp{segs:List Seg}{k:Nat}{as:List bc}(hk:segs[k]?=TL (.one as)){f j:Nat}(hj:j<=as.length){x:Spot}(h:x∈passing as k f j):lD segs x:=by
 obtain⟨i,h1,h2,rfl,h3⟩:=(oq _ _ _ _ _).mp h;refine⟨as,hk,?_⟩;by_cases e:i=j
 .lia
 .have:=(aK.mp (h3 (i-1) (by lia) (by lia))).1;lia
theorem tY{segs:List Seg}:∀(r:List Seg)(k:Nat),segs.drop k=r->∀x,x∈fg k r->lD segs x
 | [],k,_,x,h=>by cases h
 |.deep::r,k,hk,x,h=>by
  have hb:segs[k]?=TL .deep:=(jP.mp hk).1;have hr:segs.drop (k+1)=r:=(jP.mp hk).2;rcases bg.mp h with rfl|h
  .exact hb
  .exact tY r (k+1) hr x h
 |.one as::r,k,hk,x,h=>Cp (jP.mp hk).1 (bI _) h
theorem Jb{segs:List Seg}{c:UInt8}{x y:Spot}(hx:lD segs x)(h:y∈jt segs c x):lD segs y:=by
 cases x with
 |deep k=>
  have:y=.deep k:=by simpa [jt]using h
  rw[this];exact hx
 |atom k j=>
  obtain⟨as,hk,hj⟩:=hx;cases e:as[j]? with
  |none=>rw[Ja hk e]at h;cases h
  |some a=>
   have hlt:=(aK.mp e).1;by_cases hs:a=.star
   .subst hs;rw[Jd hk e]at h;rcases cn.mp h with h|h
    .have:y=.atom k j:=by simpa using h
     rw[this];exact⟨as,hk,hj⟩
    .exact Cp hk (by lia) h
   .rw[Jc hk e hs]at h;by_cases ht:a.takes c=J1
    .rw[J4 ht]at h;exact Cp hk (by lia) h
    .rw[J3 ht]at h;cases h
theorem Je{segs:List Seg}{x y:Spot}(h:y∈mT segs x):lD segs y:=by
 unfold mT at h;by_cases c:sA segs x=J2
 .rw[J4 c]at h;cases h
 .rw[J3 c]at h;cases x with
  |deep k=>exact tY _ k rfl y h
  |atom k j=>exact tY _ (k+1) rfl y h
theorem yC{segs:List Seg}(S:iN segs){x:Spot}(h:lD segs x):x.number<SPOTS:=by
 cases x with
 |deep k=>
  have:=(aK.mp (show segs[k]?=TL .deep from h)).1;have:=S.len;show 26*k+25<364;lia
 |atom k j=>
  obtain⟨as,hk,hj⟩:=h;have h1:=(aK.mp hk).1;have h2:=S.len;have h3:=S.ats k as hk;show 26*k+j<364;lia
theorem LB{segs:List Seg}(S:iN segs){x y:Spot}(hx:lD segs x)(hy:lD segs y)(e:x.number=y.number):x=y:=by
 cases x with
 |deep k=>
  cases y with
  |deep k'=>
   have e:26*k+25=26*k'+25:=e;rw[show k=k' by lia]
  |atom k' j'=>
   obtain⟨as,hk,hj⟩:=hy;have h3:=S.ats k' as hk;have e:26*k+25=26*k'+j':=e;lia
 |atom k j=>
  obtain⟨as,hk,hj⟩:=hx;have h3:=S.ats k as hk;cases y with
  |deep k'=>
   have e:26*k+j=26*k'+25:=e;lia
  |atom k' j'=>
   obtain⟨as',hk',hj'⟩:=hy;have h3':=S.ats k' as' hk';have e:26*k+j=26*k'+j':=e;have e1:k=k':=by lia
   have e2:j=j':=by lia
   rw[e1,e2]
section
variable(a b:List Seg)
structure lG(w:Way):Prop where
 one:lD a w.one
 two:lD b w.two
 part:w.part<4
theorem TF(p:Nat)(c:UInt8):cU p c<4:=by
 unfold cU;by_cases h:c=46/\p<2
 .rw[J4 h];lia
 .rw[J3 h];lia
theorem PY{c:UInt8}{w y:Way}(hw:lG a b w)(h:y∈kH a b c w):lG a b y:=by
 unfold kH at h;by_cases hc:c=47
 .rw[J4 hc]at h;by_cases hp:w.part=3
  .rw[J4 hp]at h;obtain⟨s',h1,h⟩:=eQ.mp h;obtain⟨t',h3,rfl⟩:=bS.mp h;exact⟨Je h1,Je h3,by show 0<4;lia⟩
  .rw[J3 hp]at h;cases h
 .rw[J3 hc]at h;obtain⟨s',h1,h⟩:=eQ.mp h;obtain⟨t',h3,rfl⟩:=bS.mp h;exact⟨Jb hw.one h1,Jb hw.two h3,TF _ _⟩
def mE:Nat:=SPOTS*SPOTS*4
variable{a b}
theorem yQ(Sa:iN a)(Sb:iN b){w:Way}(h:lG a b w):w.number<mE:=by
 have h1:=yC Sa h.one;have h2:=yC Sb h.two;have h3:=h.part;unfold Way.number mE;have h1:w.one.number<364:=h1;have h2:w.two.number<364:=h2;show(w.one.number*364+w.two.number)*4+w.part<364*364*4;lia
theorem Ed(Sa:iN a)(Sb:iN b){w v:Way}(hw:lG a b w)(hv:lG a b v)(e:w.number=v.number):w.one=v.one/\w.two=v.two/\w.part=v.part:=by
 have h2:w.two.number<364:=yC Sb hw.two;have h2':v.two.number<364:=yC Sb hv.two;have h3:=hw.part;have h3':=hv.part;have e:(w.one.number*364+w.two.number)*4+w.part=(v.one.number*364+v.two.number)*4+v.part:=e;have e1:w.one.number=v.one.number:=by lia
 have e2:w.two.number=v.two.number:=by lia
 exact⟨LB Sa hw.one hv.one e1,LB Sb hw.two hv.two e2,by lia⟩
theorem Hf{seen:Array Bool}{n m:Nat}(hn:n<seen.size):(seen.setIfInBounds n J1).getD m J1=J1↔seen.getD m J1=J1\/m=n:=by
 rw[oK,oK,Array.getElem?_setIfInBounds];by_cases e:n=m
 .subst e;rw[J4 rfl,J4 hn];simp
 .rw[J3 e];constructor
  .intro h;exact .inl h
  .rintro(h|h)
   .exact h
   .exact J5 h.symm e
theorem yO{R:Way->Way->Prop}(hR:∀x,R x x):∀(l:List Way)(seen:Array Bool),seen.size=mE->(∀x∈l,x.number<mE)->l.Pairwise R->
  (gg l seen).2.size=mE/\(gg l seen).1.Sublist l/\(∀n,(gg l seen).2.getD n J1=J1↔seen.getD n J1=J1\/∃y,y∈(gg l seen).1/\y.number=n)/\
  (∀x,x∈l->seen.getD x.number J1=J1\/∃y,y∈(gg l seen).1/\y.number=x.number/\R y x)
 | [],seen,hs,_,_=>⟨hs,List.Sublist.refl _,fun n=>by simp[gg],fun x hx=>by cases hx⟩
 |x::r,seen,hs,hl,hp=>by
  obtain⟨p1,p2⟩:=mv.mp hp;have hxs:=hl x (by simp);by_cases c:seen.getD x.number J1=J1
  .have e:gg (x::r) seen=gg r seen:=by rw[gg,J4 c]
   rw[e];obtain⟨h1,h2,h3,h4⟩:=yO hR r seen hs (fun y hy=>hl y (bX _ hy)) p2;refine⟨h1,h2.trans (Nn _ _),h3,fun y hy=>?_⟩;rcases bg.mp hy with rfl|hy
   .exact .inl c
   .exact h4 y hy
  .have e:gg (x::r) seen=(x::(gg r (seen.setIfInBounds x.number J1)).1,(gg r (seen.setIfInBounds x.number J1)).2):=by rw[gg,J3 c]
   rw[e];obtain⟨h1,h2,h3,h4⟩:=yO hR r (seen.setIfInBounds x.number J1) (by rw[Array.size_setIfInBounds];exact hs) (fun y hy=>hl y (bX _ hy)) p2;have hxn:x.number<seen.size:=by rw[hs];exact hxs
   refine⟨h1,h2.cons_cons x,fun n=>?_,fun y hy=>?_⟩
   .show(gg r (seen.setIfInBounds x.number J1)).2.getD n J1=J1↔_;rw[h3 n,Hf hxn];constructor
    .rintro((h|h)|⟨y,hy,e⟩)
     .exact .inl h
     .exact .inr ⟨x,dI,h.symm⟩
     .exact .inr ⟨y,bX _ hy,e⟩
    .rintro(h|⟨y,hy,e'⟩)
     .exact .inl (.inl h)
     .rcases bg.mp hy with rfl|hy
      .exact .inl (.inr e'.symm)
      .exact .inr ⟨y,hy,e'⟩
   .rcases bg.mp hy with rfl|hy
    .exact .inr ⟨y,dI,rfl,hR y⟩
    .rcases h4 y hy with h|⟨z,hz,e,q⟩
     .rcases(Hf hxn).mp h with h|h
      .exact .inl h
      .exact .inr ⟨x,dI,h.symm,p1 y hy⟩
     .exact .inr ⟨z,bX _ hz,e,q⟩
def sW(a b:List Seg)(w:Way):Prop:=∀z,ki a b z w.one w.two w.part->Both a b (tx w++z)
structure vS(a b:List Seg)(i:Nat)(l:List Way)(seen:Array Bool):Prop where
 size:seen.size=mE
 len:∀w∈l,w.text.length=i
 ok:∀w∈l,lG a b w
 come:∀w∈l,sW a b w
 sorted:l.Pairwise fun w v=>eD (tx w) (tx v)
 old:∀n,n<mE->seen.getD n J1=J1->∃w,w.number=n/\lG a b w/\sW a b w/\(tx w).length<=i
 all:∀x,Both a b x->∃x',Both a b x'/\js x' x/\∃w,w∈l/\∃z,x'=tx w++z/\ki a b z w.one w.two w.part
theorem uz{w:Way}:isEnd a b w=J1↔ki a b [] w.one w.two w.part:=by
 unfold isEnd ki;simp only[bD,beq_iff_eq];constructor
 .rintro⟨h1,h2,h3⟩;exact⟨h2,h3,h1⟩
 .rintro⟨h2,h3,h1⟩;exact⟨h1,h2,h3⟩
theorem kg(w:Way):(tx w).length=w.text.length:=by unfold tx;rw[vY]
theorem QZ(Sa:iN a)(Sb:iN b){i:Nat}{l:List Way}{seen:Array Bool}(L:vS a b i l seen)(hn:∀w∈l,isEnd a b w≠J1):
  vS a b (i+1) (gg (hW a b l) seen).1 (gg (hW a b l) seen).2:=by
 have lt:∀y∈hW a b l,∃w,w∈l/\∃c,c≠0/\y∈kH a b c w:=fun y hy=>(IA a b).mp hy
 have ok:∀y∈hW a b l,lG a b y:=fun y hy=>by
  obtain⟨w,hw,c,_,h⟩:=lt y hy;exact PY a b (L.ok w hw) h
 have txy:∀{w y:Way}{c:UInt8},y∈kH a b c w->tx y=tx w++[c]:=fun{w y c} h=>by
  unfold tx;rw[AX a b h,List.reverse_cons]
 have come:∀y∈hW a b l,sW a b y:=fun y hy z hz=>by
  obtain⟨w,hw,c,h0,h⟩:=lt y hy;have:=L.come w hw (c::z) ((FD a b (x:=w.text)).mpr ⟨h0,y,h,hz⟩);rw[txy h,dt];exact this
 have len:∀y∈hW a b l,y.text.length=i+1:=fun y hy=>by
  obtain⟨w,hw,c,h0,h⟩:=lt y hy;rw[AX a b h,bH,L.len w hw]
 have sorted:=NW a b L.len L.sorted;obtain⟨u1,u2,u3,u4⟩:=yO (R:=fun w v=>eD (tx w) (tx v)) (fun x=>qb _) (hW a b l) seen L.size (fun y hy=>yQ Sa Sb (ok y hy)) sorted;have sub:∀y∈(gg (hW a b l) seen).1,y∈hW a b l:=fun y hy=>u2.subset hy
 have old:∀n,n<mE->(gg (hW a b l) seen).2.getD n J1=J1->∃w,w.number=n/\lG a b w/\sW a b w/\(tx w).length<=i+1:=fun n hn' h=>by
  rcases(u3 n).mp h with h|⟨y,hy,e⟩
  .obtain⟨w,h1,h2,h3,h4⟩:=L.old n hn' h;exact⟨w,h1,h2,h3,by lia⟩
  .have hy:=sub y hy;exact⟨y,e,ok y hy,come y hy,by rw[kg,len y hy];lia⟩
 refine⟨u1,fun y hy=>len y (sub y hy),fun y hy=>ok y (sub y hy),fun y hy=>come y (sub y hy),sorted.sublist u2,old,?_⟩
 suffices key:∀(n:Nat)(x:ag),x.length<=n->Both a b x->∃x',Both a b x'/\js x' x/\∃w,w∈(gg (hW a b l) seen).1/\∃z,x'=tx w++z/\ki a b z w.one w.two w.part from
  fun x hx=>key x.length x (aF _) hx
 intro n
 induction n with
 |zero=>
  intro x hx hb;obtain⟨x',b1,b2,w,hw,z,e,hz⟩:=L.all x hb;have:=rZ b2
  have:z.length=0:=by
   have:x'.length=(tx w).length+z.length:=by rw[e,bw]
   lia
  have:z=[]:=nA.mp this;subst this;exact J5 (uz.mpr hz) (hn w hw)
 |succ n ih=>
  intro x hx hb;obtain⟨x',b1,b2,w,hw,z,e,hz⟩:=L.all x hb;cases z with
  |nil=>exact J5 (uz.mpr hz) (hn w hw)
  |cons c z=>
   obtain⟨h0,y,hy,hz'⟩:=(FD a b (x:=w.text)).mp hz;have hyl:y∈hW a b l:=(IA a b).mpr ⟨w,hw,c,h0,hy⟩;have e':x'=tx y++z:=by rw[txy hy,e,dt];rfl
   rcases u4 y hyl with h|⟨v,hv,e1,q⟩
   .
    obtain⟨v,h1,h2,h3,h4⟩:=L.old y.number (yQ Sa Sb (ok y hyl)) h;obtain⟨i1,i2,i3⟩:=Ed Sa Sb h2 (ok y hyl) h1;have hz2:ki a b z v.one v.two v.part:=by rw[i1,i2,i3];exact hz'
    have b3:=h3 z hz2
    have hl2:(tx v++z).length<x'.length:=by
     rw[e',bw,bw,kg y,len y hyl];lia
    have hlx:=rZ b2;obtain⟨x3,c1,c2,c3⟩:=ih (tx v++z) (by lia) b3;exact⟨x3,c1,xJ c2 (xJ (.inl hl2) b2),c3⟩
   .obtain⟨i1,i2,i3⟩:=Ed Sa Sb (ok v (sub v hv)) (ok y hyl) e1;have hz2:ki a b z v.one v.two v.part:=by rw[i1,i2,i3];exact hz'
    have b3:=come v (sub v hv) z hz2;refine⟨tx v++z,b3,xJ (.inr ⟨?_,?_⟩) b2,v,hv,z,rfl,hz2⟩
    .rw[e',bw,bw,kg,kg,len v (sub v hv),len y hyl]
    .rw[e'];exact Ii z (by rw[kg,kg,len v (sub v hv),len y hyl]) q
theorem Ig{i:Nat}{l:List Way}{seen:Array Bool}(L:vS a b i l seen){w:Way}(h:l.find? (isEnd a b)=TL w):Both a b (tx w)/\∀x,Both a b x->js (tx w) x:=by
 have he:isEnd a b w=true:=List.find?_some h;have hw:w∈l:=EM h
 have b1:Both a b (tx w):=by
  have:=L.come w hw [] (uz.mp he);rw[cD]at this;exact this
 refine⟨b1,fun x hx=>?_⟩;obtain⟨x',c1,c2,v,hv,z,e,hz⟩:=L.all x hx;refine xJ ?_ c2;have hlw:(tx w).length=i:=by rw[kg,L.len w hw]
 have hlv:(tx v).length=i:=by rw[kg,L.len v hv]
 cases z with
 |cons c z=>
  refine .inl ?_;rw[e,bw,bH];lia
 |nil=>
  rw[cD]at e;subst e;refine .inr ⟨by lia,?_⟩;obtain⟨pre,post,e1,e2⟩:=(List.find?_eq_some_iff_append.mp h).2;rw[e1]at hv;have hs:=L.sorted;rw[e1]at hs;rcases cn.mp hv with y|y
  .have:=e2 v y;rw[uz.mpr hz]at this;cases this
  .rcases bg.mp y with rfl|y
   .exact qb _
   .exact(mv.mp (Nj.mp hs).2.1).1 v y
theorem KU(Sa:iN a)(Sb:iN b):∀(n i:Nat)(l:List Way)(seen:Array Bool),i+n=PATH->vS a b i l seen->
  (∀y,search a b n l seen=TL y->(Both a b y/\∀x,Both a b x->js y x)/\y.length<=PATH)/\(search a b n l seen=J0->∀x,Both a b x->PATH<x.length)
 |0,i,l,seen,hi,L=>by
  rw[search];cases e:l.find? (isEnd a b)with
  |some w=>
   refine⟨fun y hy=>?_,fun z=>by cases z⟩;cases hy;refine⟨Ig L e,?_⟩;have:=L.len w (EM e);show(tx w).length<=PATH;rw[kg];lia
  |none=>
   refine⟨fun y hy=>(by cases hy),fun _ x hx=>?_⟩;obtain⟨x',c1,c2,v,hv,z,e',hz⟩:=L.all x hx;have h1:=rZ c2;have hlv:(tx v).length=i:=by rw[kg,L.len v hv]
   cases z with
   |nil=>
    have:=List.find?_eq_none.mp e v hv;exact J5 (uz.mpr hz) this
   |cons c z=>
    have:x'.length=(tx v).length+(z.length+1):=by rw[e',bw,bH]
    lia
 |n+1,i,l,seen,hi,L=>by
  rw[search];cases e:l.find? (isEnd a b)with
  |some w=>
   refine⟨fun y hy=>?_,fun z=>by cases z⟩;cases hy;refine⟨Ig L e,?_⟩;have:=L.len w (EM e);show(tx w).length<=PATH;rw[kg];lia
  |none=>
   have L':=QZ Sa Sb L fun w hw h=>List.find?_eq_none.mp e w hw h;simp only;by_cases c:(gg (hW a b l) seen).1.isEmpty=J1
   .rw[J4 c];refine⟨fun y hy=>(by cases hy),fun _ x hx=>?_⟩;obtain⟨x',c1,c2,v,hv,_⟩:=L'.all x hx;rw[List.isEmpty_iff.mp c]at hv;cases hv
   .rw[J3 c];exact KU Sa Sb n (i+1) _ _ (by lia) L'
theorem QN(Sa:iN a)(Sb:iN b):(∀y,leastOf a b=TL y->(Both a b y/\∀x,Both a b x->js y x)/\y.length<=PATH)/\(leastOf a b=J0->∀x,Both a b x->PATH<x.length):=by
 unfold leastOf;simp only
 have mem:∀w,w∈((fg 0 a).flatMap fun(s:Spot)=>(fg 0 b).map fun(t:Spot)=>(⟨s,t,0,[]⟩:Way))↔∃s t,s∈fg 0 a/\t∈fg 0 b/\w=⟨s,t,0,[]⟩:=fun w=>by
  constructor
  .intro h;obtain⟨s,hs,h⟩:=eQ.mp h;obtain⟨t,ht,rfl⟩:=bS.mp h;exact⟨s,t,hs,ht,rfl⟩
  .rintro⟨s,t,hs,ht,rfl⟩;exact eQ.mpr ⟨s,hs,bS.mpr ⟨t,ht,rfl⟩⟩
 have fresh:∀n,n<mE->(Array.replicate (SPOTS*SPOTS*4) J2).getD n J1=J1->False:=fun n hn h=>by
  rw[oK,Array.getElem?_replicate,J4 (show n<SPOTS*SPOTS*4 from hn)]at h;cases h
 have ok:∀w∈((fg 0 a).flatMap fun(s:Spot)=>(fg 0 b).map fun(t:Spot)=>(⟨s,t,0,[]⟩:Way)),lG a b w:=fun w hw=>by
  obtain⟨s,t,hs,ht,rfl⟩:=(mem w).mp hw;exact⟨tY a 0 rfl s hs,tY b 0 rfl t ht,by show 0<4;lia⟩
 have texts:∀w∈((fg 0 a).flatMap fun(s:Spot)=>(fg 0 b).map fun(t:Spot)=>(⟨s,t,0,[]⟩:Way)),w.text=[]:=fun w hw=>by
  obtain⟨s,t,hs,ht,rfl⟩:=(mem w).mp hw;rfl
 have sorted:((fg 0 a).flatMap fun(s:Spot)=>(fg 0 b).map fun(t:Spot)=>(⟨s,t,0,[]⟩:Way)).Pairwise fun w v=>eD (tx w) (tx v):=
  Nl fun x hx y hy=>by
   unfold tx;rw[texts x hx];exact trivial
 obtain⟨u1,u2,u3,u4⟩:=yO (R:=fun w v=>eD (tx w) (tx v)) (fun x=>qb _) _ (Array.replicate (SPOTS*SPOTS*4) J2) (Array.size_replicate) (fun y hy=>yQ Sa Sb (ok y hy)) sorted
 have come:∀w∈((fg 0 a).flatMap fun(s:Spot)=>(fg 0 b).map fun(t:Spot)=>(⟨s,t,0,[]⟩:Way)),sW a b w:=fun w hw z hz=>by
  obtain⟨s,t,hs,ht,rfl⟩:=(mem w).mp hw;exact⟨s,t,hs,ht,hz⟩
 refine KU Sa Sb PATH 0 _ _ (by lia) ⟨u1,fun w hw=>by rw[texts w (u2.subset hw)];rfl,fun w hw=>ok w (u2.subset hw),fun w hw=>come w (u2.subset hw),sorted.sublist u2,fun n hn h=>?_,fun x hx=>?_⟩
 .rcases(u3 n).mp h with h|⟨y,hy,e⟩
  .exact(fresh n hn h).elim
  .exact⟨y,e,ok y (u2.subset hy),come y (u2.subset hy),by rw[kg,texts y (u2.subset hy)];exact aF _⟩
 .obtain⟨s,t,hs,ht,hz⟩:=id hx;have hm:=(mem ⟨s,t,0,[]⟩).mpr ⟨s,t,hs,ht,rfl⟩;rcases u4 _ hm with h|⟨y,hy,e,_⟩
  .exact(fresh _ (yQ Sa Sb (ok _ hm)) h).elim
  .obtain⟨i1,i2,i3⟩:=Ed Sa Sb (ok y (u2.subset hy)) (ok _ hm) e;refine⟨x,hx,QM x,y,hy,x,?_,?_⟩
   .unfold tx;rw[texts y (u2.subset hy)];rfl
   .rw[i1,i2,i3];exact hz
end
theorem yz{r t:List bc}(h:slim r=.star::t):slim (.star::r)=.star::t:=by
 rw[slim.eq_def];simp only[h]
theorem vp{a:bc}{r:List bc}(h:∀t,a=.star->slim r≠.star::t):slim (a::r)=a::slim r:=by
 rw[slim];exact h
theorem Ll:∀(as:List bc)(s:ag),eS (slim as) s↔eS as s
 | [],s=>fz
 |a::r,s=>by
  have ih:=Ll r;by_cases ha:∃t,a=.star/\slim r=.star::t
  .obtain⟨t,rfl,e⟩:=ha;rw[yz e,kJ];rw[e]at ih;constructor
   .intro h;exact⟨[],s,rfl,(ih s).mp h⟩
   .rintro⟨u,v,rfl,h⟩;obtain⟨u',v',e2,h'⟩:=kJ.mp ((ih v).mpr h);exact kJ.mpr ⟨u++u',v',by rw[e2,dt],h'⟩
  .rw[vp fun t h1 h2=>ha ⟨t,h1,h2⟩];by_cases hs:a=.star
   .subst hs;rw[kJ,kJ];simp only[ih]
   .rw[mQ hs,mQ hs];simp only[ih]
theorem Dy:∀(as:List bc),(slim as).length<=as.length
 | []=>aF _
 |a::r=>by
  have ih:=Dy r;by_cases ha:∃t,a=.star/\slim r=.star::t
  .obtain⟨t,rfl,e⟩:=ha;rw[yz e];rw[e]at ih;simp only[bH]at ih⊢;lia
  .rw[vp fun t h1 h2=>ha ⟨t,h1,h2⟩];simp only[bH];lia
theorem sL:∀(segs:List Seg)(p:bj),cC (segs.map fm) p↔cC segs p
 | [],p=>fz
 |.one as::r,p=>by
  show cC (.one (slim as)::r.map fm) p↔_;rw[kL,kL];simp only[Ll,sL r]
 | [.deep],p=>fz
 |.deep::b::r,p=>by
  show cC (.deep::fm b::r.map fm) p↔_;rw[ib,ib];have ih:=sL (b::r);simp only[cV]at ih;simp only[ih]
theorem FO:∀(n:Nat)(s:ag)(as:List bc),s.length<=n->ats s=TL as->as.length<=s.length
 |n,[],as,_,h=>by
  rw[FP]at h;cases h;exact aF _
 |0,c::s,as,hn,_=>by simp at hn
 |n+1,c::s,as,hn,h=>by
  rw[Aq (by simp)]at h;cases e:eE (c::s)with
  |none=>rw[e]at h;cases h
  |some x=>
   rw[e]at h;have h:(ats x.2).map (fun l=>x.1::l)=TL as:=h;have hl:=BH (a:=x.1) (r:=x.2) e;cases e2:ats x.2 with
   |none=>rw[e2]at h;cases h
   |some l=>
    rw[e2]at h;cases h;have:=FO n x.2 l (by lia) e2;simp only[bH]at hl⊢;lia
theorem yr:∀{ps:List ag}{l:List Seg},dQ ps=TL l->l.length=ps.length/\∀(k:Nat)(s:ag),ps[k]?=TL s->∃x,l[k]?=TL x/\iq s=TL x
 | [],l,h=>by
  have h:TL []=TL l:=h;cases h;exact⟨rfl,fun k s e=>by simp at e⟩
 |p::ps,l,h=>by
  rw[qv]at h;cases e1:iq p with
  |none=>rw[e1]at h;cases h
  |some x=>
   cases e2:dQ ps with
   |none=>rw[e1,e2]at h;cases h
   |some r=>
    rw[e1,e2]at h;cases h;obtain⟨h1,h2⟩:=yr e2;refine⟨by rw[bH,bH,h1],fun k s e=>?_⟩
    match k,e with
    |0,e=>
     have:p=s:=by simpa using e
     subst this;exact⟨x,rfl,e1⟩
    |k+1,e=>exact h2 k s (by simpa using e)
theorem Wk{ps:List ag}{l:List Seg}(h:dQ ps=TL l){k:Nat}{x:Seg}(hx:l[k]?=TL x):∃s,ps[k]?=TL s/\iq s=TL x:=by
 obtain⟨h1,h2⟩:=yr h;have hk:k<ps.length:=by rw[<-h1];exact(aK.mp hx).1
 obtain⟨x',e1,e2⟩:=h2 k ps[k] (bO hk);rw[hx]at e1;cases e1;exact⟨_,bO hk,e2⟩
theorem KY{s:ag}{x:Seg}(h:iq s=TL x):s≠[]:=fun e=>by
 rw[e,vi]at h;cases h
theorem KW{s:ag}{as:List bc}(h:iq s=TL (.one as)):as.length<=s.length:=by
 by_cases h2:s=[42,42]
 .rw[h2,vh]at h;cases h
 .rw[vj (KY h) h2]at h;cases e:ats s with
  |none=>rw[e]at h;cases h
  |some l=>
   rw[e]at h;cases h;exact FO s.length s _ (aF _) e
theorem split_len(c:UInt8):∀s:ag,((aG c s).map eh).sum+(aG c s).length=s.length+1
 | []=>rfl
 |x::s=>by
  have ih:=split_len c s;by_cases h:x=c
  .subst h;rw[oC];simp only[cV,jh,bH,vX];lia
  .cases e:aG c s with
   |nil=>exact J5 e (eZ c s)
   |cons y r=>
    rw[e]at ih;rw[lU h e];simp only[cV,jh,bH]at ih⊢;lia
theorem LS:∀{l:List ag},(∀s∈l,s≠[])->l.length<=(l.map eh).sum
 | [],_=>aF _
 |s::l,h=>by
  have ih:=LS (l:=l) fun x hx=>h x (bX _ hx);have:=fG.mpr (h s (by simp));simp only[cV,jh,bH];lia
theorem TJ{l:List ag}{s:ag}(h:s∈l):s.length<=(l.map eh).sum:=by
 induction l with
 |nil=>cases h
 |cons x r ih=>
  simp only[cV,jh];rcases bg.mp h with rfl|h
  .lia
  .have:=ih h;lia
theorem Oo{neg dirs:Bool}{s:ag}{r:cZ}(h:bodyOf neg dirs s=TL r):r.segs≠[]/\2*r.segs.length<=s.length+4/\∀(k:Nat)(as:List bc),r.segs[k]?=TL (.one as)->as.length<=s.length:=by
 rw[Aw]at h;cases e:dQ (gT s)with
 |none=>rw[e]at h;cases h
 |some l=>
  rw[e]at h;cases h;obtain⟨h1,_⟩:=yr e
  have ne:∀p∈gT s,p≠[]:=fun p hp=>by
   obtain⟨k,hk,rfl⟩:=je hp;obtain⟨x,_,e2⟩:=(yr e).2 k _ (bO hk);exact KY e2
  have hs:=LS ne;have hp:0<(gT s).length:=fG.mpr (eZ _ _);refine⟨fun z=>?_,?_,fun k as hk=>?_⟩
  .have z:l=[]:=z;rw[z]at h1;have h1:0=(gT s).length:=h1;lia
  .show 2*l.length<=s.length+4;rw[h1];unfold gT at hs⊢;have hl:=split_len 47 (if s.contains 47=J1 then(if s.head?=TL 47 then s.drop 1 else s)else 42::42::47::s)
   have hb:(if s.contains 47=J1 then(if s.head?=TL 47 then s.drop 1 else s)else 42::42::47::s).length<=s.length+3:=by
    by_cases c:s.contains 47=J1
    .rw[J4 c];by_cases d:s.head?=TL 47
     .rw[J4 d,cM];lia
     .rw[J3 d];lia
    .rw[J3 c];simp only[bH];lia
   lia
  .have hk:l[k]?=TL (.one as):=hk;obtain⟨p,e1,e2⟩:=Wk e hk;refine dM (KW e2) ?_;have hm:p∈gT s:=du e1;have hl2:=TJ hm;by_cases c:s.contains 47=J1
   .unfold gT at hm hl2;rw[J4 c]at hm hl2;have hl:=split_len 47 (if s.head?=TL 47 then s.drop 1 else s)
    have hb:(if s.head?=TL 47 then s.drop 1 else s).length<=s.length:=by
     by_cases d:s.head?=TL 47
     .rw[J4 d,cM];lia
     .rw[J3 d];lia
    have hp2:=fG.mpr (eZ 47 (if s.head?=TL 47 then s.drop 1 else s));lia
   .unfold gT at hm;rw[J3 c]at hm
    have e3:aG 47 (42::42::47::s)=[[42,42],s]:=by
     have:=ng 47 [42,42] s;rw[kc (c:=47) (s:=[42,42]) (by decide),kc (c:=47) (s:=s) (by simpa using c)]at this;exact this
    rw[e3]at hm;rcases bg.mp hm with rfl|hm
    .rw[vh]at e2;cases e2
    .have:p=s:=by simpa using hm
     rw[this];exact aF _
theorem Ra{s:ag}{r:cZ}(h:dG s=TL (TL r)):r.segs≠[]/\2*r.segs.length<=s.length+4/\∀(k:Nat)(as:List bc),r.segs[k]?=TL (.one as)->as.length<=s.length:=by
 by_cases c:s=[]\/s.head?=TL 35
 .rw[Bq c]at h;cases h
 .rw[Br c]at h;cases e:ot s with
  |none=>rw[e]at h;cases h
  |some r'=>
   rw[e]at h;cases h;unfold ot at e;obtain⟨h1,h2,h3⟩:=Oo e
   have hb:(if((if(s.head?==TL 33)=J1 then s.drop 1 else s).getLast?==TL 47)=J1 then(if(s.head?==TL 33)=J1 then s.drop 1 else s).dropLast else(if(s.head?==TL 33)=J1 then s.drop 1 else s)).length<=s.length:=by
    have h0:(if(s.head?==TL 33)=J1 then s.drop 1 else s).length<=s.length:=by
     by_cases d:(s.head?==TL 33)=J1
     .rw[J4 d,cM];lia
     .rw[J3 d];lia
    by_cases d:((if(s.head?==TL 33)=J1 then s.drop 1 else s).getLast?==TL 47)=J1
    .rw[J4 d,Ng];lia
    .rw[J3 d];exact h0
   exact⟨h1,by lia,fun k as hk=>dM (h3 k as hk) hb⟩
theorem WD{segs:List Seg}(h1:segs≠[])(h2:segs.length<=14)(h3:∀(k:Nat)(as:List bc),segs[k]?=TL (.one as)->as.length<=24):iN (segs.map fm):=by
 refine⟨fun e=>h1 (by simpa using e),by rw[aE];exact h2,fun k as hk=>?_⟩;rw[cI]at hk;cases e:segs[k]? with
 |none=>rw[e]at hk;cases hk
 |some x=>
  rw[e]at hk;cases x with
  |deep=>cases hk
  |one as'=>
   have hk:TL (Seg.one (slim as'))=TL (.one as):=hk;cases hk;exact dM (Dy as') (h3 k as' e)
def qS(r q:cZ)(x:ag):Prop:=cC r.segs (aG 47 x)/\cC q.segs (aG 47 x)/\(aG 47 x).all gC=J1
def qK(r q:cZ)(o:Option ag):Prop:=match o with
 |some y=>(qS r q y/\∀x,qS r q x->js y x)/\y.length<=PATH
 |none=>∀x,qS r q x->PATH<x.length
theorem Ih:∀{p q:ag},eD p q->eD q p->p.length=q.length->p=q
 | [],q,_,_,hl=>(nA.mp hl.symm).symm
 |c::p,[],_,_,hl=>by simp at hl
 |c::p,d::q,h1,h2,hl=>by
  rcases h1 with h1|⟨rfl,h1⟩
  .rcases h2 with h2|⟨rfl,_⟩
   .exact J5 (Fx h1 h2) (tV _)
   .exact J5 h1 (tV _)
  .rcases h2 with h2|⟨_,h2⟩
   .exact J5 h2 (tV _)
   .rw[Ih h1 h2 (by simpa using hl)]
theorem QP{r q:cZ}{o o':Option ag}(h:qK r q o)(h':qK r q o'):o=o':=by
 cases o with
 |none=>
  cases o' with
  |none=>rfl
  |some y=>
   have:=h y h'.1.1;have:=h'.2;lia
 |some y=>
  cases o' with
  |none=>
   have:=h' y h.1.1;have:=h.2;lia
  |some y'=>
   have a:=h.1.2 y' h'.1.1;have b:=h'.1.2 y h.1.1
   have e:y.length=y'.length:=by
    have:=rZ a;have:=rZ b;lia
   rcases a with a|⟨_,a⟩
   .lia
   .rcases b with b|⟨_,b⟩
    .lia
    .rw[Ih a b e]
theorem HX{x:ag}(ha:jk x=J1):∃r q,(dy x=[r]/\q=r\/dy x=[r,q])/\qK r q (least x):=by
 unfold jk at ha;simp only[bD,decide_eq_true_iff]at ha;obtain⟨h0,h1,h2,h3,h4⟩:=ha
 have small:∀r∈dy x,iN (r.segs.map fm):=fun r hr=>by
  unfold dy at hr;obtain⟨s,hs,e⟩:=lg.mp hr
  have hlen:s.length<=24:=by
   have:=gG.mp h1 s hs;simpa using this
  have e':dG s=TL (TL r):=by
   cases q:dG s with
   |none=>rw[q]at e;cases e
   |some y=>
    rw[q]at e;have e:y=TL r:=e;rw[e]
  obtain⟨g1,g2,g3⟩:=Ra e';exact WD g1 (by lia) fun k as hk=>dM (g3 k as hk) hlen
 have both:∀r∈dy x,∀q∈dy x,qK r q (leastOf (r.segs.map fm) (q.segs.map fm)):=fun r hr q hq=>by
  have Sa:=small r hr;have Sb:=small q hq
  have hb:∀y,Both (r.segs.map fm) (q.segs.map fm) y↔qS r q y:=fun y=>by
   rw[Oq _ _ Sa.ne Sb.ne,sL,sL];exact fz
  obtain⟨s1,s2⟩:=QN Sa Sb;cases e:leastOf (r.segs.map fm) (q.segs.map fm)with
  |some y=>
   obtain⟨⟨t1,t2⟩,t3⟩:=s1 y e;exact⟨⟨(hb y).mp t1,fun z hz=>t2 z ((hb z).mpr hz)⟩,t3⟩
  |none=>exact fun z hz=>s2 e z ((hb z).mpr hz)
 unfold least;cases e:dy x with
 |nil=>rw[e]at h3;simp at h3
 |cons r l=>
  cases l with
  |nil=>exact⟨r,r,.inl ⟨rfl,rfl⟩,both r (by rw[e];simp) r (by rw[e];simp)⟩
  |cons q l=>
   cases l with
   |nil=>exact⟨r,q,.inr rfl,both r (by rw[e];simp) q (by rw[e];simp)⟩
   |cons z l=>
    rw[e]at h4;simp at h4
structure ba where
 starts:List Nat
 fin:Nat
 steps:List (List (Nat×Nat))
def ba.from(M:ba)(p:Nat):List (Nat×Nat):=(M.steps[p]?).getD []
def mD(M:ba):ag->Nat->Nat->Prop
 | [],p,q=>p=q
 |c::x,p,q=>∃S t,(S,t)∈M.from p/\bJ S c=J1/\mD M x t q
def Acc(M:ba)(x:ag)(p:Nat):Prop:=mD M x p M.fin
def fF(M:ba)(x:ag):Prop:=∃p,p∈M.starts/\Acc M x p
theorem wU{M:ba}{p:Nat}:Acc M [] p↔p=M.fin:=fz
theorem rF{M:ba}{c:UInt8}{x:ag}{p:Nat}:Acc M (c::x) p↔∃S t,(S,t)∈M.from p/\bJ S c=J1/\Acc M x t:=fz
theorem qu{M:ba}:∀{x y:ag}{p q:Nat},mD M (x++y) p q↔∃r,mD M x p r/\mD M y r q
 | [],y,p,q=>⟨fun h=>⟨p,rfl,h⟩,fun⟨r,e,h⟩=>by cases e;exact h⟩
 |c::x,y,p,q=>by
  constructor
  .rintro⟨S,t,h1,h2,h3⟩;obtain⟨r,h4,h5⟩:=qu.mp h3;exact⟨r,⟨S,t,h1,h2,h4⟩,h5⟩
  .rintro⟨r,⟨S,t,h1,h2,h4⟩,h5⟩;exact⟨S,t,h1,h2,qu.mpr ⟨r,h4,h5⟩⟩
def eC:Nat:=2^46
def dW:Nat:=aQ^^^2^46
noncomputable def TY:List (List (Nat×Nat)):=[[(eC,1),(dW,3)],[(eC,2),(dW,3)],[(aQ,3)],[(aQ,3),(cb,0)]]
def jw:ba:=⟨[0],3,TY⟩
theorem Ol(k:Nat)(c:UInt8):bJ (2^k) c=decide (k=c.toNat):=by
 unfold bJ;rw[pA]
theorem Ga(c:UInt8):bJ eC c=J1↔c=46:=by
 unfold eC;rw[Ol,decide_eq_true_iff,iW];exact⟨fun h=>h.symm,fun h=>h.symm⟩
theorem Oi(c:UInt8):bJ dW c=J1↔c≠0/\c≠47/\c≠46:=by
 have h1:bJ dW c=(bJ aQ c^^bJ (2^46) c):=by
  unfold bJ dW;rw[zS]
 have h2:=mR.part c;have h3:bJ (2^46) c=J1↔c=46:=Ga c;rw[h1];cases e1:bJ aQ c<;>cases e2:bJ (2^46) c
 .rw[e1]at h2;rw[e2]at h3;simp at h2 h3⊢;intro a b;exact J5 (h2 a) b
 .rw[e1]at h2;rw[e2]at h3;simp at h2 h3;subst h3;exact J5 (h2 (by decide)) (by decide)
 .rw[e1]at h2;rw[e2]at h3;simp at h2 h3⊢;exact⟨h2.1,h2.2,h3⟩
 .rw[e1]at h2;rw[e2]at h3;simp at h2 h3⊢;intro _ _;exact h3
theorem Ct:∀(x:ag)(p:Nat),p<4->(Acc jw x p↔mz x p)
 | [],p,_=>fz
 |c::x,p,hp=>by
  have ih:=Ct x;have hpt:=mR.part c;have hd:=Ga c;have hn:=Oi c;have hs:=mR.slash c;by_cases h47:c=47
  .subst h47;rw[Co,rF]
   match p,hp with
   |0,_=>
    constructor
    .rintro⟨S,t,h1,h2,_⟩;have h1:(S,t)∈ [(eC,1),(dW,3)]:=h1;simp at h1;rcases h1 with⟨rfl,rfl⟩|⟨rfl,rfl⟩
     .exact J5 (hd.mp h2) (by decide)
     .exact J5 rfl (hn.mp h2).2.1
    .rintro⟨h,_⟩;cases h
   |1,_=>
    constructor
    .rintro⟨S,t,h1,h2,_⟩;have h1:(S,t)∈ [(eC,2),(dW,3)]:=h1;simp at h1;rcases h1 with⟨rfl,rfl⟩|⟨rfl,rfl⟩
     .exact J5 (hd.mp h2) (by decide)
     .exact J5 rfl (hn.mp h2).2.1
    .rintro⟨h,_⟩;cases h
   |2,_=>
    constructor
    .rintro⟨S,t,h1,h2,_⟩;have h1:(S,t)∈ [(aQ,3)]:=h1;simp at h1;obtain⟨rfl,rfl⟩:=h1;exact J5 rfl (hpt.mp h2).2
    .rintro⟨h,_⟩;cases h
   |3,_=>
    constructor
    .rintro⟨S,t,h1,h2,h3⟩;have h1:(S,t)∈ [(aQ,3),(cb,0)]:=h1;simp at h1;rcases h1 with⟨rfl,rfl⟩|⟨rfl,rfl⟩
     .exact J5 rfl (hpt.mp h2).2
     .exact⟨rfl,(ih 0 (by decide)).mp h3⟩
    .rintro⟨_,h⟩;exact⟨cb,0,by show _∈ [(aQ,3),(cb,0)];simp,hs.mpr rfl,(ih 0 (by decide)).mpr h⟩
  .rw[Cm h47,rF]
   match p,hp with
   |0,_=>
    constructor
    .rintro⟨S,t,h1,h2,h3⟩;have h1:(S,t)∈ [(eC,1),(dW,3)]:=h1;simp at h1;rcases h1 with⟨rfl,rfl⟩|⟨rfl,rfl⟩
     .have e:=hd.mp h2;subst e;exact⟨by decide,(ih 1 (by decide)).mp h3⟩
     .obtain⟨g1,_,g3⟩:=hn.mp h2;refine⟨g1,?_⟩;rw[show cU 0 c=3 by unfold cU;rw[J3 (fun z=>g3 z.1)]];exact(ih 3 (by decide)).mp h3
    .rintro⟨g1,h⟩;by_cases h46:c=46
     .subst h46;exact⟨eC,1,by show _∈ [(eC,1),(dW,3)];simp,hd.mpr rfl,(ih 1 (by decide)).mpr h⟩
     .rw[show cU 0 c=3 by unfold cU;rw[J3 (fun z=>h46 z.1)]]at h;exact⟨dW,3,by show _∈ [(eC,1),(dW,3)];simp,hn.mpr ⟨g1,h47,h46⟩,(ih 3 (by decide)).mpr h⟩
   |1,_=>
    constructor
    .rintro⟨S,t,h1,h2,h3⟩;have h1:(S,t)∈ [(eC,2),(dW,3)]:=h1;simp at h1;rcases h1 with⟨rfl,rfl⟩|⟨rfl,rfl⟩
     .have e:=hd.mp h2;subst e;exact⟨by decide,(ih 2 (by decide)).mp h3⟩
     .obtain⟨g1,_,g3⟩:=hn.mp h2;refine⟨g1,?_⟩;rw[show cU 1 c=3 by unfold cU;rw[J3 (fun z=>g3 z.1)]];exact(ih 3 (by decide)).mp h3
    .rintro⟨g1,h⟩;by_cases h46:c=46
     .subst h46;exact⟨eC,2,by show _∈ [(eC,2),(dW,3)];simp,hd.mpr rfl,(ih 2 (by decide)).mpr h⟩
     .rw[show cU 1 c=3 by unfold cU;rw[J3 (fun z=>h46 z.1)]]at h;exact⟨dW,3,by show _∈ [(eC,2),(dW,3)];simp,hn.mpr ⟨g1,h47,h46⟩,(ih 3 (by decide)).mpr h⟩
   |2,_=>
    have e:cU 2 c=3:=by unfold cU;rw[J3 (fun z=>J5 z.2 (by decide))]
    rw[e];constructor
    .rintro⟨S,t,h1,h2,h3⟩;have h1:(S,t)∈ [(aQ,3)]:=h1;simp at h1;obtain⟨rfl,rfl⟩:=h1;exact⟨(hpt.mp h2).1,(ih 3 (by decide)).mp h3⟩
    .rintro⟨g1,h⟩;exact⟨aQ,3,by show _∈ [(aQ,3)];simp,hpt.mpr ⟨g1,h47⟩,(ih 3 (by decide)).mpr h⟩
   |3,_=>
    have e:cU 3 c=3:=by unfold cU;rw[J3 (fun z=>J5 z.2 (by decide))]
    rw[e];constructor
    .rintro⟨S,t,h1,h2,h3⟩;have h1:(S,t)∈ [(aQ,3),(cb,0)]:=h1;simp at h1;rcases h1 with⟨rfl,rfl⟩|⟨rfl,rfl⟩
     .exact⟨(hpt.mp h2).1,(ih 3 (by decide)).mp h3⟩
     .exact J5 (hs.mp h2) h47
    .rintro⟨g1,h⟩;exact⟨aQ,3,by show _∈ [(aQ,3),(cb,0)];simp,hpt.mpr ⟨g1,h47⟩,(ih 3 (by decide)).mpr h⟩
theorem TX(x:ag):fF jw x↔(aG 47 x).all gC=true:=by
 have h:=yi x [] (fun c hc=>by cases hc);rw[show([]:ag)++x=x from rfl]at h;rw[<-h];constructor
 .rintro⟨p,hp,ha⟩;have hp:p∈ [0]:=hp;simp at hp;subst hp;exact(Ct x 0 (by decide)).mp ha
 .intro ha;exact⟨0,by show 0∈ [0];simp,(Ct x 0 (by decide)).mpr ha⟩
def Ew(cs:List MC)(k:Nat)(x:ag):Prop:=(k=cs.length/\x=[])\/∃c u b v,cs[k]?=TL c/\x=u++b::v/\(∀d∈u,bJ c.stays d=J1)/\bJ c.moves b=J1/\dJ (cs.drop (k+1)) v
theorem xQ(cs:List MC)(x:ag):∀(n j:Nat),j+n=cs.length->(dJ (cs.drop j) x↔∃k,j<=k/\k<=cs.length/\(∀i,j<=i->i<k->∃c,cs[i]?=TL c/\c.opt=J1)/\Ew cs k x)
 |0,j,h=>by
  have e:cs.drop j=[]:=mn (by lia);rw[e];constructor
  .intro(hx:x=[]);exact⟨j,aF _,by lia,fun i h1 h2=>by lia,.inl ⟨by lia,hx⟩⟩
  .rintro⟨k,h1,h2,_,hc⟩;rcases hc with⟨_,hx⟩|⟨c,u,b,v,hc,_⟩
   .exact hx
   .have:=(aK.mp hc).1;lia
 |n+1,j,h=>by
  have hj:j<cs.length:=by lia
  have e:cs.drop j=cs[j]::cs.drop (j+1):=EG hj;have ej:cs[j]?=TL cs[j]:=bO hj;rw[e];have ih:=xQ cs x n (j+1) (by lia);constructor
  .rintro(⟨ho,hm⟩|⟨u,b,v,hx,h1,h2,h3⟩)
   .obtain⟨k,h1,h2,h3,h4⟩:=ih.mp hm;refine⟨k,by lia,h2,fun i hi hk=>?_,h4⟩;by_cases q:i=j
    .subst q;exact⟨_,ej,ho⟩
    .exact h3 i (by lia) hk
   .exact⟨j,aF _,by lia,fun i h1 h2=>by lia,.inr ⟨_,u,b,v,ej,hx,h1,h2,h3⟩⟩
  .rintro⟨k,h1,h2,h3,h4⟩;by_cases q:k=j
   .subst q;rcases h4 with⟨z,_⟩|⟨c,u,b,v,hc,hx,g1,g2,g3⟩
    .lia
    .rw[ej]at hc;cases hc;exact .inr ⟨u,b,v,hx,g1,g2,g3⟩
   .obtain⟨c,hc,ho⟩:=h3 j (aF _) (by lia);rw[ej]at hc;cases hc;exact .inl ⟨ho,ih.mpr ⟨k,by lia,h2,fun i hi hk=>h3 i (by lia) hk,h4⟩⟩
structure jI(cs:List MC)(M:ba):Prop where
 fin:M.fin=cs.length
 len:M.steps.length=cs.length+1
 starts:∀t,t∈M.starts↔t<=cs.length/\∀i,i<t->∃c,cs[i]?=TL c/\c.opt=J1
 cell:∀(k:Nat)(c:MC),cs[k]?=TL c->∀S t,(S,t)∈M.from k↔(S=c.stays/\t=k)\/(S=c.moves/\k+1<=t/\t<=cs.length/\∀i,k+1<=i->i<t->∃d,cs[i]?=TL d/\d.opt=J1)
 last:M.from cs.length=[]
theorem Cr{cs:List MC}{M:ba}(P:jI cs M):∀(x:ag)(k:Nat),k<=cs.length->(Acc M x k↔Ew cs k x)
 | [],k,hk=>by
  rw[wU,P.fin];constructor
  .intro h;exact .inl ⟨h,rfl⟩
  .rintro(⟨h,_⟩|⟨c,u,b,v,_,hx,_⟩)
   .exact h
   .cases u<;>cases hx
 |b::x,k,hk=>by
  rw[rF];by_cases hl:k=cs.length
  .subst hl;constructor
   .rintro⟨S,t,h,_⟩;rw[P.last]at h;cases h
   .rintro(⟨_,h⟩|⟨c,u,d,v,hc,_⟩)
    .cases h
    .have:=(aK.mp hc).1;lia
  .have hk':k<cs.length:=by lia
   have ek:cs[k]?=TL cs[k]:=bO hk';have ih:=Cr P x;constructor
   .rintro⟨S,t,h1,h2,h3⟩;rcases(P.cell k _ ek S t).mp h1 with⟨rfl,rfl⟩|⟨rfl,g1,g2,g3⟩
    .rcases(ih t hk).mp h3 with⟨z,_⟩|⟨c,u,d,v,hc,hx,g1,g2,g3⟩
     .lia
     .rw[ek]at hc;cases hc;refine .inr ⟨_,b::u,d,v,ek,by rw[hx];rfl,fun y hy=>?_,g2,g3⟩;rcases bg.mp hy with rfl|hy
      .exact h2
      .exact g1 y hy
    .refine .inr ⟨_,[],b,x,ek,rfl,(fun y hy=>by cases hy),h2,?_⟩;exact(xQ cs x (cs.length-(k+1)) (k+1) (by lia)).mpr ⟨t,g1,g2,g3,(ih t g2).mp h3⟩
   .rintro(⟨z,_⟩|⟨c,u,d,v,hc,hx,g1,g2,g3⟩)
    .exact J5 z hl
    .rw[ek]at hc;cases hc;cases u with
     |nil=>
      cases hx;obtain⟨t,k1,k2,k3,k4⟩:=(xQ cs x (cs.length-(k+1)) (k+1) (by lia)).mp g3;exact⟨_,t,(P.cell k _ ek _ t).mpr (.inr ⟨rfl,k1,k2,k3⟩),g2,(ih t k2).mpr k4⟩
     |cons y u=>
      cases hx;exact⟨_,k,(P.cell k _ ek _ k).mpr (.inl ⟨rfl,rfl⟩),g1 _ (dI),(ih k hk).mpr (.inr ⟨_,u,d,v,ek,rfl,fun z hz=>g1 z (bX _ hz),g2,g3⟩)⟩
theorem Jr{cs:List MC}{M:ba}(P:jI cs M)(x:ag):fF M x↔dJ cs x:=by
 have h:=xQ cs x cs.length 0 (by lia);rw[tm]at h;rw[h];constructor
 .rintro⟨p,hp,ha⟩;obtain⟨h1,h2⟩:=(P.starts p).mp hp;exact⟨p,bI _,h1,fun i _ hi=>h2 i hi,(Cr P x p h1).mp ha⟩
 .rintro⟨k,_,h1,h2,h3⟩;exact⟨k,(P.starts k).mpr ⟨h1,fun i hi=>h2 i (bI _) hi⟩,(Cr P x k h1).mpr h3⟩
theorem Cs{cs:List MC}{M:ba}(P:jI cs M){k:Nat}{S t:Nat}(h:(S,t)∈M.from k):k<=t/\t<=cs.length:=by
 by_cases hk:k<cs.length
 .rcases(P.cell k _ (bO hk) S t).mp h with⟨_,rfl⟩|⟨_,h1,h2,_⟩
  .exact⟨aF _,by lia⟩
  .exact⟨by lia,h2⟩
 .by_cases e:k=cs.length
  .rw[e,P.last]at h;cases h
  .have:M.steps[k]?=none:=hU (by rw[P.len];lia);unfold ba.from at h;rw[this]at h;cases h
structure Fw(A B:ba)(met:List (Nat×Nat))(steps:List (List (Nat×Nat))):Prop where
 here:∀(i:Nat)(l:List (Nat×Nat))(p q:Nat),steps[i]?=TL l->met[i]?=TL (p,q)->∀Z n,(Z,n)∈l->∃S t S' u,(S,t)∈A.from p/\(S',u)∈B.from q/\Z=S&&&S'/\Z≠0/\met[n]?=TL (t,u)
 all:∀(i:Nat)(l:List (Nat×Nat))(p q:Nat),steps[i]?=TL l->met[i]?=TL (p,q)->∀S t S' u,(S,t)∈A.from p->(S',u)∈B.from q->S&&&S'≠0->∃n,(S&&&S',n)∈l/\met[n]?=TL (t,u)
structure vL(A B M:ba)(met:List (Nat×Nat)):Prop where
 st:Fw A B met M.steps
 len:M.steps.length=met.length
 nd:met.Nodup
 fin:met[M.fin]?=TL (A.fin,B.fin)
 starts:∀n,n∈M.starts->∃p q,p∈A.starts/\q∈B.starts/\met[n]?=TL (p,q)
 all:∀p q,p∈A.starts->q∈B.starts->∃n,n∈M.starts/\met[n]?=TL (p,q)
theorem IL{α:Type}{l:List α}(h:l.Nodup){i j:Nat}{x:α}(a:l[i]?=TL x)(b:l[j]?=TL x):i=j:=by
 obtain⟨hi,ei⟩:=aK.mp a;obtain⟨hj,ej⟩:=aK.mp b;have hp:=zJ.mp h;rcases Nat.lt_trichotomy i j with z|z|z
 .exact J5 (ei.trans ej.symm) (hp i j hi hj z)
 .exact z
 .exact J5 (ej.trans ei.symm) (hp j i hj hi z)
theorem FZ{S T:Nat}{c:UInt8}:bJ (S&&&T) c=J1↔bJ S c=J1/\bJ T c=true:=by
 unfold bJ;rw[my,bD]
theorem wZ{A B M:ba}{met:List (Nat×Nat)}(h:vL A B M met):∀(x:ag)(n p q:Nat),met[n]?=TL (p,q)->(Acc M x n↔Acc A x p/\Acc B x q)
 | [],n,p,q,e=>by
  rw[wU,wU,wU];constructor
  .intro z;rw[z,h.fin]at e;cases e;exact⟨rfl,rfl⟩
  .rintro⟨rfl,rfl⟩;exact IL h.nd e h.fin
 |c::x,n,p,q,e=>by
  have hn:n<M.steps.length:=by rw[h.len];exact(aK.mp e).1
  have el:M.steps[n]?=TL M.steps[n]:=bO hn;have ef:M.from n=M.steps[n]:=by unfold ba.from;rw[el];rfl
  rw[rF,rF,rF,ef];constructor
  .rintro⟨Z,m,h1,h2,h3⟩;obtain⟨S,t,S',u,g1,g2,rfl,_,g3⟩:=h.st.here n _ p q el e Z m h1;obtain⟨k1,k2⟩:=FZ.mp h2;obtain⟨a1,a2⟩:=(wZ h x m t u g3).mp h3;exact⟨⟨S,t,g1,k1,a1⟩,⟨S',u,g2,k2,a2⟩⟩
  .rintro⟨⟨S,t,g1,k1,a1⟩,⟨S',u,g2,k2,a2⟩⟩;have hb:bJ (S&&&S') c=true:=FZ.mpr ⟨k1,k2⟩;have hz:S&&&S'≠0:=fun z=>by rw[z,FY]at hb;cases hb
   obtain⟨m,h1,h2⟩:=h.st.all n _ p q el e S t S' u g1 g2 hz;exact⟨_,m,h1,hb,(wZ h x m t u h2).mpr ⟨a1,a2⟩⟩
theorem Os{A B M:ba}{met:List (Nat×Nat)}(h:vL A B M met)(x:ag):fF M x↔fF A x/\fF B x:=by
 constructor
 .rintro⟨n,hn,ha⟩;obtain⟨p,q,h1,h2,e⟩:=h.starts n hn;obtain⟨a1,a2⟩:=(wZ h x n p q e).mp ha;exact⟨⟨p,h1,a1⟩,⟨q,h2,a2⟩⟩
 .rintro⟨⟨p,h1,a1⟩,⟨q,h2,a2⟩⟩;obtain⟨n,hn,e⟩:=h.all p q h1 h2;exact⟨n,hn,(wZ h x n p q e).mpr ⟨a1,a2⟩⟩
theorem lO:∀(n:Nat)(l:List Nat),l.Nodup->(∀x∈l,x<n)->l.length<=n
 |0,[],_,_=>aF _
 |0,x::l,_,h=>J5 (h x dI) (Nat.not_lt_zero _)
 |n+1,l,hd,h=>by
  have h1:(l.erase n).Nodup:=hd.erase n
  have h2:=lO n (l.erase n) h1 (fun x hx=>by
   have h3:=(List.Nodup.mem_erase_iff hd).mp hx;have:=h x h3.2;have:=h3.1;lia)
  by_cases hn:n∈l
  .have:=List.length_erase_of_mem hn;lia
  .rw[List.erase_of_not_mem hn]at h2;lia
theorem Ck{l:List (Nat×Nat)}{a b:Nat}(hd:l.Nodup)(h:∀x∈l,x.1<a/\x.2<b):l.length<=a*b:=by
 have e:(l.map fun x=>x.1*b+x.2).length=l.length:=aE _;rw[<-e];refine lO _ _ ?_ ?_
 .refine lh.mpr (tf ?_ hd);intro x y hx hy hne q;have q:x.1*b+x.2=y.1*b+y.2:=q;have h1:=(h x hx).2;have h2:=(h y hy).2
  have e1:(x.1*b+x.2) / b=x.1:=by
   rw[Nat.mul_comm,Nat.mul_add_div (by lia),Nat.div_eq_of_lt h1,Nat.add_zero]
  have e2:(y.1*b+y.2) / b=y.1:=by
   rw[Nat.mul_comm,Nat.mul_add_div (by lia),Nat.div_eq_of_lt h2,Nat.add_zero]
  have e3:x.1=y.1:=by rw[<-e1,<-e2,q]
  rw[e3]at q;exact hne (Prod.ext e3 (Nat.add_left_cancel q))
 .intro z hz;obtain⟨x,hx,rfl⟩:=bS.mp hz;obtain⟨h1,h2⟩:=h x hx;show x.1*b+x.2<a*b;have:(x.1+1)*b<=a*b:=wk b h1;rw[px]at this;lia
theorem yo{M:ba}:∀{x:ag}{p q:Nat},mD M x p q->∃f:Nat->Nat,f 0=p/\f x.length=q/\(∀i,i<x.length->∃S,(S,f (i+1))∈M.from (f i))/\∀i,i<=x.length->mD M (x.take i) p (f i)/\mD M (x.drop i) (f i) q
 | [],p,q,h=>by
  cases(show p=q from h);refine⟨fun _=>p,rfl,rfl,fun i hi=>by simp at hi,fun i hi=>?_⟩;simp at hi;subst hi;exact⟨rfl,rfl⟩
 |c::x,p,q,h=>by
  obtain⟨S,t,h1,h2,h3⟩:=h;obtain⟨f,e0,e1,g1,g2⟩:=yo h3;refine⟨fun i=>match i with|0=>p|i+1=>f i,rfl,e1,fun i hi=>?_,fun i hi=>?_⟩
  .match i with
   |0=>exact⟨S,by show(S,f 0)∈_;rw[e0];exact h1⟩
   |i+1=>exact g1 i (by simpa using hi)
  .match i with
   |0=>exact⟨rfl,S,t,h1,h2,h3⟩
   |i+1=>
    obtain⟨k1,k2⟩:=g2 i (by simpa using hi);exact⟨⟨S,t,h1,h2,k1⟩,k2⟩
theorem CQ{M:ba}{f:Nat->Nat}{n:Nat}(up:∀k S t,(S,t)∈M.from k->k<=t)(h:∀i,i<n->∃S,(S,f (i+1))∈M.from (f i)):∀(d i:Nat),i+d<=n->f i<=f (i+d)
 |0,i,_=>aF _
 |d+1,i,hd=>by
  obtain⟨S,hS⟩:=h (i+d) (by lia);exact dM (CQ up h d i (by lia)) (up _ _ _ hS)
theorem Jt{k S t:Nat}(h:(S,t)∈jw.from k):t<4:=by
 have hk:k<4\/4<=k:=by lia
 rcases hk with hk|hk
 .match k,hk with
  |0,_=>have h:(S,t)∈ [(eC,1),(dW,3)]:=h;simp at h;lia
  |1,_=>have h:(S,t)∈ [(eC,2),(dW,3)]:=h;simp at h;lia
  |2,_=>have h:(S,t)∈ [(aQ,3)]:=h;simp at h;lia
  |3,_=>have h:(S,t)∈ [(aQ,3),(cb,0)]:=h;simp at h;lia
 .unfold ba.from at h;rw[show jw.steps[k]?=J0 from hU (by show 4<=k;exact hk)]at h;cases h
def sV(A B:ba)(x:ag):Prop:=fF jw x/\fF A x/\fF B x
theorem Ws{cs ds:List MC}{A B:ba}(PA:jI cs A)(PB:jI ds B){x:ag}(h:sV A B x)(hm:∀y,sV A B y->x.length<=y.length):x.length+1<=4*(cs.length+ds.length+1):=by
 obtain⟨⟨s0,hs0,a0⟩,⟨s1,hs1,a1⟩,⟨s2,hs2,a2⟩⟩:=h;obtain⟨f0,b0,e0,st0,g0⟩:=yo a0;obtain⟨f1,b1,e1,st1,g1⟩:=yo a1;obtain⟨f2,b2,e2,st2,g2⟩:=yo a2;have u1:=CQ (M:=A) (f:=f1) (n:=x.length) (fun k S t hh=>(Cs PA hh).1) st1;have u2:=CQ (M:=B) (f:=f2) (n:=x.length) (fun k S t hh=>(Cs PB hh).1) st2
 have l0:∀i,i<=x.length->f0 i<4:=fun i hi=>by
  match i with
  |0=>
   have hs0:s0∈ [0]:=hs0;simp at hs0;rw[b0,hs0];decide
  |i+1=>
   obtain⟨S,hS⟩:=st0 i hi;exact Jt hS
 have l1:∀i,i<=x.length->f1 i<=cs.length:=fun i hi=>by
  have:=u1 (x.length-i) i (by lia);rw[show i+(x.length-i)=x.length by lia,e1,PA.fin]at this;exact this
 have l2:∀i,i<=x.length->f2 i<=ds.length:=fun i hi=>by
  have:=u2 (x.length-i) i (by lia);rw[show i+(x.length-i)=x.length by lia,e2,PB.fin]at this;exact this
 have key:∀i j,i<j->j<=x.length->(f1 i+f2 i)*4+f0 i≠(f1 j+f2 j)*4+f0 j:=by
  intro i j hij hj q;have q1:=l0 i (by lia);have q2:=l0 j hj;have m1:=u1 (j-i) i (by lia);have m2:=u2 (j-i) i (by lia);rw[show i+(j-i)=j by lia]at m1 m2;have z0:f0 i=f0 j:=by lia
  have z1:f1 i=f1 j:=by lia
  have z2:f2 i=f2 j:=by lia
  have w:=hm (x.take i++x.drop j) ⟨⟨s0,hs0,qu.mpr ⟨f0 i,(g0 i (by lia)).1,by rw[z0];exact(g0 j hj).2⟩⟩,⟨s1,hs1,qu.mpr ⟨f1 i,(g1 i (by lia)).1,by rw[z1];exact(g1 j hj).2⟩⟩,
   ⟨s2,hs2,qu.mpr ⟨f2 i,(g2 i (by lia)).1,by rw[z2];exact(g2 j hj).2⟩⟩⟩
  rw[bw,cQ,cM]at w;lia
 have hb:=lO (4*(cs.length+ds.length+1)) ((er (x.length+1)).map fun i=>(f1 i+f2 i)*4+f0 i) ?_ ?_
 .rw[aE,jf]at hb;exact hb
 .refine lh.mpr (tf ?_ wa);intro i j hi hj hij;exact key i j hij (by have:=mr.mp hj;lia)
 .intro z hz;obtain⟨i,hi,rfl⟩:=bS.mp hz;have hi:=mr.mp hi;have q0:=l0 i (by lia);have q1:=l1 i (by lia);have q2:=l2 i (by lia);show(f1 i+f2 i)*4+f0 i<_;lia
def oQ(M:ba)(p t:Nat):Prop:=∃S,(S,t)∈M.from p
structure nE(M:ba):Prop where
 fin:M.fin<M.steps.length
 starts:∀p∈M.starts,p<M.steps.length
 to:∀p S t,(S,t)∈M.from p->t<M.steps.length/\S≠0/\S<2^256
theorem xw{M:ba}{p S t:Nat}(h:(S,t)∈M.from p):p<M.steps.length:=by
 by_cases hp:p<M.steps.length
 .exact hp
 .unfold ba.from at h;rw[hU (by lia)]at h;cases h
def ku(S b:Nat):Prop:=S.testBit b=J1/\∀c,S.testBit c=J1->b<=c
theorem Bu{S b:Nat}(h:ku S b)(hs:S<2^256):b<256:=by
 by_cases z:b<256
 .exact z
 .have h1:=h.1;rw[wo (cR hs (kx (by decide) (by lia)))]at h1;cases h1
theorem Av{S b:Nat}(hb:b<256):bJ S (kF b)=S.testBit b:=by
 unfold bJ;rw[wM];rw[wj hb]
theorem Dz{S:Nat}(h:S≠0):∃b,ku S b:=by
 obtain⟨i,hi⟩:=Nt h
 have:∀n,(∃i,i<=n/\S.testBit i=J1)->∃b,ku S b:=by
  intro n
  induction n with
  |zero=>
   rintro⟨i,h0,h1⟩;have:i=0:=by lia
   subst this;exact⟨0,h1,fun c _=>bI _⟩
  |succ n ih=>
   rintro⟨i,h0,h1⟩;by_cases q:∃i,i<=n/\S.testBit i=J1
   .exact ih q
   .refine⟨i,h1,fun c hc=>?_⟩;by_cases z:c<=n
    .exact J5 ⟨c,z,hc⟩ q
    .lia
 exact this i ⟨i,aF _,hi⟩
theorem Pq{M:ba}(ok:nE M){p t:Nat}(h:oQ M p t):∃S c,(S,t)∈M.from p/\bJ S c=true:=by
 obtain⟨S,hS⟩:=h;obtain⟨_,h1,h2⟩:=ok.to p S t hS;obtain⟨b,hb⟩:=Dz h1;exact⟨S,kF b,hS,by rw[Av (Bu hb h2)];exact hb.1⟩
structure iJ(M:ba)(L:List (Nat×Nat))(i:Nat):Prop where
 nd:(L.map (·.1)).Nodup
 lt:∀x∈L,x.1<M.steps.length
 hd:L[0]?=TL (M.fin,0)
 path:∀p d,(p,d)∈L->∃x:ag,x.length=d/\Acc M x p
 mono:∀(a b:Nat)(x y:Nat×Nat),a<=b->L[a]?=TL x->L[b]?=TL y->x.2<=y.2
 near:∀x y,L[i]?=TL x->y∈L->y.2<=x.2+1
 done:∀(j:Nat)(x:Nat×Nat)(p:Nat),j<i->L[j]?=TL x->oQ M p x.1->∃d,(p,d)∈L/\d<=x.2+1
structure mj(M:ba)(L:List (Nat×Nat))(i:Nat)(x:Nat×Nat)(pre:List Nat):Prop where
 nd:(L.map (·.1)).Nodup
 lt:∀x∈L,x.1<M.steps.length
 hd:L[0]?=TL (M.fin,0)
 path:∀p d,(p,d)∈L->∃x:ag,x.length=d/\Acc M x p
 mono:∀(a b:Nat)(x y:Nat×Nat),a<=b->L[a]?=TL x->L[b]?=TL y->x.2<=y.2
 at_:L[i]?=TL x
 near:∀y,y∈L->y.2<=x.2+1
 done:∀(j:Nat)(x:Nat×Nat)(p:Nat),j<i->L[j]?=TL x->oQ M p x.1->∃d,(p,d)∈L/\d<=x.2+1
 pre:∀p,p∈pre->∃d,(p,d)∈L/\d<=x.2+1
theorem QX{M:ba}(ok:nE M):iJ M [(M.fin,0)] 0 where
 nd:=by simp
 lt x hx:=by simp at hx;rw[hx];exact ok.fin
 hd:=rfl
 path p d h:=by simp at h;exact⟨[],h.2.symm,h.1⟩
 mono a b x y hab ha hb:=by
  have h1:=(aK.mp ha).1;have h2:=(aK.mp hb).1;simp at h1 h2;subst h1;subst h2;rw[ha]at hb;cases hb;exact aF _
 near x y hx hy:=by simp at hy;rw[hy];exact bI _
 done j x p hj:=by lia
theorem QW{M:ba}{L:List (Nat×Nat)}{i:Nat}{x:Nat×Nat}(h:iJ M L i)(e:L[i]?=TL x):mj M L i x []:=
 ⟨h.nd,h.lt,h.hd,h.path,h.mono,e,fun y hy=>h.near x y e hy,h.done,fun p hp=>by cases hp⟩
theorem QV{M:ba}{L:List (Nat×Nat)}{i:Nat}{x:Nat×Nat}{pre:List Nat}{p:Nat}(h:mj M L i x pre)(hp:p∈L.map (·.1)):mj M L i x (pre++[p]):=
 ⟨h.nd,h.lt,h.hd,h.path,h.mono,h.at_,h.near,h.done,fun q hq=>by
  rcases cn.mp hq with hq|hq
  .exact h.pre q hq
  .simp at hq;subst hq;obtain⟨⟨a,d⟩,ha,rfl⟩:=bS.mp hp;exact⟨d,ha,h.near _ ha⟩⟩
theorem QT{M:ba}{L:List (Nat×Nat)}{i:Nat}{x:Nat×Nat}{pre:List Nat}{p:Nat}(ok:nE M)(h:mj M L i x pre)(hp:p∉L.map (·.1))(he:oQ M p x.1):mj M (L++[(p,x.2+1)]) i x (pre++[p]) where
 nd:=by
  rw[cx];refine zH.mpr ⟨h.nd,by simp,fun a ha b hb=>?_⟩;simp at hb;subst hb;intro e;rw[e]at ha;exact hp ha
 lt y hy:=by
  rcases cn.mp hy with hy|hy
  .exact h.lt y hy
  .simp at hy;subst hy;obtain⟨S,hS⟩:=he;exact xw hS
 hd:=by
  have:=(aK.mp h.hd).1;rw[jF this];exact h.hd
 path q d hq:=by
  rcases cn.mp hq with hq|hq
  .exact h.path q d hq
  .simp at hq;obtain⟨rfl,rfl⟩:=hq;obtain⟨S,c,hS,hc⟩:=Pq ok he;obtain⟨w,hw,ha⟩:=h.path x.1 x.2 (du h.at_);exact⟨c::w,by rw[bH,hw],S,x.1,hS,hc,ha⟩
 mono a b y z hab ha hb:=by
  have hb':=(aK.mp hb).1;rw[bw,dR]at hb';by_cases h2:b<L.length
  .rw[jF h2]at hb;rw[jF (by lia)]at ha;exact h.mono a b y z hab ha hb
  .have:b=L.length:=by lia
   subst this;rw[ph (aF _),qW]at hb;have hb:TL (p,x.2+1)=TL z:=hb;cases hb;show y.2<=x.2+1;by_cases h1:a<L.length
   .rw[jF h1]at ha;exact h.near y (du ha)
   .have:a=L.length:=by lia
    subst this;rw[ph (aF _),qW]at ha;have ha:TL (p,x.2+1)=TL y:=ha;cases ha;exact aF _
 at_:=by
  have:=(aK.mp h.at_).1;rw[jF this];exact h.at_
 near y hy:=by
  rcases cn.mp hy with hy|hy
  .exact h.near y hy
  .simp at hy;subst hy;exact aF _
 done j y q hj hy hq:=by
  have:=(aK.mp h.at_).1;rw[jF (by lia)]at hy;obtain⟨d,h1,h2⟩:=h.done j y q hj hy hq;exact⟨d,cW _ h1,h2⟩
 pre q hq:=by
  rcases cn.mp hq with hq|hq
  .obtain⟨d,h1,h2⟩:=h.pre q hq;exact⟨d,cW _ h1,h2⟩
  .simp at hq;subst hq;exact⟨x.2+1,dA _ (by simp),aF _⟩
theorem QU{M:ba}{L:List (Nat×Nat)}{i:Nat}{x:Nat×Nat}{pre:List Nat}(h:mj M L i x pre)(hp:∀p,oQ M p x.1->p∈pre):iJ M L (i+1):=
 ⟨h.nd,h.lt,h.hd,h.path,h.mono,fun y z hy hz=>by
  have h1:=h.mono i (i+1) x y (by lia) h.at_ hy;have h2:=h.near z hz;lia,fun j y p hj hy he=>by
  by_cases q:j=i
  .subst q;rw[h.at_]at hy;cases hy;exact h.pre p (hp p he)
  .exact h.done j y p (by lia) hy he⟩
theorem iJ.bound{M:ba}{L:List (Nat×Nat)}{i:Nat}(h:iJ M L i):L.length<=M.steps.length:=by
 rw[<-aE (f:=(·.1))];refine lO _ _ h.nd fun x hx=>?_;obtain⟨y,hy,rfl⟩:=bS.mp hx;exact h.lt y hy
theorem mj.bound{M:ba}{L:List (Nat×Nat)}{i:Nat}{x:Nat×Nat}{pre:List Nat}(h:mj M L i x pre):L.length<=M.steps.length:=by
 rw[<-aE (f:=(·.1))];refine lO _ _ h.nd fun x hx=>?_;obtain⟨y,hy,rfl⟩:=bS.mp hx;exact h.lt y hy
theorem uB{M:ba}{L:List (Nat×Nat)}(h:iJ M L L.length):∀(x:ag)(p:Nat),Acc M x p->∃d,(p,d)∈L/\d<=x.length
 | [],p,ha=>by
  cases(show p=M.fin from ha);exact⟨0,du h.hd,aF _⟩
 |c::x,p,ha=>by
  obtain⟨S,t,h1,h2,h3⟩:=ha;obtain⟨d,g1,g2⟩:=uB h x t h3;obtain⟨j,hj,ej⟩:=je g1;have e:L[j]?=TL (t,d):=by rw[bO hj,ej]
  obtain⟨d',k1,k2⟩:=h.done j _ p hj e ⟨S,h1⟩;refine⟨d',k1,?_⟩;have k2:d'<=d+1:=k2;rw[bH];lia
theorem HY{M:ba}{L:List (Nat×Nat)}{i:Nat}(h:iJ M L i){p d e:Nat}(h1:(p,d)∈L)(h2:(p,e)∈L):d=e:=by
 obtain⟨a,ha,ea⟩:=je h1;obtain⟨b,hb,eb⟩:=je h2;have q1:(L.map (·.1))[a]?=TL p:=by rw[cI,bO ha,ea];rfl
 have q2:(L.map (·.1))[b]?=TL p:=by rw[cI,bO hb,eb];rfl
 have:=IL h.nd q1 q2;subst this;rw[ea]at eb;cases eb;rfl
structure rn(M:ba)(L:List (Nat×Nat))(m i:Nat)(row:ag)(places:List Nat):Prop where
 len:row.length=i
 le:i<=m
 come:∀p,p∈places->∃s,s∈M.starts/\mD M row s p
 live:∃p,p∈places/\(p,m-i)∈L
 all:∀y,fF M y->y.length=m->eD row (y.take i)/\(y.take i=row->∃p,p∈places/\Acc M (y.drop i) p)
def sY(M:ba)(L:List (Nat×Nat))(m:Nat):Prop:=(∃s,s∈M.starts/\(s,m)∈L)/\∀s d,s∈M.starts->(s,d)∈L->m<=d
theorem GV{M:ba}{L:List (Nat×Nat)}{m:Nat}(h:iJ M L L.length)(hm:sY M L m){y:ag}(hy:fF M y):m<=y.length:=by
 obtain⟨s,hs,ha⟩:=hy;obtain⟨d,h1,h2⟩:=uB h y s ha;exact dM (hm.2 s d hs h1) h2
theorem Wi{M:ba}{L:List (Nat×Nat)}{m:Nat}(hm:sY M L m):rn M L m 0 [] M.starts where
 len:=rfl
 le:=bI _
 come p hp:=⟨p,hp,rfl⟩
 live:=by rw[Nat.sub_zero];exact hm.1
 all y hy _:=⟨lE,fun _=>hy⟩
def pJ(M:ba)(L:List (Nat×Nat))(places:List Nat)(k:Nat)(ss:List (Nat×Nat)):Prop:=∀S t,(S,t)∈ss↔(∃p,p∈places/\(S,t)∈M.from p)/\(t,k)∈L
theorem Wg{M:ba}{L:List (Nat×Nat)}{m i:Nat}{row:ag}{places:List Nat}{ss:List (Nat×Nat)}(h:iJ M L L.length)(r:rn M L m i row places)(hi:i<m)(hs:pJ M L places (m-i-1) ss):ss≠[]:=by
 obtain⟨p,hp,hl⟩:=r.live;obtain⟨x,hx,ha⟩:=h.path p _ hl
 match x,hx,ha with
 | [],hx,_=>simp at hx;lia
 |c::x,hx,ha=>
  obtain⟨S,t,h1,h2,h3⟩:=ha;obtain⟨d,g1,g2⟩:=uB h x t h3;rw[bH]at hx
  have e:d=m-i-1:=by
   obtain⟨j,hj,ej⟩:=je g1;obtain⟨d',k1,k2⟩:=h.done j _ p hj (by rw[bO hj,ej]) ⟨S,h1⟩;have:=HY h k1 hl;have k2:d'<=d+1:=k2;lia
  intro z;have:=(hs S t).mpr ⟨⟨p,hp,h1⟩,by rw[<-e];exact g1⟩;rw[z]at this;cases this
theorem Wj{M:ba}{L:List (Nat×Nat)}{m i:Nat}{row:ag}{places places':List Nat}{ss:List (Nat×Nat)}{b:Nat}(ok:nE M)(h:iJ M L L.length)(hm:sY M L m)(r:rn M L m i row places)(hi:i<m)(hs:pJ M L places (m-i-1) ss)
  (hb1:∃S t,(S,t)∈ss/\ku S b)(hb2:∀S t l,(S,t)∈ss->ku S l->b<=l)(hp:∀t,t∈places'↔∃S,(S,t)∈ss/\S.testBit b=J1):b<256/\rn M L m (i+1) (row++[kF b]) places':=by
 obtain⟨S0,t0,hS0,hl0⟩:=hb1;obtain⟨⟨p0,hp0,hf0⟩,hk0⟩:=(hs S0 t0).mp hS0;have b256:b<256:=Bu hl0 (ok.to _ _ _ hf0).2.2;refine⟨b256,⟨?_,?_,?_,?_,?_⟩⟩
 .rw[bw,r.len];rfl
 .lia
 .intro t ht;obtain⟨S,hS,hbit⟩:=(hp t).mp ht;obtain⟨⟨p,hpp,hf⟩,_⟩:=(hs S t).mp hS;obtain⟨s,hs1,hs2⟩:=r.come p hpp;exact⟨s,hs1,qu.mpr ⟨p,hs2,S,t,hf,by rw[Av b256];exact hbit,rfl⟩⟩
 .exact⟨t0,(hp t0).mpr ⟨S0,hS0,hl0.1⟩,by rw[show m-(i+1)=m-i-1 by lia];exact hk0⟩
 .intro y hy hlen;obtain⟨h1,h2⟩:=r.all y hy hlen;have hyi:i<y.length:=by lia
  have et:y.take (i+1)=y.take i++[y[i]]:=by rw[List.take_succ_eq_append_getElem hyi]
  have el:row.length=(y.take i).length:=by rw[r.len,cQ];lia
  by_cases q:y.take i=row
  .obtain⟨p,hpp,ha⟩:=h2 q;rw[EG hyi]at ha;obtain⟨S,t,g1,g2,g3⟩:=ha;obtain⟨d,k1,k2⟩:=uB h _ t g3;rw[cM]at k2
   have ed:d=m-i-1:=by
    obtain⟨s,hs1,hs2⟩:=r.come p hpp;obtain⟨w,hw,haw⟩:=h.path t d k1;have:=GV h hm (y:=row++y[i]::w) ⟨s,hs1,qu.mpr ⟨p,hs2,S,t,g1,g2,haw⟩⟩;rw[bw,bH,hw,r.len]at this;lia
   subst ed;have hss:(S,t)∈ss:=(hs S t).mpr ⟨⟨p,hpp,g1⟩,k1⟩;obtain⟨_,hS0',_⟩:=ok.to _ _ _ g1;obtain⟨l,hl⟩:=Dz hS0';have hbl:=hb2 S t l hss hl;have hlc:=hl.2 _ g2
   have hc:kF b<=y[i]:=by
    rw[tU,wM,wj b256];lia
   rw[et,q];refine⟨Bn row hc,fun e=>?_⟩
   have e2:y[i]=kF b:=by
    have:=ED e;simpa using this
   refine⟨t,(hp t).mpr ⟨S,hss,?_⟩,g3⟩;rw[<-Av b256,<-e2];exact g2
  .rw[et];refine⟨Bo _ _ el h1 (fun e=>q e.symm),fun e=>J5 ?_ q⟩;exact(List.append_inj e el.symm).1
theorem Wf{M:ba}{L:List (Nat×Nat)}{m:Nat}{row:ag}{places:List Nat}(h:iJ M L L.length)(hm:sY M L m)(r:rn M L m m row places):fF M row/\∀y,fF M y->js row y:=by
 obtain⟨p,hp,hl⟩:=r.live;rw[qW]at hl;obtain⟨x,hx,ha⟩:=h.path p 0 hl;have:x=[]:=nA.mp hx;subst this;cases(show p=M.fin from ha);obtain⟨s,hs,hr⟩:=r.come _ hp;refine⟨⟨s,hs,hr⟩,fun y hy=>?_⟩;have h1:=GV h hm hy;by_cases q:y.length=m
 .obtain⟨h2,_⟩:=r.all y hy q;rw[kr (by lia)]at h2;exact .inr ⟨by rw[r.len,q],h2⟩
 .exact .inl (by rw[r.len];lia)
theorem Wh{M:ba}{L:List (Nat×Nat)}(h:iJ M L L.length)(hn:∀s d,s∈M.starts->(s,d)∉L)(x:ag): ¬fF M x:=by
 rintro⟨s,hs,ha⟩;obtain⟨d,h1,_⟩:=uB h x s ha;exact hn s d hs h1
theorem Lk:∀(t:List bc),(slim t).head?=TL .star↔t.head?=TL .star
 | []=>fz
 |a::r=>by
  by_cases q:∃t,a=.star/\slim r=.star::t
  .obtain⟨t,rfl,h⟩:=q;rw[yz h];simp
  .rw[vp (fun t h1 h2=>q ⟨t,h1,h2⟩)];simp
def mF(as r:List bc)(st:Bool):Prop:=∀t,(t.head?=TL .star↔st=J1)->slim (as++t)=r++slim t
theorem WA(st:Bool):mF [] [] st:=fun _ _=>rfl
theorem WB{as r:List bc}{a:bc}{st:Bool}(ha:a≠.star)(h:mF as r J2):mF (as++[a]) (r++[a]) st:=fun t _=>by
 rw[dt,dt];rw[h ([a]++t) (by simp[ha]),show [a]++t=a::t from rfl,vp (fun _ z=>J5 z ha)];rfl
theorem WC{as r:List bc}(h:mF as r J1):mF (as++[.star]) (r++[.star]) false:=fun t ht=>by
 rw[dt,dt];rw[h ([bc.star]++t) (by simp),show [bc.star]++t=.star::t from rfl,vp (fun u _ z=>?_)]
 .rfl
 .have:(slim t).head?=TL .star:=by rw[z];rfl
  have:=ht.mp ((Lk t).mp this);cases this
theorem Wz{as r:List bc}(h:mF as r J1):mF (as++[.star]) r true:=fun t ht=>by
 rw[dt];rw[h ([bc.star]++t) (by simp),show [bc.star]++t=.star::t from rfl];have:(slim t).head?=TL .star:=(Lk t).mpr (ht.mpr rfl);cases e:slim t with
 |nil=>rw[e]at this;cases this
 |cons x u=>
  rw[e]at this;have:x=.star:=by simpa using this
  subst this;rw[yz e]
theorem Wy{as r:List bc}(h:mF as r J2):slim as=r:=by
 have:=h [] (by simp);rw[cD]at this;rw[this];show r++[]=r;rw[cD]
def fh:Seg->Bool
 |.deep=>J1
 |_=>J2
noncomputable def ir:List Seg->List Seg
 | []=> []
 |a::r=>if fh a=J1/\(r.head?.map fh)=TL J1 then ir r else a::ir r
theorem Ww{r:List Seg}(h:r.head?.map fh=TL J1):ir (.deep::r)=ir r:=by
 show(if fh .deep=J1/\_ then _ else _)=_;rw[J4 ⟨rfl,h⟩]
theorem vo{a:Seg}{r:List Seg}(h: ¬(fh a=J1/\r.head?.map fh=TL J1)):ir (a::r)=a::ir r:=by
 show(if _ then _ else _)=_;rw[J3 h]
theorem Lh:∀{l:List Seg},l≠[]->ir l≠[]
 | [],h=>J5 rfl h
 |a::r,_=>by
  by_cases q:fh a=J1/\r.head?.map fh=TL J1
  .show(if _ then _ else _)≠_;rw[J4 q];refine Lh (fun z=>?_);rw[z]at q;cases q.2
  .rw[vo q];simp
theorem HG{a:Seg}:fh a=J1↔a=.deep:=by
 cases a<;>simp[fh]
theorem RH{r:List Seg}{p:bj}:cC (.deep:: .deep::r) p↔cC (.deep::r) p:=by
 rw[ib];cases r with
 |nil=>
  rw[si];constructor
  .rintro⟨u,v,rfl,h⟩;rw[si]at h;intro z;exact h (EE.mp z).2
  .intro h;exact⟨[],p,rfl,si.mpr h⟩
 |cons b r=>
  rw[ib];constructor
  .rintro⟨u,v,rfl,h⟩;obtain⟨u',v',rfl,h'⟩:=ib.mp h;exact⟨u++u',v',by rw[dt],h'⟩
  .rintro⟨u,v,rfl,h⟩;exact⟨u,v,rfl,ib.mpr ⟨[],v,rfl,h⟩⟩
theorem RG{a:Seg}{r r':List Seg}(hn:r=[]↔r'=[])(h:∀p,cC r p↔cC r' p)(p:bj):cC (a::r) p↔cC (a::r') p:=by
 cases a with
 |one as=>
  rw[kL,kL];constructor
  .rintro⟨s,q,e,h1,h2⟩;exact⟨s,q,e,h1,(h q).mp h2⟩
  .rintro⟨s,q,e,h1,h2⟩;exact⟨s,q,e,h1,(h q).mpr h2⟩
 |deep=>
  cases r with
  |nil=>rw[hn.mp rfl]
  |cons b r=>
   cases r' with
   |nil=>cases hn.mpr rfl
   |cons b' r'=>
    rw[ib,ib];constructor
    .rintro⟨s,q,e,h1⟩;exact⟨s,q,e,(h q).mp h1⟩
    .rintro⟨s,q,e,h1⟩;exact⟨s,q,e,(h q).mpr h1⟩
theorem Dw:∀(l:List Seg)(p:bj),cC (ir l) p↔cC l p
 | [],_=>fz
 |a::r,p=>by
  have ih:=Dw r;by_cases q:fh a=J1/\r.head?.map fh=TL J1
  .have e:ir (a::r)=ir r:=by show(if _ then _ else _)=_;rw[J4 q]
   rw[e,ih];have ha:=HG.mp q.1;subst ha;cases r with
   |nil=>cases q.2
   |cons b t=>
    have hb:fh b=true:=by simpa using q.2
    have hb:=HG.mp hb;subst hb;exact RH.symm
  .rw[vo q];refine RG ⟨fun h=>?_,fun h=>by rw[h];rfl⟩ ih p;cases r with
   |nil=>rfl
   |cons b t=>exact J5 h (Lh (by simp))
def nv(l r:List Seg)(st:Bool):Prop:=∀t,(t.head?.map fh=TL J1↔st=J1)->ir (l++t)=r++ir t
theorem Pd(st:Bool):nv [] [] st:=fun _ _=>rfl
theorem Pe{l r:List Seg}{as:List bc}{st:Bool}(h:nv l r J2):nv (l++[.one as]) (r++[.one as]) st:=fun t _=>by
 rw[dt,dt];rw[h ([Seg.one as]++t) (by simp[fh]),show [Seg.one as]++t=.one as::t from rfl,vo (by simp[fh])];rfl
theorem Pf{l r:List Seg}(h:nv l r J1):nv (l++[.deep]) (r++[.deep]) false:=fun t ht=>by
 rw[dt,dt];rw[h ([Seg.deep]++t) (by simp[fh]),show [Seg.deep]++t=.deep::t from rfl,vo (fun z=>by have:=ht.mp z.2;cases this)];rfl
theorem Pc{l r:List Seg}(h:nv l r J1):nv (l++[.deep]) r true:=fun t ht=>by
 rw[dt];rw[h ([Seg.deep]++t) (by simp[fh]),show [Seg.deep]++t=.deep::t from rfl,Ww (ht.mpr rfl)]
def fk(l:List Seg):List Seg:=ir (l.map fm)
def iZ(l:List Seg)(cs:List MC):Prop:=iG cw aQ cb (fk l) cs
theorem xj{l:List Seg}{cs:List MC}(h:iZ l cs){p:bj}(hp:ck p):dJ cs (aD p)↔cC l p:=by
 rw[xl mR h p hp];unfold fk;rw[Dw,sL]
def wt:Seg->Nat
 |.deep=>0
 |.one as=>as.length
theorem AC:∀{as:List bc}{cs:List MC},jC aQ as cs->cs.length=as.length
 |_,_,.nil=>rfl
 |_,_,.cons _ h=>by rw[bH,bH,AC h]
theorem AD:∀{l:List Seg}{cs:List MC},iG cw aQ cb l cs->cs.length<=(l.map fun x=>wt x+1).sum
 |_,_,.lastDeep=>by simp[wt]
 |_,_,.lastOne h=>by simp[wt,AC h]
 |_,_,.deep h=>by
  have:=AD h;simp[wt]at this⊢;lia
 |_,_,.one h h2=>by
  have:=AD h2;have:=AC h;simp[wt]at*;lia
theorem Li:∀(l:List Seg),((ir l).map fun x=>wt x+1).sum<=(l.map fun x=>wt x+1).sum
 | []=>aF _
 |a::r=>by
  have ih:=Li r;by_cases q:fh a=J1/\r.head?.map fh=TL J1
  .have e:ir (a::r)=ir r:=by show(if _ then _ else _)=_;rw[J4 q]
   rw[e,cV,jh];lia
  .rw[vo q,cV,jh,cV,jh];lia
theorem Lj:∀(l:List Seg),((l.map fm).map fun x=>wt x+1).sum<=(l.map fun x=>wt x+1).sum
 | []=>aF _
 |a::r=>by
  have ih:=Lj r;rw[cV,cV,jh,cV,jh]
  have:wt (fm a)<=wt a:=by
   cases a with
   |deep=>exact aF _
   |one as=>exact Dy as
  lia
theorem Jo:∀{ps:List ag}{l:List Seg},dQ ps=TL l->(l.map fun x=>wt x+1).sum<=(ps.map eh).sum+ps.length
 | [],l,h=>by
  have h:TL []=TL l:=h;cases h;exact aF _
 |p::ps,l,h=>by
  rw[qv]at h;cases e1:iq p with
  |none=>rw[e1]at h;cases h
  |some x=>
   cases e2:dQ ps with
   |none=>rw[e1,e2]at h;cases h
   |some r=>
    rw[e1,e2]at h;cases h;have ih:=Jo e2;rw[cV,jh,cV,jh,bH]
    have:wt x<=p.length:=by
     cases x with
     |deep=>exact bI _
     |one as=>exact KW e1
    lia
theorem OE{s:ag}{r:cZ}{cs:List MC}(h:dG s=TL (TL r))(hc:iZ r.segs cs):cs.length<=s.length+4:=by
 by_cases hn:s=[]\/s.head?=TL 35
 .rw[Bq hn]at h;cases h
 .rw[Br hn]at h;obtain⟨r',hr',e⟩:=wy.mp h;cases e;unfold ot at hr';rw[Aw]at hr';obtain⟨l,hl,rfl⟩:=wy.mp hr';have h1:=AD hc;have h2:=Li (l.map fm);have h3:=Lj l;have h4:=Jo hl;unfold fk at h1;simp only at h1
  have h5:∀z:ag,((gT z).map eh).sum+(gT z).length<=z.length+4:=fun z=>by
   unfold gT;rw[split_len];split
   .split
    .rw[cM];lia
    .lia
   .simp only[bH];lia
  have h6:=h5 (if((if(s.head?==TL 33)=J1 then s.drop 1 else s).getLast?==TL 47)=J1 then(if(s.head?==TL 33)=J1 then s.drop 1 else s).dropLast else(if(s.head?==TL 33)=J1 then s.drop 1 else s))
  have h8:∀t:ag,(if(t.getLast?==TL 47)=J1 then t.dropLast else t).length<=t.length:=fun t=>by
   split
   .rw[Ng];lia
   .exact aF _
  have h7:=h8 (if(s.head?==TL 33)=J1 then s.drop 1 else s)
  have h9:(if(s.head?==TL 33)=J1 then s.drop 1 else s).length<=s.length:=by
   split
   .rw[cM];lia
   .exact aF _
  lia
theorem xy{x:ag}(h:(aG 47 x).all gC=J1):ck (aG 47 x):=
 ⟨eZ 47 x,fun s hs=>Hk (gG.mp h s hs)⟩
theorem An{r q:cZ}{cs ds:List MC}{A B:ba}(hc:iZ r.segs cs)(hd:iZ q.segs ds)(PA:jI cs A)(PB:jI ds B)(x:ag):sV A B x↔qS r q x:=by
 unfold sV qS;rw[TX,Jr PA,Jr PB];constructor
 .rintro⟨h1,h2,h3⟩;have g:=xy h1;have e:=lX x;refine⟨(xj hc g).mp (by rw[e];exact h2),(xj hd g).mp (by rw[e];exact h3),h1⟩
 .rintro⟨h2,h3,h1⟩;have g:=xy h1;have e:=lX x;have k2:=(xj hc g).mpr h2;have k3:=(xj hd g).mpr h3;rw[e]at k2 k3;exact⟨h1,k2,k3⟩
def wH(M:ba)(o:Option ag):Prop:=match o with
 |some y=>fF M y/\∀x,fF M x->js y x
 |none=>∀x,¬fF M x
theorem JM{r q:cZ}{cs ds:List MC}{A B M:ba}{o:Option ag}(hc:iZ r.segs cs)(hd:iZ q.segs ds)(PA:jI cs A)(PB:jI ds B)(hM:∀x,fF M x↔sV A B x)(hl:cs.length+ds.length<=63)(h:wH M o):qK r q o:=by
 cases o with
 |none=>
  intro x hx;exact J5 ((hM x).mpr ((An hc hd PA PB x).mpr hx)) (h x)
 |some y=>
  obtain⟨h1,h2⟩:=h;refine⟨⟨(An hc hd PA PB y).mp ((hM y).mp h1),fun x hx=>h2 x ((hM x).mpr ((An hc hd PA PB x).mpr hx))⟩,?_⟩;have:=Ws PA PB ((hM y).mp h1) (fun z hz=>rZ (h2 z ((hM z).mpr hz)));show y.length<=256;lia
end PM
namespace L2
open PySem PySem.Spec PyProof.Rows
abbrev aP:=Sum Int Str
def rW:aP->ae->Bool
 |.inl k,v=>ae.isInt k v
 |.inr x,v=>ae.isStrOf x v
def Qz(w:aH):aP->Int
 |.inl k=>hashInt k
 |.inr x=>hashStr w x
theorem mP:∀{k:aP}{v:ae},rW k v=J1->(∃i t,k=bZ i/\v=kG i t)\/(∃x t,k=pK x/\v=ae.str x t)
 |.inl i,v,h=>by
  obtain⟨t,e⟩:=Fz (k:=i) (v:=v) h;exact .inl ⟨i,t,rfl,e⟩
 |.inr x,v,h=>by
  obtain⟨t,e⟩:=ae.isStrOf_shape (x:=x) (v:=v) h;exact .inr ⟨x,t,rfl,e⟩
theorem QA(i:Int)(t:Tok):rW (.inl i) (.int i t)=true:=by simp[rW,ae.isInt]
theorem QB(x:Str)(t:Tok):rW (.inr x) (.str x t)=true:=by simp[rW,ae.isStrOf]
theorem QC(a b:Int):decide ((bZ a:aP)=bZ b)=(a==b):=by
 by_cases e:a=b
 .subst e;simp
 .have h: ¬(bZ a:aP)=bZ b:=fun q=>e (bZ.inj q);rw[dF h];exact(beq_eq_false_iff_ne.mpr e).symm
theorem QG(a b:Str):decide ((pK a:aP)=pK b)=decide (a=b):=by
 by_cases e:a=b
 .subst e;simp
 .have h: ¬(pK a:aP)=pK b:=fun q=>e (pK.inj q);rw[dF h,dF e]
theorem QD(a:Int)(b:Str):decide ((bZ a:aP)=pK b)=false:=dF (fun q=>nomatch q)
theorem QF(a:Str)(b:Int):decide ((pK a:aP)=bZ b)=false:=dF (fun q=>nomatch q)
def gS(prog:aJ)(w:aH):PySem.KeyKind prog w aP where
 is:=rW
 hash:=Qz w
 inj:=fun v a b ha hb=>by
  rcases mP ha with⟨i,t,rfl,rfl⟩|⟨x,t,rfl,rfl⟩
  .rcases mP hb with⟨j,u,rfl,e⟩|⟨y,u,rfl,e⟩
   .injection e with e1 _;rw[e1]
   .exact nomatch e
  .rcases mP hb with⟨j,u,rfl,e⟩|⟨y,u,rfl,e⟩
   .exact nomatch e
   .injection e with e1 _;rw[e1]
 byValue:=fun k v h=>by
  rcases mP h with⟨i,t,rfl,rfl⟩|⟨x,t,rfl,rfl⟩<;>rfl
 pyHash:=fun hv h=>by
  rcases mP hv with⟨i,t,rfl,rfl⟩|⟨x,t,rfl,rfl⟩
  .exact wpAny_pyHash_int h
  .exact wpAny_pyHash_str h
 eqBool:=fun hu hv h=>by
  rcases mP hu with⟨i,t,rfl,rfl⟩|⟨x,t,rfl,rfl⟩
  .rcases mP hv with⟨j,u,rfl,rfl⟩|⟨y,u,rfl,rfl⟩
   .rw[QC]at h;exact wpAny_eqBool_int h
   .rw[QD]at h;exact fW.int_str i t y u _ _ _ _ h
  .rcases mP hv with⟨j,u,rfl,rfl⟩|⟨y,u,rfl,rfl⟩
   .rw[QF]at h;exact fW.str_int x t j u _ _ _ _ h
   .rw[QG]at h;exact wpAny_eqBool_str h
 «strs» :=fun k x t v h=>by
  rcases mP h with⟨i,u,rfl,e⟩|⟨y,u,rfl,e⟩
  .exact nomatch e
  .injection e with e1 _;subst e1;cases v<;>rfl
theorem RM(prog:aJ)(w:aH)(i:Int)(t:Tok):(gS prog w).is (.inl i) (.int i t)=true:=QA i t
theorem RN(prog:aJ)(w:aH)(x:Str)(t:Tok):(gS prog w).is (.inr x) (.str x t)=true:=QB x t
set_option genInjectivity true in
inductive V where
 |non|bl (b:Bool)|int (i:Int)|str (x:Str)|byt (b:Array UInt8)|flt (b:UInt64)|ref (a:aa)|ty (n:String)
 deriving DecidableEq
def RelV:V->ae->Prop
 |.non,u=>u=iP
 |.bl b,u=>u=pM b
 |.int i,u=>∃t,u=kG i t
 |.str x,u=>∃t,u=ae.str x t
 |.byt b,u=>∃t,u=ae.bytes b t
 |.flt b,u=>∃t,u=ae.float b t
 |.ref a,u=>u=cO a
 |.ty n,u=>u=nP n
abbrev aX:List V->List ae->Prop:=bK RelV
theorem aX.length{xs:List V}{us:List ae}(r:aX xs us):xs.length=us.length:=bK.length r
theorem aX.get:∀{xs:List V}{us:List ae}{i:Nat}{x:V},aX xs us->xs[i]?=TL x->∃u,us[i]?=TL u/\RelV x u
 |_,_,_,_,.nil,e=>by simp at e
 |_,_,0,_,.cons r _,e=>by simp at e;subst e;exact⟨_,rfl,r⟩
 |_,_,i+1,x,.cons _ t,e=>by
  obtain⟨u,h1,h2⟩:=aX.get (i:=i) (x:=x) t (by simpa using e);exact⟨u,by simpa using h1,h2⟩
theorem aX.append:∀{xs ys:List V}{us ws:List ae},aX xs us->aX ys ws->aX (xs++ys) (us++ws)
 |_,_,_,_,.nil,s=>s
 |_,_,_,_,.cons r t,s=>.cons r (aX.append t s)
theorem aX.take:∀{xs:List V}{us:List ae}(n:Nat),aX xs us->aX (xs.take n) (us.take n)
 |_,_,0,_=>.nil
 |_,_,_+1,.nil=>.nil
 |_,_,n+1,.cons r t=>.cons r (aX.take n t)
theorem aX.drop:∀{xs:List V}{us:List ae}(n:Nat),aX xs us->aX (xs.drop n) (us.drop n)
 |_,_,0,r=>r
 |_,_,_+1,.nil=>.nil
 |_,_,n+1,.cons _ t=>aX.drop n t
def fV:Option V->Option ae->Prop
 |some v,TL u=>RelV v u
 |none,J0=>True
 |_,_=>False
def KV{κ:Type}:List (κ×V)->List (κ×ae)->Prop:=bK fun(p:κ×V)(q:κ×ae)=>p.1=q.1/\RelV p.2 q.2
def kV:aP->V
 |.inl i=>.int i
 |.inr x=>.str x
inductive HO where
 |lst (xs:List V)
 |tup (xs:List V)
 |dK (kvs:List (aP×V))|dT (kvs:List (List aP×V))
 |set (S:Int->Bool) (n:Nat)
 |ins (C dx:aa) (fs:List (Str×V))
 |own (x:aa)
 |xd (fs:List (Str×V))
 |met (f x:aa)
 |rng (lo hi:Int)
 |frz (o:Obj) (u:HO)
 |tbl (ps:Array ae)
 |ext (φ:aA->Prop)
abbrev Hp:=aa->Option HO
def ah(H:Hp)(a:aa)(o:HO):Hp:=fun b=>if b=a then TL o else H b
theorem ax{H:Hp}{a:aa}{o:HO}:ah H a o a=TL o:=by unfold ah;rw[J4 rfl]
theorem aO{H:Hp}{a b:aa}{o:HO}(h:b≠a):ah H a o b=H b:=by unfold ah;rw[J3 h]
theorem mS{H:Hp}{a b:aa}{o u:HO}(h:H a=TL o)(h':H b=TL u)(d:o≠u):a≠b:=by
 intro e;subst e;rw[h]at h';exact d (dN h')
theorem dq{H:Hp}{a b:aa}{o:HO}(h:H a=TL o)(h':H b=J0):a≠b:=by
 intro e;subst e;rw[h]at h';cases h'
section
variable(P:aJ)(w:aH)
def dS(H:Hp)(h:aA)(a:aa):HO->Prop
 |.lst xs=>xs.length<=aZ/\∃(its:List ae)(n:Nat),aX xs its/\h.get? a=TL {cls:=.type "list",data:=.seq its.toArray n}
 |.tup xs=>xs.length<=aZ/\∃its:List ae,aX xs its/\IsTup h a its.toArray
 |.dK kvs=>kvs.length<=aZ/\(a==lW)=J2/\∃vs,KV kvs vs/\h.DictOf (gS P w) a vs
 |.dT kvs=>kvs.length<=aZ/\(a==lW)=J2/\∃xs:List (List aP×aa×ae),
   bK (fun(p:List aP×V)(q:List aP×aa×ae)=>p.1=q.1/\H q.2.1=TL (.tup (p.1.map kV))/\RelV p.2 q.2.2) kvs xs/\
   ∃o es ep,h.get? a=TL o/\o.ExactDict/\o.data=.dict es ep/\es.toList=xs.map (entryOfKey (vD (gS P w)))/\(xs.map (·.1)).Nodup
 |.set S n=>h.SetOf (intKind P w) a S n
 |.ins C dx fs=>H dx=TL (.own a)/\fs.length<=1000/\dx≠a/\h.get? a=TL (pG C dx)/\
   ∃mA,h.Ns1 dx mA/\(∀f,fV (fs.lookup f) (mA f))/\Ah mA (fs.map (·.1))
 |.own _=>∃o,h.get? a=TL o
 |.xd fs=>∃mA,h.Ns1 a mA/\∀f,fV (fs.lookup f) (mA f)
 |.rng lo hi=>∃t u v,h.get? a=TL {cls:=.type "range",data:=.fields #[.int lo t,.int hi u,.int 1 v]}
 |.frz o u=>h.get? a=TL o/\dS H h a u
 |.tbl ps=>h.get? a=TL {cls:=.none,data:=.fields ps}
 |.met f x=>h.get? a=TL (Fl (.ref f) (.ref x))
 |.ext φ=>φ h/\(∃o,h.get? a=TL o)/\∀h1 h2:aA,φ h1->(∀o,h1.get? a=TL o->h2.get? a=TL o)->φ h2
def cz(H:Hp)(h:aA):Prop:=∀a o,H a=TL o->dS P w H h a o
end
section
variable{P:aJ}{w:aH}{H H':Hp}{h h':aA}{a:aa}{o:HO}
theorem dS.lt(x:dS P w H h a o):a<h.objs.size:=by
 cases o with
 |lst xs=>obtain⟨_,_,_,_,e⟩:=x;exact bR e
 |tup xs=>obtain⟨_,_,_,p⟩:=x;exact p.lt
 |dK kvs=>obtain⟨_,_,_,_,o,_,_,e,_⟩:=x;exact bR e
 |dT kvs=>obtain⟨_,_,_,_,o,_,_,e,_⟩:=x;exact bR e
 |set S n=>obtain⟨o,_,_,_,e,_⟩:=x;exact bR e
 |ins C dx fs=>obtain⟨_,_,_,e,_⟩:=x;exact bR e
 |own y=>obtain⟨_,e⟩:=x;exact bR e
 |xd fs=>obtain⟨_,⟨_,_,_,e,_⟩,_⟩:=x;exact bR e
 |rng lo hi=>obtain⟨_,_,_,e⟩:=x;exact bR e
 |frz ob u=>obtain⟨e,_⟩:=x;exact bR e
 |tbl ps=>exact bR (show h.get? a=TL _ from x)
 |met f y=>exact bR (show h.get? a=TL _ from x)
 |ext φ=>obtain⟨_,⟨_,e⟩,_⟩:=x;exact bR e
theorem bK.mapP{α β:Type}{F G:α->β->Prop}:∀{l₁:List α}{l₂:List β},bK F l₁ l₂->(∀a b,F a b->G a b)->bK G l₁ l₂
 |_,_,.nil,_=>.nil
 |_,_,.cons r t,f=>.cons (f _ _ r) (bK.mapP t f)
theorem dS.stay(x:dS P w H h a o)(k:∀b u,(b=a\/H b=TL (.own a))->h.get? b=TL u->h'.get? b=TL u)
  (ho:∀b,H b=TL (.own a)->H' b=TL (.own a))(ht:∀b xs,H b=TL (.tup xs)->H' b=TL (.tup xs)):dS P w H' h' a o:=by
 induction o with
 |lst xs=>obtain⟨z,its,n,r,e⟩:=x;exact⟨z,its,n,r,k _ _ (.inl rfl) e⟩
 |tup xs=>obtain⟨z,its,r,ob,e,c⟩:=x;exact⟨z,its,r,ob,k _ _ (.inl rfl) e,c⟩
 |dK kvs=>obtain⟨z,y,vs,r,ob,es,ep,e,c⟩:=x;exact⟨z,y,vs,r,ob,es,ep,k _ _ (.inl rfl) e,c⟩
 |dT kvs=>
  obtain⟨z,y,xs,r,ob,es,ep,e,c⟩:=x;exact⟨z,y,xs,bK.mapP r fun p q z=>⟨z.1,ht _ _ z.2.1,z.2.2⟩,ob,es,ep,k _ _ (.inl rfl) e,c⟩
 |set S n=>obtain⟨ob,es,ep,t,e,c⟩:=x;exact⟨ob,es,ep,t,k _ _ (.inl rfl) e,c⟩
 |ins C dx fs=>
  obtain⟨d,z,ne,e,mA,⟨od,es,ep,e2,c⟩,r⟩:=x;exact⟨ho _ d,z,ne,k _ _ (.inl rfl) e,mA,⟨od,es,ep,k _ _ (.inr d) e2,c⟩,r⟩
 |own y=>obtain⟨ob,e⟩:=x;exact⟨ob,k _ _ (.inl rfl) e⟩
 |xd fs=>obtain⟨mA,⟨od,es,ep,e,c⟩,r⟩:=x;exact⟨mA,⟨od,es,ep,k _ _ (.inl rfl) e,c⟩,r⟩
 |rng lo hi=>obtain⟨t,u,v,e⟩:=x;exact⟨t,u,v,k _ _ (.inl rfl) e⟩
 |frz ob u ih=>obtain⟨e,q⟩:=x;exact⟨k _ _ (.inl rfl) e,ih q⟩
 |tbl ps=>
  have e:h.get? a=TL {cls:=.none,data:=.fields ps}:=x;show h'.get? a=TL {cls:=.none,data:=.fields ps};exact k a _ (.inl rfl) e
 |met f y=>
  have e:h.get? a=TL (Fl (.ref f) (.ref y)):=x;show h'.get? a=TL (Fl (.ref f) (.ref y));exact k a _ (.inl rfl) e
 |ext φ=>obtain⟨p,⟨o,e⟩,st⟩:=x;exact⟨st _ _ p fun o q=>k _ _ (.inl rfl) q,⟨o,k _ _ (.inl rfl) e⟩,st⟩
theorem cz.lt(x:cz P w H h)(e:H a=TL o):a<h.objs.size:=(x a o e).lt
theorem cz.fresh(x:cz P w H h)(e:h.objs.size<=a):H a=none:=by
 cases q:H a with
 |none=>rfl
 |some u=>exact J5 (cR (x.lt q) e) (gI _)
theorem cz.kept(x:cz P w H h)(k:∀b u,h.get? b=TL u->h'.get? b=TL u):cz P w H h':=fun a o e=>
 (x a o e).stay (fun b u _ q=>k b u q) (fun _ q=>q) fun _ _ q=>q
theorem cz.laid(x:cz P w H h)(k:∀b u,h.get? b=TL u->h'.get? b=TL u)(hp:h.objs.size<=a)(new:dS P w (ah H a o) h' a o):cz P w (ah H a o) h':=fun b u e=>by
 have hn:=x.fresh hp;by_cases hb:b=a
 .subst hb;rw[ax]at e;cases e;exact new
 .rw[aO hb]at e;exact(x b u e).stay (fun c v _ q=>k c v q) (fun c q=>by rw[aO (dq q hn)];exact q) fun c xs q=>by rw[aO (dq q hn)];exact q
end
def Rd(H:Hp)(a:aa)(u:HO):Prop:=H a=TL u\/∃o,H a=TL (.frz o u)
theorem Rd.ok{P:aJ}{w:aH}{H:Hp}{h:aA}{a:aa}{u:HO}(r:Rd H a u)(x:cz P w H h):dS P w H h a u:=by
 rcases r with r|⟨o,r⟩
 .exact x a u r
 .obtain⟨_,q⟩:=x a _ r;exact q
def tH:Option HO->Prop
 |some (.lst _)=>True
 |some (.dK _)=>True
 |some (.dT _)=>True
 |some (.set _ _)=>True
 |some (.ins _ _ _)=>True
 |some (.ext _)=>True
 |_=>False
section
variable{P:aJ}{w:aH}{H:Hp}{h h':aA}{x e:aa}{o':HO}
theorem cz.write(ok:cz P w H h)(mu:tH (H x))(he:e=x\/H e=TL (.own x))(k:∀b u,b≠e->h.get? b=TL u->h'.get? b=TL u)(heo:∃u,h'.get? e=TL u)
  (new:dS P w (ah H x o') h' x o'):cz P w (ah H x o') h':=fun b u q=>by
 have nown:∀c y,H c=TL (.own y)->c≠x:=fun c y r z=>by subst z;rw[r]at mu;exact mu
 have ntup:∀c xs,H c=TL (.tup xs)->c≠x:=fun c xs r z=>by subst z;rw[r]at mu;exact mu
 by_cases hb:b=x
 .subst hb;rw[ax]at q;cases q;exact new
 .rw[aO hb]at q;by_cases hbe:b=e
  .have q':H b=TL (.own x):=by
    rcases he with z|z
    .exact J5 (hbe.trans z) hb
    .rw[hbe];exact z
   rw[q]at q';cases q';obtain⟨v,hv⟩:=heo;exact⟨v,by rw[hbe];exact hv⟩
  .refine(ok b u q).stay (fun c v hc r=>k c v ?_ r) (fun c r=>by rw[aO (nown c b r)];exact r) fun c xs r=>by rw[aO (ntup c xs r)];exact r
   rcases hc with rfl|hc
   .exact hbe
   .rintro rfl;rcases he with z|z
    .exact nown c b hc z
    .rw[hc]at z;cases z;exact hb rfl
end
structure Un(fs ex:List aa)(H H':Hp)(h h':aA):Prop where
 keep:∀b o,h.get? b=TL o->H b=J0->b∉fs->b∉ex->h'.get? b=TL o
 slot:∀b o,h.get? b=TL o->H b=J0->b∈fs->b∉ex->∃sl,h'.get? b=TL {o with slots:=sl}
 free:∀b o,h.get? b=TL o->H b=J0->b∉ex->H' b=J0
 there:∀b o,h.get? b=TL o->b∉ex->∃o',h'.get? b=TL o'
 tups:∀b xs,H b=TL (.tup xs)->H' b=TL (.tup xs)
 frzs:∀b o u,H b=TL (.frz o u)->H' b=TL (.frz o u)
 tbls:∀b ps,H b=TL (.tbl ps)->∃more,H' b=TL (.tbl (ps++more))
section
variable{fs fs' ex ex':List aa}{H H1 H2:Hp}{h h1 h2 h':aA}{a x e:aa}{o:HO}
theorem Un.any(u:Un fs ex H H1 h h1){b:aa}{ob:Obj}(q:h.get? b=TL ob)(n:H b=J0)(hx:b∉ex):∃sl,h1.get? b=TL {ob with slots:=sl}:=by
 by_cases hb:b∈fs
 .exact u.slot b ob q n hb hx
 .exact⟨ob.slots,u.keep b ob q n hb hx⟩
theorem Un.kept(k:∀b u,h.get? b=TL u->h'.get? b=TL u):Un fs ex H H h h':=
 ⟨fun b ob q _ _ _=>k b ob q,fun b ob q _ _ _=>⟨ob.slots,k b ob q⟩,fun _ _ _ n _=>n,fun b ob q _=>⟨ob,k b ob q⟩,fun _ _ q=>q,fun _ _ _ q=>q,fun _ ps q=>⟨#[],by rw[q];simp⟩⟩
theorem Un.refl:Un fs ex H H h h:=Un.kept fun _ _ q=>q
theorem Un.laid(k:∀b u,h.get? b=TL u->h'.get? b=TL u)(hp:h.objs.size<=a)(hn:H a=J0):Un fs ex H (ah H a o) h h' where
 keep:=fun b u q _ _ _=>k b u q
 slot:=fun b u q _ _ _=>⟨u.slots,k b u q⟩
 free:=fun b u q n _=>by rw[aO (cJ (cR (bR q) hp))];exact n
 there:=fun b u q _=>⟨u,k b u q⟩
 tups:=fun b xs q=>by rw[aO (dq q hn)];exact q
 frzs:=fun b u xs q=>by rw[aO (dq q hn)];exact q
 tbls:=fun b ps q=>⟨#[],by rw[aO (dq q hn),q];simp⟩
theorem Un.write(mu:tH (H x))(he:e=x\/H e=TL (.own x))(k:∀b u,b≠e->h.get? b=TL u->h'.get? b=TL u)(heo:∃u,h'.get? e=TL u):Un fs ex H (ah H x o) h h':=by
 have hx:∀b,H b=J0->b≠x:=fun b n z=>by subst z;rw[n]at mu;exact mu
 have hb:∀b,H b=J0->b≠e:=fun b n z=>by
  subst z;rcases he with r|r
  .exact hx b n r
  .rw[n]at r;cases r
 have hm:∀b u,H b=TL u-> ¬tH (TL u)->b≠x:=fun b u q nm z=>by subst z;rw[q]at mu;exact nm mu
 refine⟨fun b u q n _ _=>k b u (hb b n) q,fun b u q n _ _=>⟨u.slots,k b u (hb b n) q⟩,fun b u q n _=>by rw[aO (hx b n)];exact n,fun b u q _=>?_,
  fun b xs q=>by rw[aO (hm b _ q fun z=>z)];exact q,fun b u xs q=>by rw[aO (hm b _ q fun z=>z)];exact q,fun b ps q=>⟨#[],by rw[aO (hm b _ q fun z=>z),q];simp⟩⟩
 by_cases hbe:b=e
 .subst hbe;exact heo
 .exact⟨u,k b u hbe q⟩
end
noncomputable def yM(h:aA)(H:Hp):List aa:=(er h.objs.size).filter fun a=>(H a).isSome
def mK(h:aA)(H:Hp):aA:=PySem.W.hideAll h (yM h H)
theorem Qm(h:aA)(H:Hp):(mK h H).objs.size=h.objs.size:=PySem.W.hideAll_size _ _
theorem Be{h:aA}{H:Hp}{b:aa}{o:Obj}(e:h.get? b=TL o)(n:H b=J0):(mK h H).get? b=TL o:=
 PySem.W.hideAll_get _ e fun hm=>by
  have q:(H b).isSome=true:=(qR.mp hm).2;rw[n]at q;simp at q
theorem Sm{h:aA}{H:Hp}{b:aa}{o:Obj}(e:(mK h H).get? b=TL o):h.get? b=TL o/\H b=none:=by
 have e':h.get? b=TL o:=PySem.W.of_hideAll (yM h H) e;refine⟨e',?_⟩;cases q:H b with
 |none=>rfl
 |some x=>
  have hm:b∈yM h H:=qR.mpr ⟨mr.mpr (bR e'),by simp[q]⟩;have z:(mK h H).get? b=none:=PySem.W.hideAll_none (yM h H) hm;rw[z]at e;cases e
noncomputable def wV(g h:aA)(L:aa):List (aa×Obj):=(er h.objs.size).filterMap fun a=>if a=L\/(g.get? a).isSome=J1 then J0 else(h.get? a).map fun o=>(a,o)
theorem IB{g h:aA}{L a:aa}{o:Obj}(h1:a≠L)(h2:g.get? a=J0)(h3:h.get? a=TL o):(a,o)∈wV g h L:=
 lg.mpr ⟨a,mr.mpr (bR h3),by simp[h1,h2,h3]⟩
theorem IR{g h:aA}{L:aa}{p:aa×Obj}(hp:p∈wV g h L):p.1≠L/\g.get? p.1=J0/\h.get? p.1=TL p.2:=by
 obtain⟨b,_,e⟩:=lg.mp hp;split at e
 .cases e
 .rename_i hn
  cases q:h.get? b with
  |none=>rw[q]at e;simp at e
  |some u=>
   rw[q]at e;simp only[ly,Ny.injEq]at e;subst e;refine⟨fun z=>hn (.inl z),?_,q⟩;show g.get? b=J0;cases r:g.get? b with
   |none=>rfl
   |some v=>exact(hn (.inr (by simp[r]))).elim
theorem RS{g h:aA}{L:aa}:News g L h (wV g h L):=fun p hp=>let⟨a,b,c⟩:=IR hp;⟨c,a,b⟩
structure Mod(K:aw)(mg:Str->Option ae)(base:aA):Prop where
 kin:K.In base
 glob:base.Ns fi mg
 blt:∃mb,base.Ns nV mb/\∀x:Str,x≠"__name__"->mb x=rK x
 nolimit:base.NoLimit
structure Cx where
 prog:aJ
 w:aH
 K:aw
 mg:Str->Option ae
 base:aA
 A:bM
 N:List Str
 s_0:aj
 H_0:Hp
 env:Env
 outer:List Env
 stack:List Env
 ex:List aa
 fn:Str->Bool
 calm:Bool
 pn:List (aa×Obj)
 xe:ae->aj->Prop
noncomputable def cq(l:List Env):List aa:=l.filterMap (·.frame)
abbrev Cx.fs(X:Cx):List aa:=cq X.outer
def rB(sc:cN)(x:Str):Prop:=sc.names.lookup x=TL .local\/sc.names.lookup x=TL .cell\/sc.names.lookup x=TL .free
def Loc(sc:cN)(x:Str):Prop:=sc.names.lookup x=TL .local\/sc.names.lookup x=TL .cell
def Np(env:Env)(h:aA)(m:Str->Option ae)(x:Str)(u:ae):Prop:=
 (env.kindOf x=TL .local/\m x=TL u)\/((env.kindOf x=TL .cell\/env.kindOf x=TL .free)/\∃c,env.cells.lookup x=TL c/\h.IsCell c (TL u))
structure Cx.Ok(X:Cx):Prop where
 mod:Mod X.K X.mg X.base
 kind:X.env.scope.kind=.function
 glob:X.env.globals=fi
 blt:X.env.builtins=nV
 above:X.s_0.heap.objs.size<=X.env.locals
 inj:∀x y c,X.env.cells.lookup x=TL c->X.env.cells.lookup y=TL c->x=y
 has:∀x,(X.env.kindOf x=TL .cell\/X.env.kindOf x=TL .free)->∃c,X.env.cells.lookup x=TL c
 cab:∀x c,X.fn x=J1->X.env.cells.lookup x=TL c->X.s_0.heap.objs.size<=c
 hd:X.calm=J1->X.A.handled=J0
 frames:X.A.frames=TL X.stack
 stk:X.stack=X.outer\/(X.stack=X.env::X.outer/\X.env.frame=TL X.env.locals)
 exf:∀b∈X.ex,b≠X.env.locals/\∀x c,X.env.cells.lookup x=TL c->c≠b
 bs:∀b o,X.base.get? b=TL o->X.s_0.heap.get? b=TL o/\X.H_0 b=J0
 bsz:X.base.objs.size<=X.s_0.heap.objs.size
 noex:∀b o,X.base.get? b=TL o->b∉X.ex
 exfs:∀b∈X.ex,b∉X.fs
 funs:X.s_0.heap.FunFrames X.base X.outer
 frf:∀b∈X.fs,X.H_0 b=J0
structure Inv(X:Cx)(pins:List (aa×Obj))(σ:List (Option V))(H:Hp)(s:aj):Prop where
 ok:X.Ok
 os:s.os=X.s_0.os
 bare:nq s.gens
 base:Un X.fs X.ex X.H_0 H X.s_0.heap s.heap
 loc:∃m,s.heap.Ns X.env.locals m/\∀(i:Nat)(x:Str)(v:V),X.N[i]?=TL x->σ[i]?=TL (TL v)->rB X.env.scope x->∃u,RelV v u/\Np X.env s.heap m x u
 cell:∀x c,X.env.cells.lookup x=TL c->∃v,s.heap.IsCell c v
 free:H X.env.locals=J0
 freeC:∀x c,X.env.cells.lookup x=TL c->H c=J0
 pin:∀p∈X.pn++pins,s.heap.get? p.1=TL p.2/\H p.1=J0/\p.1≠X.env.locals/\p.1∉X.fs/\∀v,p.2.data≠.cell v
 hok:cz X.prog X.w H s.heap
 len:σ.length=X.N.length
section
variable{X:Cx}{pins:List (aa×Obj)}{σ:List (Option V)}{H H':Hp}{s:aj}{h':aA}
theorem Cx.Ok.nofr(ok:X.Ok){b:aa}{o:Obj}(e:X.base.get? b=TL o):b∉X.fs:=fun hb=>by
 have:=(ok.funs.mem hb).1;rw[e]at this;cases this
theorem Inv.bs(I:Inv X pins σ H s):∀b o,X.base.get? b=TL o->s.heap.get? b=TL o/\H b=none:=fun b o e=>
 ⟨I.base.keep b o (I.ok.bs b o e).1 (I.ok.bs b o e).2 (I.ok.nofr e) (I.ok.noex b o e),I.base.free b o (I.ok.bs b o e).1 (I.ok.bs b o e).2 (I.ok.noex b o e)⟩
theorem Inv.bk(I:Inv X pins σ H s):∀b o,X.base.get? b=TL o->s.heap.get? b=TL o:=fun b o e=>(I.bs b o e).1
theorem Inv.mod(I:Inv X pins σ H s):Mod X.K X.mg X.base:=I.ok.mod
theorem Inv.kIn(I:Inv X pins σ H s):X.K.In s.heap:=I.ok.mod.kin.keeps I.bk
theorem Inv.fr(I:Inv X pins σ H s):∃m,Fr X.base X.env.locals s.heap m:=
 let⟨m,hn,_⟩:=I.loc
 ⟨m,hn,I.bk,dM I.ok.bsz I.ok.above⟩
theorem Inv.lt(I:Inv X pins σ H s):X.env.locals<s.heap.objs.size:=let⟨_,hn,_⟩:=I.loc;hn.lt
theorem Inv.sz(I:Inv X pins σ H s):X.s_0.heap.objs.size<=s.heap.objs.size:=dM I.ok.above (jH I.lt)
theorem Inv.nofs(I:Inv X pins σ H s){a:aa}(h:s.heap.objs.size<=a):a∉X.fs:=fun hb=>by
 obtain⟨_,o,ho,_⟩:=I.ok.funs.mem hb;exact J5 (cR (bR ho) (dM I.sz h)) (gI _)
theorem Inv.cne(I:Inv X pins σ H s):∀x c,X.env.cells.lookup x=TL c->c≠X.env.locals:=fun x c e z=>by
 obtain⟨v,o,ho,hd⟩:=I.cell x c e;obtain⟨m,⟨o',es,ep,ho',hd',_⟩,_⟩:=I.loc;rw[z,ho']at ho;cases ho;rw[hd']at hd;cases hd
theorem Inv.funs(I:Inv X pins σ H s):s.heap.FunFrames X.base X.outer:=by
 have all:∀(l:List Env),(∀b∈cq l,b∈X.fs)->X.s_0.heap.FunFrames X.base l->s.heap.FunFrames X.base l:=by
  intro l
  induction l with
  |nil=>intro _ _;trivial
  |cons env r ih=>
   intro hs hl;obtain⟨hk,⟨L,o,hf,hn,ho,hd⟩,hr⟩:=hl;have hL:L∈X.fs:=hs L (by unfold cq;rw[tq,hf];exact dI);obtain⟨sl,e⟩:=I.base.slot L o ho (I.ok.frf L hL) hL fun z=>I.ok.exfs L z hL;exact⟨hk,⟨L,_,hf,hn,e,hd⟩,ih (fun b hb=>hs b (by unfold cq;rw[tq,hf];exact bX _ hb)) hr⟩
 exact all X.outer (fun _ hb=>hb) I.ok.funs
theorem Inv.stack(I:Inv X pins σ H s):s.heap.FunFrames X.base X.stack:=by
 rcases I.ok.stk with e|⟨e,hf⟩
 .rw[e];exact I.funs
 .rw[e];obtain⟨m,hn,_⟩:=I.loc;refine .cons (by rw[I.ok.kind];decide) hf hn ?_ I.funs;exact MY (dM I.ok.bsz I.ok.above)
theorem Inv.stkSub(I:Inv X pins σ H s):∀b∈cq X.stack,b∈X.env.locals::X.fs:=fun b hb=>by
 rcases I.ok.stk with e|⟨e,hf⟩
 .rw[e]at hb;exact bX _ hb
 .rw[e]at hb;unfold cq at hb;rw[tq,hf]at hb;exact hb
theorem Inv.stkFree(I:Inv X pins σ H s):∀b∈cq X.stack,H b=none:=fun b hb=>by
 rcases bg.mp (I.stkSub b hb)with e|hb
 .rw[e];exact I.free
 .obtain⟨_,o,ho,_⟩:=I.ok.funs.mem hb;exact I.base.free b o ho (I.ok.frf b hb) fun z=>I.ok.exfs b z hb
theorem Inv.step{g':Array GenState}{t':Nat}{d':Drawn}{ch:List aa}(I:Inv X pins σ H s)
  (hch:∀b∈ch,(b∈X.ex\/X.s_0.heap.objs.size<=b)/\b≠X.env.locals/\(∀x c,X.env.cells.lookup x=TL c->c≠b)/\∀p∈X.pn++pins,p.1≠b)
  (keep:∀b o,b≠X.env.locals->b∉X.fs->b∉ch->s.heap.get? b=TL o->H b=J0->h'.get? b=TL o)
  (slot:∀b o,b≠X.env.locals->b∈X.fs->b∉ch->s.heap.get? b=TL o->H b=J0->∃sl,h'.get? b=TL {o with slots:=sl})(free:∀b o,b∉ch->s.heap.get? b=TL o->H b=J0->H' b=J0)
  (there:∀b o,b∉ch->s.heap.get? b=TL o->∃o',h'.get? b=TL o')
  (tups:∀b xs,H b=TL (.tup xs)->H' b=TL (.tup xs))(frzs:∀b o u,H b=TL (.frz o u)->H' b=TL (.frz o u))(tbls:∀b ps,H b=TL (.tbl ps)->∃more,H' b=TL (.tbl (ps++more)))
  (ns:∀m,s.heap.Ns X.env.locals m->h'.Ns X.env.locals m)(hok:cz X.prog X.w H' h')(hg:nq g'):
  Inv X pins σ H' {s with heap:=h',gens:=g',drawn:=d',toks:=t'}:=by
 have neL:∀b o,X.s_0.heap.get? b=TL o->b≠X.env.locals:=fun b o e=>cJ (cR (bR e) I.ok.above)
 have neC:∀b o,X.s_0.heap.get? b=TL o->b∉X.ex->b∉ch:=fun b o e hx hb=>by
  rcases(hch b hb).1 with z|z
  .exact hx z
  .exact J5 (cR (bR e) z) (gI _)
 have cellK:∀x c,X.env.cells.lookup x=TL c->∀v,s.heap.IsCell c v->h'.IsCell c v:=fun x c e v⟨o,ho,hd⟩=>by
  have nch:c∉ch:=fun z=>(hch c z).2.2.1 x c e rfl;by_cases hc:c∈X.fs
  .obtain⟨sl,q⟩:=slot c o (I.cne x c e) hc nch ho (I.freeC x c e);exact⟨_,q,hd⟩
  .exact⟨o,keep c o (I.cne x c e) hc nch ho (I.freeC x c e),hd⟩
 refine⟨I.ok,I.os,hg,⟨fun b o e n hb hx=>?_,fun b o e n hb hx=>?_,fun b o e n hx=>?_,fun b o e hx=>?_,fun b xs e=>tups b xs (I.base.tups b xs e),fun b o xs e=>frzs b o xs (I.base.frzs b o xs e),fun b ps e=>?_⟩,?_,fun x c e=>?_,?_,fun x c e=>?_,fun p hp=>?_,hok,I.len⟩
 .exact keep b o (neL b o e) hb (neC b o e hx) (I.base.keep b o e n hb hx) (I.base.free b o e n hx)
 .obtain⟨sl,e1⟩:=I.base.slot b o e n hb hx;obtain⟨sl',e2⟩:=slot b _ (neL b o e) hb (neC b o e hx) e1 (I.base.free b o e n hx);exact⟨sl',e2⟩
 .obtain⟨o',e1⟩:=I.base.there b o e hx;exact free b o' (neC b o e hx) e1 (I.base.free b o e n hx)
 .obtain⟨o',e1⟩:=I.base.there b o e hx;exact there b o' (neC b o e hx) e1
 .obtain⟨m1,e1⟩:=I.base.tbls b ps e;obtain⟨m2,e2⟩:=tbls b _ e1;exact⟨m1++m2,by rw[e2,Array.append_assoc]⟩
 .obtain⟨m,hn,hl⟩:=I.loc;refine⟨m,ns m hn,fun i x v e1 e2 e3=>?_⟩;obtain⟨u,r,l⟩:=hl i x v e1 e2 e3;refine⟨u,r,?_⟩;rcases l with l|⟨k,c,e,z⟩
  .exact .inl l
  .exact .inr ⟨k,c,e,cellK x c e _ z⟩
 .obtain⟨v,z⟩:=I.cell x c e;exact⟨v,cellK x c e v z⟩
 .obtain⟨m,⟨o,_,_,ho,_⟩,_⟩:=I.loc;exact free _ o (fun z=>(hch _ z).2.1 rfl) ho I.free
 .obtain⟨v,o,ho,hd⟩:=I.cell x c e;exact free c o (fun z=>(hch c z).2.2.1 x c e rfl) ho (I.freeC x c e)
 .obtain⟨e,n,ne,nf,d⟩:=I.pin p hp;have nch:p.1∉ch:=fun z=>(hch p.1 z).2.2.2 p hp rfl;exact⟨keep p.1 p.2 ne nf nch e n,free p.1 p.2 nch e n,ne,nf,d⟩
theorem Inv.un{t':Nat}(I:Inv X pins σ H s)(u:Un X.fs [] H H' s.heap h')(hok:cz X.prog X.w H' h'):Inv X pins σ H' {s with heap:=h',toks:=t'}:=by
 obtain⟨m,⟨o,es,ep,ho,r⟩,_⟩:=id I.loc;obtain⟨sl,hL⟩:=u.any ho I.free (by simp)
 exact I.step (g':=s.gens) (d':=s.drawn) (ch:=[]) (fun _ z=>nomatch z) (fun b o _ hb _ e n=>u.keep b o e n hb (by simp)) (fun b o _ hb _ e n=>u.slot b o e n hb (by simp)) (fun b o _ e n=>u.free b o e n (by simp)) (fun b o _ e=>u.there b o e (by simp)) u.tups u.frzs u.tbls (fun m' hm=>by
  obtain⟨o',es',ep',ho',r'⟩:=hm;rw[ho]at ho';cases ho';exact⟨_,es',ep',hL,r'⟩) hok I.bare
theorem Inv.call{g':Array GenState}{t':Nat}{d':Drawn}{ch:List aa}(I:Inv X pins σ H s)(u:Un (cq X.stack) ch H H' s.heap h')(hok:cz X.prog X.w H' h')(hg:nq g')
  (hch:∀b∈ch,(b∈X.ex\/X.s_0.heap.objs.size<=b)/\b≠X.env.locals/\(∀x c,X.env.cells.lookup x=TL c->c≠b)/\∀p∈X.pn++pins,p.1≠b):
  Inv X pins σ H' {s with heap:=h',gens:=g',drawn:=d',toks:=t'}:=by
 obtain⟨m,⟨o,es,ep,ho,r⟩,_⟩:=id I.loc;obtain⟨sl,hL⟩:=u.any ho I.free fun z=>(hch _ z).2.1 rfl
 exact I.step (ch:=ch) hch (fun b o hL hb hc e n=>u.keep b o e n (fun z=>(bg.mp (I.stkSub b z)).elim hL hb) hc) (fun b o _ _ hc e n=>u.any e n hc) (fun b o hc e n=>u.free b o e n hc) (fun b o hc e=>u.there b o e hc) u.tups u.frzs u.tbls (fun m' hm=>by
  obtain⟨o',es',ep',ho',r'⟩:=hm;rw[ho]at ho';cases ho';exact⟨_,es',ep',hL,r'⟩) hok hg
theorem Inv.turned{t':Nat}{it:aa}(I:Inv X pins σ H s)(k:∀b o,b≠it->s.heap.get? b=TL o->h'.get? b=TL o)(hn:H it=J0)(hL:it≠X.env.locals)
  (h1:it∈X.ex\/X.s_0.heap.objs.size<=it)(h2:∀x c,X.env.cells.lookup x=TL c->c≠it)(h3:∀p∈X.pn++pins,p.1≠it):Inv X pins σ H {s with heap:=h',toks:=t'}:=by
 have nit:∀b u,H b=TL u->b≠it:=fun b u e z=>by rw[z,hn]at e;cases e
 refine I.step (g':=s.gens) (d':=s.drawn) (ch:=[it]) (fun b hb=>?_) (fun b o _ _ hc e _=>k b o (fun z=>hc (by simp[z])) e) (fun b o _ _ hc e _=>⟨o.slots,k b o (fun z=>hc (by simp[z])) e⟩) (fun _ _ _ _ n=>n)
  (fun b o hc e=>⟨o,k b o (fun z=>hc (by simp[z])) e⟩) (fun _ _ e=>e) (fun _ _ _ e=>e) (fun b ps e=>⟨#[],by rw[e];simp⟩) (fun m hm=>?_) (fun b u e=>?_) I.bare
 .have e:b=it:=by simpa using hb
  subst e;exact⟨h1,hL,h2,h3⟩
 .obtain⟨o,es,ep,ho,r⟩:=hm;exact⟨o,es,ep,k _ o (br hL) ho,r⟩
 .refine(I.hok b u e).stay (fun c v hc q=>k c v ?_ q) (fun _ q=>q) fun _ _ q=>q;rcases hc with z|z
  .rw[z];exact nit b u e
  .exact nit c _ z
theorem Inv.tok(I:Inv X pins σ H s)(t:Nat):Inv X pins σ H {s with toks:=t}:=I.un (h':=s.heap) (t':=t) Un.refl I.hok
theorem Inv.kept{t':Nat}(I:Inv X pins σ H s)(k:∀b u,s.heap.get? b=TL u->h'.get? b=TL u):Inv X pins σ H {s with heap:=h',toks:=t'}:=I.un (Un.kept k) (I.hok.kept k)
theorem Inv.laid{a:aa}{o:HO}{t':Nat}(I:Inv X pins σ H s)(k:∀b u,s.heap.get? b=TL u->h'.get? b=TL u)(hp:s.heap.objs.size<=a)(new:dS X.prog X.w (ah H a o) h' a o):
  Inv X pins σ (ah H a o) {s with heap:=h',toks:=t'}:=I.un (Un.laid k hp (I.hok.fresh hp)) (I.hok.laid k hp new)
theorem Inv.write{x e:aa}{o:HO}{t':Nat}(I:Inv X pins σ H s)(mu:tH (H x))(he:e=x\/H e=TL (.own x))(k:∀b u,b≠e->s.heap.get? b=TL u->h'.get? b=TL u)(heo:∃u,h'.get? e=TL u)
  (new:dS X.prog X.w (ah H x o) h' x o):Inv X pins σ (ah H x o) {s with heap:=h',toks:=t'}:=I.un (Un.write mu he k heo) (I.hok.write mu he k heo new)
theorem Inv.weak{σ':List (Option V)}(I:Inv X pins σ H s)(hl:σ'.length=σ.length)(w:∀(i:Nat) v,σ'[i]?=TL (TL v)->σ[i]?=TL (TL v)):Inv X pins σ' H s:=
 ⟨I.ok,I.os,I.bare,I.base,let⟨m,hn,hl'⟩:=I.loc;⟨m,hn,fun i x v e1 e2 e3=>hl' i x v e1 (w i v e2) e3⟩,I.cell,I.free,I.freeC,I.pin,I.hok,hl.trans I.len⟩
theorem Inv.pins_of{pins':List (aa×Obj)}(I:Inv X pins σ H s)(h:∀p∈pins',s.heap.get? p.1=TL p.2/\H p.1=J0/\p.1≠X.env.locals/\p.1∉X.fs/\∀v,p.2.data≠.cell v):Inv X pins' σ H s:=
 ⟨I.ok,I.os,I.bare,I.base,I.loc,I.cell,I.free,I.freeC,fun p hp=>(cn.mp hp).elim (fun z=>I.pin p (cW _ z)) (h p),I.hok,I.len⟩
theorem BJ{N:List Str}(hN:N.Nodup){i j:Nat}{x:Str}(a:N[i]?=TL x)(b:N[j]?=TL x):i=j:=by
 obtain⟨h1,e1⟩:=aK.mp a;obtain⟨h2,e2⟩:=aK.mp b;exact(List.getElem_inj hN).mp (e1.trans e2.symm)
theorem DI{M:Model}{A:bM}{E:ae->aj->Prop}{i:Nat}{x:Str}{v:V}{u:ae}{Q:Unit->aj->Prop}(I:Inv X pins σ H s)(hN:X.N.Nodup)(hi:X.N[i]?=TL x)(hx:Loc X.env.scope x)(r:RelV v u)
  (h:∀s',Inv X pins (σ.set i (TL v)) H s'->(∃a,me a s.heap s'.heap/\(a=X.env.locals\/X.env.cells.lookup x=TL a))->Q () s')(hf:X.fn x=J1\/X.env.scope.names.lookup x=TL .local:=by k_is):az M A (storeName X.env x u) Q E s:=by
 obtain⟨m,hn,hl⟩:=id I.loc;have hcls:(X.env.scope.kind== .class||(X.env.scope.kind== .module&&X.env.locals != X.env.globals))=false:=by rw[I.ok.kind];rfl
 have hiσ:i<σ.length:=by rw[I.len];exact(aK.mp hi).1
 have cne:=I.cne
 have tracked:∀{a:aa}{h':aA},(∃o,s.heap.get? a=TL o/\H a=J0)->me a s.heap h'->cz X.prog X.w H h':=fun{a h'} ha hs b ob e=>by
  obtain⟨_,_,hfree⟩:=ha;refine(I.hok b ob e).stay (fun c w' hc q=>(hs.2 c ?_).trans q) (fun _ q=>q) fun _ _ q=>q;rintro rfl;rcases hc with rfl|hc
  .rw[hfree]at e;cases e
  .rw[hfree]at hc;cases hc
 rcases hx with hk|hk
 .refine wpAny_storeName_local hk hn (fun h' hn' hs=>?_) hcls;obtain⟨oL,_,_,hoL,_⟩:=id hn;refine h _ ⟨I.ok,I.os,I.bare,⟨fun b o e n hb hx=>?_,fun b o e n hb hx=>?_,I.base.free,fun b o e hx=>?_,I.base.tups,I.base.frzs,I.base.tbls⟩,⟨_,hn',fun j y v' e1 e2 e3=>?_⟩,fun y c e=>?_,I.free,I.freeC,fun p hp=>?_,tracked ⟨oL,hoL,I.free⟩ hs,by simpa using I.len⟩ ⟨_,hs,.inl rfl⟩
  .exact(hs.2 b (cJ (cR (bR e) I.ok.above))).trans (I.base.keep b o e n hb hx)
  .obtain⟨sl,e1⟩:=I.base.slot b o e n hb hx;exact⟨sl,(hs.2 b (cJ (cR (bR e) I.ok.above))).trans e1⟩
  .obtain⟨o',e1⟩:=I.base.there b o e hx;exact⟨o',(hs.2 b (cJ (cR (bR e) I.ok.above))).trans e1⟩
  .by_cases hj:j=i
   .subst hj;rw[hi]at e1;cases e1;rw[tD hiσ]at e2;cases e2;exact⟨u,r,.inl ⟨hk,by simp⟩⟩
   .rw[qP (br hj)]at e2;obtain⟨u',r',q⟩:=hl j y v' e1 e2 e3;refine⟨u',r',?_⟩;rcases q with⟨k,e⟩|⟨k,c,e,z⟩
    .refine .inl ⟨k,?_⟩;have:y≠x:=fun e=>hj (BJ hN e1 (e▸hi));simp[this,e]
    .exact .inr ⟨k,c,e,z.sameBut hs (cne y c e)⟩
  .obtain⟨w',z⟩:=I.cell y c e;exact⟨w',z.sameBut hs (cne y c e)⟩
  .obtain⟨e,n,ne,nf,d⟩:=I.pin p hp;exact⟨(hs.2 p.1 ne).trans e,n,ne,nf,d⟩
 .have hfn:X.fn x=true:=by
   rcases hf with z|z
   .exact z
   .rw[z]at hk;cases hk
  obtain⟨c,hc⟩:=I.ok.has x (.inl hk);obtain⟨w',z⟩:=I.cell x c hc;refine wpAny_storeName_cell I.ok.kind hk hc z (fun h' hc' hs=>?_);obtain⟨oc,hoc,hocd⟩:=id z;refine h {s with heap:=h'} ⟨I.ok,I.os,I.bare,⟨fun b o e n hb hx=>?_,fun b o e n hb hx=>?_,I.base.free,fun b o e hx=>?_,I.base.tups,I.base.frzs,I.base.tbls⟩,⟨m,hn.sameBut hs (br (cne x c hc)),fun j y v' e1 e2 e3=>?_⟩,fun y c' e=>?_,I.free,I.freeC,fun p hp=>?_,tracked ⟨oc,hoc,I.freeC x c hc⟩ hs,by simpa using I.len⟩ ⟨c,hs,.inr hc⟩
  .exact(hs.2 b (cJ (cR (bR e) (I.ok.cab x c hfn hc)))).trans (I.base.keep b o e n hb hx)
  .obtain⟨sl,e1⟩:=I.base.slot b o e n hb hx;exact⟨sl,(hs.2 b (cJ (cR (bR e) (I.ok.cab x c hfn hc)))).trans e1⟩
  .obtain⟨o',e1⟩:=I.base.there b o e hx;exact⟨o',(hs.2 b (cJ (cR (bR e) (I.ok.cab x c hfn hc)))).trans e1⟩
  .by_cases hj:j=i
   .subst hj;rw[hi]at e1;cases e1;rw[tD hiσ]at e2;cases e2;exact⟨u,r,.inr ⟨.inl hk,c,hc,hc'⟩⟩
   .rw[qP (br hj)]at e2;obtain⟨u',r',q⟩:=hl j y v' e1 e2 e3;refine⟨u',r',?_⟩;rcases q with q|⟨k,c',e,z'⟩
    .exact .inl q
    .refine .inr ⟨k,c',e,z'.sameBut hs ?_⟩;rintro rfl;exact hj (BJ hN e1 (I.ok.inj _ _ _ e hc▸hi))
  .by_cases hcc:c'=c
   .subst hcc;exact⟨_,hc'⟩
   .obtain⟨w2,z2⟩:=I.cell y c' e;exact⟨w2,z2.sameBut hs hcc⟩
  .obtain⟨e,n,ne,nf,d⟩:=I.pin p hp;refine⟨(hs.2 p.1 ?_).trans e,n,ne,nf,d⟩;intro q;rw[q,hoc]at e;have q':oc=p.2:=dN e;exact d w' (by rw[<-q'];exact hocd)
theorem DH{M:Model}{A:bM}{E:ae->aj->Prop}{i:Nat}{x:Str}{v:V}{u:ae}{Q:Unit->aj->Prop}(I:Inv X pins σ H s)(hN:X.N.Nodup)(hi:X.N[i]?=TL x)(hx:Loc X.env.scope x)(r:RelV v u)
  (h:∀s',Inv X pins (σ.set i (TL v)) H s'->Q () s')(hf:X.fn x=J1\/X.env.scope.names.lookup x=TL .local:=by k_is):az M A (storeName X.env x u) Q E s:=
 DI I hN hi hx r (fun s' I' _=>h s' I') hf
theorem Inv.call'{s':aj}{ch:List aa}(I:Inv X pins σ H s)(ho:s'.os=s.os)(u:Un (cq X.stack) ch H H' s.heap s'.heap)(hok:cz X.prog X.w H' s'.heap)(hg:nq s'.gens)
  (hch:∀b∈ch,(b∈X.ex\/X.s_0.heap.objs.size<=b)/\b≠X.env.locals/\(∀x c,X.env.cells.lookup x=TL c->c≠b)/\∀p∈X.pn++pins,p.1≠b):Inv X pins σ H' s':=by
 obtain⟨h',g',d',t',o'⟩:=s';have e:o'=s.os:=ho;subst e;exact I.call (g':=g') (t':=t') (d':=d') u hok hg hch
end
abbrev XK:=ae->Option aa->Hp->Prop
abbrev St:=List (Option V)
abbrev VK:=V->Hp->Prop
abbrev TE:=St->Hp->VK->Prop
abbrev TT:=St->Hp->(Bool->Hp->Prop)->Prop
abbrev TA:=St->Hp->(List V->Hp->Prop)->Prop
structure ja where
 nx:St->Hp->Prop
 rt:VK
 bk:St->Hp->Prop:=fun _ _=>False
 ct:St->Hp->Prop:=fun _ _=>False
abbrev TS:=ja->St->Hp->Prop
def EP(X:Cx)(pins:List (aa×Obj))(σ:St)(Q:VK)(u:ae)(s':aj):Prop:=∃v H',Inv X pins σ H' s'/\RelV v u/\Q v H'
def TP(X:Cx)(pins:List (aa×Obj))(σ:St)(Q:Bool->Hp->Prop)(b:Bool)(s':aj):Prop:=∃H',Inv X pins σ H' s'/\Q b H'
def AP(X:Cx)(pins:List (aa×Obj))(σ:St)(Q:List V->Hp->Prop)(us:List ae)(s':aj):Prop:=∃vs H',Inv X pins σ H' s'/\aX vs us/\Q vs H'
def SP(X:Cx)(pins:List (aa×Obj))(D:ja)(f:Flow)(s':aj):Prop:=
 match f with
 |.next=>∃σ' H',Inv X pins σ' H' s'/\D.nx σ' H'
 |.brk=>∃σ' H',Inv X pins σ' H' s'/\D.bk σ' H'
 |.cont=>∃σ' H',Inv X pins σ' H' s'/\D.ct σ' H'
 |.ret u=>∃v σ' H',Inv X pins σ' H' s'/\RelV v u/\D.rt v H'
def PE(X:Cx)(e:aM)(t:TE):Prop:=
 ∀(pins:List (aa×Obj))(s:aj)(σ:St)(H:Hp)(Q:VK),Inv X pins σ H s->t σ H Q->az (aC X.prog X.w) X.A (bF e X.env) (EP X pins σ Q) X.xe s
def PT(X:Cx)(e:aM)(t:TT):Prop:=
 ∀(pins:List (aa×Obj))(s:aj)(σ:St)(H:Hp)(Q:Bool->Hp->Prop),Inv X pins σ H s->t σ H Q->az (aC X.prog X.w) X.A (isTrue e X.env (bF e X.env)) (TP X pins σ Q) X.xe s
def PW(X:Cx)(e:aM)(t:TT):Prop:=
 ∀(whole:Sem ae)(pins:List (aa×Obj))(s:aj)(σ:St)(H:Hp)(Q:Bool->Hp->Prop),Inv X pins σ H s->t σ H Q->az (aC X.prog X.w) X.A (isTrue e X.env whole) (TP X pins σ Q) X.xe s
theorem PW.pt{X:Cx}{e:aM}{t:TT}(h:PW X e t):PT X e t:=h _
def PA(X:Cx)(es:List aM)(t:TA):Prop:=
 ∀(pos:Pos)(pins:List (aa×Obj))(s:aj)(σ:St)(H:Hp)(Q:List V->Hp->Prop),Inv X pins σ H s->t σ H Q->az (aC X.prog X.w) X.A (spliced (eV pos (bQ es X.env))) (AP X pins σ Q) X.xe s
def PS(X:Cx)(st:aI)(t:TS):Prop:=
 ∀(pins:List (aa×Obj))(s:aj)(σ:St)(H:Hp)(D:ja),Inv X pins σ H s->t D σ H->az (aC X.prog X.w) X.A (exec st X.env) (SP X pins D) X.xe s
def fA(X:Cx)(st:List aI)(t:TS):Prop:=
 ∀(pins:List (aa×Obj))(s:aj)(σ:St)(H:Hp)(D:ja),Inv X pins σ H s->t D σ H->az (aC X.prog X.w) X.A (execs st X.env) (SP X pins D) X.xe s
theorem aR{α:Type}{t:Sem α}{Q Q':α->aj->Prop}{M:Model}{A:bM}{E:ae->aj->Prop}{s:aj}(h:az M A t Q E s)(hQ:∀a s,Q a s->Q' a s):az M A t Q' E s:=iE h hQ fun _ _ x=>x
section
variable{X:Cx}
def kf(i:Nat):TE:=fun σ H Q=>∃v,σ[i]?=TL (TL v)/\Q v H
def tC(v:V):TE:=fun _ H Q=>Q v H
theorem Uq{i:Nat}{x:Str}{pos:Pos}(hN:X.N[i]?=TL x)(hv:rB X.env.scope x)(hd:autoParam ((x==("__debug__":Str))=false) J9)(hcd:autoParam ((x==("__classdict__":Str))=false) J9):PE X (.Name x pos) (kf i):=by
 intro pins s σ H Q I h;obtain⟨v,e,h⟩:=h;obtain⟨m,hn,hl⟩:=I.loc;obtain⟨u,r,l⟩:=hl i x v hN e hv;have fin:EP X pins σ Q u s:=⟨v,H,I,r,h⟩;rcases l with⟨hk,hm⟩|⟨hk,c,hc,hcell⟩
 .exact yT (MF I.ok.kind hk hn hm fin) hd
 .rcases hk with hk|hk
  .exact yT (YJ I.ok.kind hk hc hcell fin) hd
  .exact yT (YK I.ok.kind hk hc hcell fin hcd) hd
theorem aB{i j pos}:PE X (.Constant (.int i) j pos) (tC (.int i)):=fun _ _ _ H _ I h=>wpAny_Constant_int ⟨.int i,H,I.tok _,⟨_,rfl⟩,h⟩
theorem qm{b j pos}:PE X (.Constant (.bool b) j pos) (tC (.bl b)):=fun _ _ _ H _ I h=>Constant_bool ⟨.bl b,H,I,rfl,h⟩
theorem lR{j pos}:PE X (.Constant .none j pos) (tC .non):=fun _ _ _ H _ I h=>Constant_none ⟨.non,H,I,rfl,h⟩
theorem uW{x j pos}:PE X (.Constant (.str x) j pos) (tC (.str x)):=fun _ _ _ H _ I h=>Calls.Constant_str ⟨.str x,H,I.tok _,⟨_,rfl⟩,h⟩
def Gl(X:Cx)(x:Str):Prop:=X.env.kindOf x=TL .globalImplicit
theorem oi{E:ae->aj->Prop}{pins:List (aa×Obj)}{s:aj}{σ:St}{H:Hp}{x:Str}{u:ae}{pos:Pos}{Q:ae->aj->Prop}(I:Inv X pins σ H s)(hg:Gl X x)(hm:X.mg x=TL u)(h:Q u s)
  (hd:autoParam ((x==("__debug__":Str))=false) J9):az (aC X.prog X.w) X.A (bF (.Name x pos) X.env) Q E s:=
 Es I.ok.kind hg (Calls.loadGlobal_global (by rw[I.ok.glob];exact I.mod.glob.keeps I.bk) hm h) hd
theorem rY{E:ae->aj->Prop}{pins:List (aa×Obj)}{s:aj}{σ:St}{H:Hp}{x:Str}{u:ae}{pos:Pos}{Q:ae->aj->Prop}(I:Inv X pins σ H s)(hg:Gl X x)(hm:X.mg x=J0)(hv:rK x=TL u)(h:Q u s)
  (hn:autoParam (x≠"__name__") J9)(hd:autoParam ((x==("__debug__":Str))=false) J9):az (aC X.prog X.w) X.A (bF (.Name x pos) X.env) Q E s:=by
 obtain⟨mb,h1,h2⟩:=I.mod.blt;exact Es I.ok.kind hg (MQ (by rw[I.ok.glob];exact I.mod.glob.keeps I.bk) hm (by rw[I.ok.blt];exact h1.keeps I.bk) ((h2 x hn).trans hv) h) hd
theorem Ui{x:Str}{v:V}{u:ae}{pos:Pos}(hg:Gl X x)(hm:X.mg x=TL u)(r:RelV v u)(hd:autoParam ((x==("__debug__":Str))=false) J9):PE X (.Name x pos) (tC v):=
 fun _ _ _ H _ I h=>oi I hg hm ⟨v,H,I,r,h⟩ hd
variable{a b:aM}{ta tb:TE}{pos:Pos}
def PC(X:Cx)(op:CmpOp)(a b:aM)(t:TE):Prop:=
 ∀(pins:List (aa×Obj))(s:aj)(σ:St)(H:Hp)(Q:VK),Inv X pins σ H s->t σ H Q->
  az (aC X.prog X.w) X.A (bF a X.env) (fun v s₁=>az (aC X.prog X.w) X.A (bF b X.env) (fun u s₂=>az (aC X.prog X.w) X.A (fK op v u) (EP X pins σ Q) X.xe s₂) X.xe s₁) X.xe s
def tB(t:TE):TT:=fun σ H Q=>t σ H fun x H1=>∃c,x=.bl c/\Q c H1
theorem sE{op:CmpOp}{t:TE}(h:PC X op a b t)(h1:autoParam (wY op b=false) J7):PT X (.Compare a [op] [b] pos) (tB t):=by
 intro pins s σ H Q I hw;refine YI (aR (h pins s σ H _ I hw) fun v s1 h1=>aR h1 fun u s2 h2=>aR h2 fun c s3⟨x,H1,I1,r1,q1⟩=>?_) h1;obtain⟨d,rfl,q⟩:=q1;cases r1;exact vG ⟨H1,I1,q⟩
theorem dZ{e:aM}{t:TE}(h:PE X e t)(he:∀whole,isTrue e X.env whole=(do let v<-whole;standAt e.pos;holding [v] (truthy v)):=by intro _;rfl):PT X e (tB t):=by
 intro pins s σ H Q I hw;refine isTrue_plain (aR (h pins s σ H _ I hw) fun v s1⟨x,H1,I1,r1,q1⟩=>?_) (he _);obtain⟨d,rfl,q⟩:=q1;cases r1;exact vG ⟨H1,I1,q⟩
variable{tA tB':TT}{rest:List aM}
def LU(t u:TT):TT:=fun σ H Q=>t σ H fun c H1=>if c=J1 then u σ H1 Q else Q J2 H1
def Mi(t u:TT):TT:=fun σ H Q=>t σ H fun c H1=>if c=J1 then Q J1 H1 else u σ H1 Q
def Mh(t:TT):TT:=fun σ H Q=>t σ H fun c H1=>Q (!c) H1
theorem va(ha:PT X a tA):PW X (.BoolOp .And [a] pos) tA:=by
 intro wh pins s σ H Q I h;refine isTrue_and (aR (ha pins s σ H Q I h) fun c s1 e=>?_);cases c with
 |true=>exact isTrue_and_nil e
 |false=>exact e
theorem ym(ha:PT X a tA):PW X (.BoolOp .Or [a] pos) tA:=by
 intro wh pins s σ H Q I h;refine isTrue_or (aR (ha pins s σ H Q I h) fun c s1 e=>?_);cases c with
 |false=>exact isTrue_or_nil e
 |true=>exact e
theorem uZ(ha:PT X a tA)(hb:PW X (.BoolOp .And (b::rest) pos) tB'):PW X (.BoolOp .And (a::b::rest) pos) (LU tA tB'):=by
 intro wh pins s σ H Q I h;refine isTrue_and (aR (ha pins s σ H _ I h) fun c s1⟨H1,I1,q1⟩=>?_);cases c with
 |true=>exact hb wh pins s1 σ H1 Q I1 q1
 |false=>exact⟨H1,I1,q1⟩
theorem yl(ha:PT X a tA)(hb:PW X (.BoolOp .Or (b::rest) pos) tB'):PW X (.BoolOp .Or (a::b::rest) pos) (Mi tA tB'):=by
 intro wh pins s σ H Q I h;refine isTrue_or (aR (ha pins s σ H _ I h) fun c s1⟨H1,I1,q1⟩=>?_);cases c with
 |true=>exact⟨H1,I1,q1⟩
 |false=>exact hb wh pins s1 σ H1 Q I1 q1
theorem lS(ha:PT X a tA):PT X (.UnaryOp .Not a pos) (Mh tA):=by
 intro pins s σ H Q I h;exact isTrue_not (ha pins s σ H (fun c H1=>Q (!c) H1) I h)
def LV(ta tb:TE):TE:=fun σ H Q=>ta σ H fun x H1=>∃c,x=.bl c/\if c=J1 then tb σ H1 Q else Q (.bl J2) H1
def Mj(ta tb:TE):TE:=fun σ H Q=>ta σ H fun x H1=>∃c,x=.bl c/\if c=J1 then Q (.bl J1) H1 else tb σ H1 Q
theorem CA{op}{t:TE}(h:PE X a t):PE X (.BoolOp op [a] pos) t:=fun pins s σ H Q I hw=>BoolOp_one (h pins s σ H Q I hw)
theorem Cw(ha:PE X a ta)(hb:PE X (.BoolOp .And (b::rest) pos) tb):PE X (.BoolOp .And (a::b::rest) pos) (LV ta tb):=by
 intro pins s σ H Q I h;refine BoolOp_and (aR (ha pins s σ H _ I h) fun v s1⟨x,H1,I1,r1,q1⟩=>?_);obtain⟨c,rfl,q1⟩:=q1;cases r1;refine vG ?_;cases c with
 |true=>exact hb pins s1 σ H1 Q I1 q1
 |false=>exact⟨.bl J2,H1,I1,rfl,q1⟩
theorem Up(ha:PE X a ta)(hb:PE X (.BoolOp .Or (b::rest) pos) tb):PE X (.BoolOp .Or (a::b::rest) pos) (Mj ta tb):=by
 intro pins s σ H Q I h;refine BoolOp_or (aR (ha pins s σ H _ I h) fun v s1⟨x,H1,I1,r1,q1⟩=>?_);obtain⟨c,rfl,q1⟩:=q1;cases r1;refine vG ?_;cases c with
 |false=>exact hb pins s1 σ H1 Q I1 q1
 |true=>exact⟨.bl J1,H1,I1,rfl,q1⟩
def Mc(t:TT)(ta tb:TE):TE:=fun σ H Q=>t σ H fun c H1=>if c=J1 then ta σ H1 Q else tb σ H1 Q
theorem Cz{c:aM}(hc:PT X c tA)(ha:PE X a ta)(hb:PE X b tb):PE X (.IfExp c a b pos) (Mc tA ta tb):=by
 intro pins s σ H Q I h;refine wpAny_IfExp (aR (hc pins s σ H _ I h) fun d s1⟨H1,I1,q1⟩=>?_);cases d with
 |true=>exact ha pins s1 σ H1 Q I1 q1
 |false=>exact hb pins s1 σ H1 Q I1 q1
end
def ak(K:aw)(H:Hp)(a:aa)(xs:List V):Prop:=
 Rd H a (.lst xs)\/
  ∃(o:Obj)(its:Array ae)(n:Nat),K.lookup a=TL o/\o.cls=.type "list"/\o.dict=J0/\o.data=.seq its n/\its.size<=aZ/\aX xs its.toList
def bT(K:aw)(H:Hp)(a:aa)(xs:List V):Prop:=
 Rd H a (.tup xs)\/
  ∃(o:Obj)(its:Array ae)(n:Nat),K.lookup a=TL o/\o.cls=.type "tuple"/\o.data=.seq its n/\its.size<=aZ/\aX xs its.toList
noncomputable def NT:ae->Option V
 |.none=>TL .non
 |.bool b=>TL (.bl b)
 |.int i _=>TL (.int i)
 |.str x _=>TL (.str x)
 |.bytes b _=>TL (.byt b)
 |.float b _=>TL (.flt b)
 |.ref a=>TL (.ref a)
 |.type n=>TL (.ty n)
 |_=>J0
theorem RelV.abs{x:V}{u:ae}(r:RelV x u):NT u=TL x:=by
 cases x with
 |non=>cases r;rfl
 |bl _=>cases r;rfl
 |int _=>obtain⟨t,rfl⟩:=r;rfl
 |str _=>obtain⟨t,rfl⟩:=r;rfl
 |byt _=>obtain⟨t,rfl⟩:=r;rfl
 |flt _=>obtain⟨t,rfl⟩:=r;rfl
 |ref _=>cases r;rfl
 |ty _=>cases r;rfl
theorem RelV.inj{x y:V}{u:ae}(r:RelV x u)(q:RelV y u):x=y:=dN (r.abs.symm.trans q.abs)
theorem aX.inj:∀{xs ys:List V}{us:List ae},aX xs us->aX ys us->xs=ys
 |_,_,_,.nil,.nil=>rfl
 |_,_,_,.cons r t,.cons r' t'=>by rw[r.inj r',aX.inj t t']
section
variable{X:Cx}{pins:List (aa×Obj)}{σ:St}{H:Hp}{s:aj}{a:aa}{xs ys:List V}
theorem ak.of{K:aw}(h:H a=TL (.lst xs)):ak K H a xs:=.inl (.inl h)
theorem bT.of{K:aw}(h:H a=TL (.tup xs)):bT K H a xs:=.inl (.inl h)
theorem Inv.list(I:Inv X pins σ H s)(h:ak X.K H a xs):∃its:List ae,aX xs its/\PlainL s.heap a its.toArray/\xs.length<=aZ:=by
 rcases h with h|⟨o,its,n,hk,hc,hd,hs,hz,r⟩
 .obtain⟨z,its,n,r,e⟩:=h.ok I.hok;exact⟨its,r,⟨_,n,e,rfl,rfl,rfl⟩,z⟩
 .refine⟨its.toList,r,⟨o,n,I.kIn a o hk,hc,hd,by simpa using hs⟩,?_⟩;have e:=r.length;simp only[fO]at e;lia
theorem Inv.tuple(I:Inv X pins σ H s)(h:bT X.K H a xs):∃its:List ae,aX xs its/\IsTup s.heap a its.toArray/\xs.length<=aZ:=by
 rcases h with h|⟨o,its,n,hk,hc,hs,hz,r⟩
 .obtain⟨z,its,r,p⟩:=h.ok I.hok;exact⟨its,r,p,z⟩
 .refine⟨its.toList,r,⟨o,I.kIn a o hk,hc,n,by simpa using hs⟩,?_⟩;have e:=r.length;simp only[fO]at e;lia
theorem Inv.list_inj(I:Inv X pins σ H s)(h:ak X.K H a xs)(h':ak X.K H a ys):xs=ys:=by
 obtain⟨its,r,⟨o,n,e,_,_,d⟩,_⟩:=I.list h;obtain⟨its',r',⟨o',n',e',_,_,d'⟩,_⟩:=I.list h';rw[e]at e';cases e';rw[d]at d';injection d' with d1 _;have:its=its':=by simpa using congrArg Array.toList d1
 subst this;exact r.inj r'
end
abbrev Cx.wish(X:Cx)(E:ae->aj->Prop):Cx:={X with xe:=E}
abbrev Cx.nox(X:Cx):Cx:=X.wish fun _ _=>False
theorem Cx.Ok.wish{X:Cx}(ok:X.Ok)(E:ae->aj->Prop):(X.wish E).Ok:=
 ⟨ok.mod,ok.kind,ok.glob,ok.blt,ok.above,ok.inj,ok.has,ok.cab,ok.hd,ok.frames,ok.stk,ok.exf,ok.bs,ok.bsz,ok.noex,ok.exfs,ok.funs,ok.frf⟩
theorem Cx.Ok.unwish{X:Cx}{E:ae->aj->Prop}(ok:(X.wish E).Ok):X.Ok:=
 ⟨ok.mod,ok.kind,ok.glob,ok.blt,ok.above,ok.inj,ok.has,ok.cab,ok.hd,ok.frames,ok.stk,ok.exf,ok.bs,ok.bsz,ok.noex,ok.exfs,ok.funs,ok.frf⟩
section
variable{X:Cx}{pins:List (aa×Obj)}{σ:St}{H:Hp}{s:aj}{E:ae->aj->Prop}
theorem Inv.wish(I:Inv X pins σ H s)(E:ae->aj->Prop):Inv (X.wish E) pins σ H s:=⟨I.ok.wish E,I.os,I.bare,I.base,I.loc,I.cell,I.free,I.freeC,I.pin,I.hok,I.len⟩
theorem Inv.unwish(I:Inv (X.wish E) pins σ H s):Inv X pins σ H s:=⟨I.ok.unwish,I.os,I.bare,I.base,I.loc,I.cell,I.free,I.freeC,I.pin,I.hok,I.len⟩
theorem SP.unwish{D:ja}{f:Flow}{s':aj}(h:SP (X.wish E) pins D f s'):SP X pins D f s':=by
 cases f with
 |next=>obtain⟨σ',H',I,q⟩:=h;exact⟨σ',H',I.unwish,q⟩
 |brk=>obtain⟨σ',H',I,q⟩:=h;exact⟨σ',H',I.unwish,q⟩
 |cont=>obtain⟨σ',H',I,q⟩:=h;exact⟨σ',H',I.unwish,q⟩
 |ret u=>obtain⟨v,σ',H',I,r,q⟩:=h;exact⟨v,σ',H',I.unwish,r,q⟩
theorem fA.nox{st:List aI}{t:TS}(h:fA X.nox st t):fA X st t:=fun pins s σ H D I hw=>
 iE (h pins s σ H D (I.wish _) hw) (fun _ _ q=>q.unwish) fun _ _ z=>fP z
end
section
variable{X:Cx}{st:aI}{rest:List aI}{t u:TS}{e:aM}{te:TE}{pos:Pos}
def DR:TS:=fun D σ H=>D.nx σ H
def DS(t u:TS):TS:=fun D σ H=>t {D with nx:=u D} σ H
theorem bG:fA X [] DR:=fun _ _ σ H _ I h=>yV ⟨σ,H,I,h⟩
theorem aq(h1:PS X st t)(h2:fA X rest u):fA X (st::rest) (DS t u):=by
 intro pins s σ H D I h;refine wpAny_execs_cons (aR (h1 pins s σ H {D with nx:=u D} I h) fun f s1 q=>?_);cases f with
 |next=>
  obtain⟨σ',H',I',q⟩:=q;exact h2 pins s1 σ' H' D I' q
 |ret v=>exact q
 |brk=>exact q
 |cont=>exact q
theorem au(h1:PS X st t):fA X [st] t:=by
 intro pins s σ H D I h;refine wpAny_execs_cons (aR (h1 pins s σ H D I h) fun f s1 q=>?_);cases f with
 |next=>exact yV q
 |ret v=>exact q
 |brk=>exact q
 |cont=>exact q
theorem Inv.quiet{pins:List (aa×Obj)}{σ:St}{H:Hp}{s:aj}(I:Inv X pins σ H s):interactive X.env=false:=by simp[interactive,I.ok.kind]
def DO(te:TE):TS:=fun D σ H=>te σ H fun _ H1=>D.nx σ H1
theorem eI(he:PE X e te)(hs:autoParam (oE e J0 pos.line X.env=pure false) J7):PS X (.Expr e pos) (DO te):=by
 intro pins s σ H D I h;exact wpAny_Expr_any (aR (he pins s σ H _ I h) fun v s1⟨x,H1,I1,r1,q1⟩=>⟨σ,H1,I1,q1⟩) I.quiet hs
def vA(te:TE):TS:=fun D σ H=>te σ H D.rt
theorem aL(he:PE X e te):PS X (.Return (TL e) pos) (vA te):=by
 intro pins s σ H D I h;exact wpAny_Return_some (aR (he pins s σ H _ I h) fun v s1⟨x,H1,I1,r1,q1⟩=>⟨x,σ,H1,I1,r1,q1⟩)
def DQ(c:TT)(t u:TS):TS:=fun D σ H=>c σ H fun b H1=>if b=J1 then t D σ H1 else u D σ H1
theorem bA{c:aM}{a b:List aI}{tc:TT}(hc:PT X c tc)(ha:fA X a t)(hb:fA X b u):PS X (.If c a b pos) (DQ tc t u):=by
 intro pins s σ H D I h;refine wpAny_If (aR (hc pins s σ H _ I h) fun d s1⟨H1,I1,q1⟩=>?_);cases d with
 |true=>exact ha pins s1 σ H1 D I1 q1
 |false=>exact hb pins s1 σ H1 D I1 q1
def Mf:TS:=fun _ _ _=>False
theorem Uy:PS X st Mf:=fun _ _ _ _ _ _ h=>h.elim
end
abbrev TG:=V->St->Hp->(St->Hp->Prop)->Prop
abbrev kE:=List V->St->Hp->(St->Hp->Prop)->Prop
def PG(X:Cx)(target:aM)(t:TG):Prop:=
 ∀(pins:List (aa×Obj))(s:aj)(σ:St)(H:Hp)(v:V)(u:ae)(Q:St->Hp->Prop),Inv X pins σ H s->RelV v u->t v σ H Q->
  az (aC X.prog X.w) X.A (assign target X.env u) (fun _ s'=>∃σ' H',Inv X pins σ' H' s'/\Q σ' H') X.xe s
def tO(X:Cx)(ts:List aM)(t:kE):Prop:=
 ∀(pins:List (aa×Obj))(s:aj)(σ:St)(H:Hp)(vs:List V)(us:List ae)(Q:St->Hp->Prop),Inv X pins σ H s->aX vs us->t vs σ H Q->
  az (aC X.prog X.w) X.A (assignInOrder ((rH ts X.env).map (·.2)) us) (fun _ s'=>∃σ' H',Inv X pins σ' H' s'/\Q σ' H') X.xe s
abbrev wK:=V->V->Hp->VK->Prop
def zU(X:Cx)(op:Operator)(t:wK):Prop:=
 ∀(pins:List (aa×Obj))(s:aj)(σ:St)(H:Hp)(x y:V)(v u:ae)(Q:VK),Inv X pins σ H s->RelV x v->RelV y u->t x y H Q->
  az (aC X.prog X.w) X.A (inplaceOp op v u) (EP X pins σ Q) X.xe s
section
variable{X:Cx}{pos:Pos}
def lJ(i:Nat):TG:=fun v σ H Q=>Q (σ.set i (TL v)) H
theorem Ur{i:Nat}{x:Str}(hN:X.N.Nodup)(hi:X.N[i]?=TL x)(hx:Loc X.env.scope x)(hf:X.fn x=J1\/X.env.scope.names.lookup x=TL .local:=by k_is):PG X (.Name x pos) (lJ i):=by
 intro pins s σ H v u Q I r h;exact MD (DH I hN hi hx r (fun s' I'=>⟨_,H,I',h⟩) hf)
def Hd:kE:=fun vs σ H Q=>vs=[]/\Q σ H
def Hc(t:TG)(u:kE):kE:=fun vs σ H Q=>∃v r,vs=v::r/\t v σ H fun σ' H'=>u r σ' H' Q
theorem ow:tO X [] Hd:=by
 intro pins s σ H vs us Q I r h;obtain⟨e,h⟩:=h;subst e;cases r;exact assignInOrder_nil ⟨σ,H,I,h⟩
theorem ip{e:aM}{es:List aM}{t:TG}{u:kE}(h1:PG X e t)(h2:tO X es u)
  (hs:autoParam ((rH (e::es) X.env).map (·.2)=assign e X.env::(rH es X.env).map (·.2)) J7):tO X (e::es) (Hc t u):=by
 intro pins s σ H vs us Q I r h;obtain⟨v,vr,e1,h⟩:=h;subst e1;cases r with
 |cons r rr=>
  rw[hs];refine assignInOrder_cons (aR (h1 pins s σ H _ _ _ I r h) fun _ s1⟨σ1,H1,I1,q1⟩=>?_);exact h2 pins s1 σ1 H1 _ _ Q I1 rr q1
def xx(K:aw)(n:Nat)(t:kE):TG:=fun v σ H Q=>∃a xs,v=.ref a/\bT K H a xs/\xs.length=n/\t xs σ H Q
theorem ou{es:List aM}{k:Nat}{t:kE}{n:Nat}(hc:X.calm=J1)(h:tO X es t)
  (hn:autoParam ((rH es X.env).length=n) J7)(hst:autoParam ((rH es X.env).findIdx? (·.1)=none) J7):PG X (.Tuple es k pos) (xx X.K n t):=by
 intro pins s σ H v u Q I r hw;obtain⟨a,xs,e1,hq,hl,hw⟩:=hw;subst e1;cases r;obtain⟨its,rv,ht,hz⟩:=I.tuple hq;refine assign_Tuple_tuple (I.ok.hd hc) ht (by simp[hn,<-hl,rv.length]) hst fun h' hx=>?_;have I1:Inv X pins σ H {s with heap:=h'}:=I.kept (t':=s.toks) fun b o e=>hx b o (cJ (bR e)) e;exact h pins _ σ H xs _ Q I1 (by simpa using rv) hw
def vv(te:TE)(g:TG):TS:=fun D σ H=>te σ H fun x H1=>g x σ H1 D.nx
theorem Uz{i:Nat}{x:Str}{e:aM}{te:TE}{pos':Pos}(hN:X.N.Nodup)(hi:X.N[i]?=TL x)(hx:Loc X.env.scope x)(he:PE X e te)(hs:autoParam (oE e (TL (.Name x pos')) pos.line X.env=pure false) J7)(hf:X.fn x=J1\/X.env.scope.names.lookup x=TL .local:=by k_is):
  PS X (.Assign [.Name x pos'] e pos) (vv te (lJ i)):=by
 intro pins s σ H D I h;refine wpAny_Assign_Name (aR (he pins s σ H _ I h) fun v s1⟨y,H1,I1,r1,q1⟩=>?_) hs;exact DH I1 hN hi hx r1 (fun s2 I2=>⟨_,H1,I2,q1⟩) hf
def sM(i:Nat)(te:TE)(ti:wK):TS:=fun D σ H=>∃x,σ[i]?=TL (TL x)/\te σ H fun y H1=>ti x y H1 fun z H2=>D.nx (σ.set i (TL z)) H2
theorem uX{i:Nat}{x:Str}{e:aM}{te:TE}{op:Operator}{ti:wK}{pos':Pos}(hN:X.N.Nodup)(hi:X.N[i]?=TL x)(hx:Loc X.env.scope x)(he:PE X e te)(ho:zU X op ti)(hf:X.fn x=J1\/X.env.scope.names.lookup x=TL .local:=by k_is):
  PS X (.AugAssign (.Name x pos') op e pos) (sM i te ti):=by
 intro pins s σ H D I h;obtain⟨v,e1,h⟩:=h;obtain⟨m,hn,hl⟩:=I.loc;have vis:rB X.env.scope x:=by rcases hx with k|k;exact .inl k;exact .inr (.inl k)
 obtain⟨u,r,l⟩:=hl i x v hi e1 vis;refine wpAny_AugAssign_Name ?_
 have go:az (aC X.prog X.w) X.A (bF e X.env) (fun w s₂=>az (aC X.prog X.w) X.A (inplaceOp op u w) (fun r s₃=>az (aC X.prog X.w) X.A (storeName X.env x r) (fun _=>SP X pins D .next) X.xe s₃) X.xe s₂) X.xe s:=by
  refine aR (he pins s σ H _ I h) fun w s1⟨y,H1,I1,r1,q1⟩=>?_;refine aR (ho pins s1 σ H1 v y u w _ I1 r r1 q1) fun z s2⟨zv,H2,I2,r2,q2⟩=>?_;exact DH I2 hN hi hx r2 (fun s3 I3=>⟨_,H2,I3,q2⟩) hf
 rcases l with⟨hk,hm⟩|⟨hk,c,hc,hcell⟩
 .exact MF I.ok.kind hk hn hm go
 .rcases hk with hk|hk
  .exact YJ I.ok.kind hk hc hcell go
  .rcases hx with k|k
   .have:X.env.scope.names.lookup x=TL .free:=hk;rw[k]at this;cases this
   .have:X.env.scope.names.lookup x=TL .free:=hk;rw[k]at this;cases this
def oh(f:Int->Int->Int):wK:=fun x y H Q=>∃i j,x=.int i/\y=.int j/\Q (.int (f i j)) H
theorem xG:zU X .Add (oh fun i j=>i+j):=by
 intro pins s σ H x y v u Q I r1 r2 h;obtain⟨i,j,e1,e2,q⟩:=h;subst e1;subst e2;obtain⟨t,rfl⟩:=r1;obtain⟨t',rfl⟩:=r2;exact iadd_int ⟨.int _,H,I.tok _,⟨_,rfl⟩,q⟩
theorem Qr:zU X .Sub (oh fun i j=>i-j):=by
 intro pins s σ H x y v u Q I r1 r2 h;obtain⟨i,j,e1,e2,q⟩:=h;subst e1;subst e2;obtain⟨t,rfl⟩:=r1;obtain⟨t',rfl⟩:=r2;exact isub_int ⟨.int _,H,I.tok _,⟨_,rfl⟩,q⟩
def DU(c:TT)(tb:TS):TS:=fun D σ H=>∃W:Nat->St->Hp->Prop,(∃m,W m σ H)/\∀m σ H,W m σ H->
 c σ H fun b H1=>if b=J1 then∃N:St->Hp->Prop,(∀σ' H',N σ' H'->∃m',m'<m/\W m' σ' H')/\tb {D with nx:=N,ct:=N,bk:=D.nx} σ H1 else D.nx σ H1
theorem qr{c:aM}{body:List aI}{tc:TT}{tb:TS}(hp:PassesOwn (aC X.prog X.w) X.A X.env X.xe)(hc:PT X c tc)(hb:fA X body tb):PS X (.While c body [] pos) (DU tc tb):=by
 intro pins s σ H D I h;obtain⟨W,⟨m0,w0⟩,turn⟩:=h;refine wpAny_While (codeAny_whileLoop (fun n s'=>∃σ' H',Inv X pins σ' H' s'/\W n σ' H') ?_ m0 ⟨σ,H,I,w0⟩);rintro n s1 ⟨σ1,H1,I1,w1⟩;refine sS hp (aR (hc pins s1 σ1 H1 _ I1 (turn n σ1 H1 w1)) fun b s2⟨H2,I2,q2⟩=>?_);cases b with
 |true=>
  obtain⟨N,hN,q2⟩:=q2;rw[J4 rfl];refine sS hp (aR (hb pins s2 σ1 H2 _ I2 q2) fun f s3 q3=>?_);cases f with
  |next=>
   obtain⟨σ3,H3,I3,n3⟩:=q3;obtain⟨m',hm,w3⟩:=hN σ3 H3 n3;exact⟨m',hm,σ3,H3,I3,w3⟩
  |cont=>
   obtain⟨σ3,H3,I3,n3⟩:=q3;obtain⟨m',hm,w3⟩:=hN σ3 H3 n3;exact⟨m',hm,σ3,H3,I3,w3⟩
  |brk=>exact q3
  |ret v=>exact q3
 |false=>
  rw[J3 fC];exact yV ⟨σ1,H2,I2,q2⟩
end
structure It where
 go:Nat->Hp->Prop
 yld:Nat->Hp->V->Hp->Prop
 stop:Nat->Hp->Prop
def iu(X:Cx)(pins:List (aa×Obj))(H:Hp)(b:aa):Prop:=
 H b=J0/\b≠X.env.locals/\b∉X.fs/\(b∈X.ex\/X.s_0.heap.objs.size<=b)/\(∀x c,X.env.cells.lookup x=TL c->c≠b)/\∀p∈X.pn++pins,p.1≠b
theorem Inv.fpOk{X:Cx}{pins:List (aa×Obj)}{σ:St}{H H':Hp}{s:aj}{b:aa}(I:Inv X pins σ H s)(hb:s.heap.objs.size<=b)(hn:H' b=J0):iu X pins H' b:=by
 refine⟨hn,qV (cR I.lt hb),I.nofs hb,.inr (dM I.sz hb),fun x c e z=>?_,fun p hp z=>?_⟩
 .obtain⟨v,q⟩:=I.cell x c e;exact J5 (cR q.lt (by rw[z];exact hb)) (gI _)
 .exact J5 (cR (bR (I.pin p hp).1) (by rw[z];exact hb)) (gI _)
structure wL(P:aJ)(w:aH)(K:aw)(tg:aM)(J:It)(fp:List aa)(it:aa)(tn:Nat->aA->Prop):Prop where
 mem:it∈fp
 obj:∀i h,tn i h->∀b∈fp,∃o,h.get? b=TL o/\∀v,o.data≠.cell v
 keep:∀i h h',tn i h->(∀b∈fp,∀o,h.get? b=TL o->h'.get? b=TL o)->tn i h'
 item:∀(X:Cx),X.prog=P->X.w=w->X.K=K->X.calm=J1->∀(i:Nat)(pins:List (aa×Obj))(s:aj)(σ:St)(H:Hp)(E:ae->aj->Prop),Inv X pins σ H s->(∀b∈fp,iu X pins H b)->tn i s.heap->J.go i H->
  az (aC P w) X.A (ka (.ref it)) (fun r s1=>∃u,r=TL u/\
   az (aC P w) X.A (Bm tg (.ref it) u) (fun _ s2=>∃x H',Inv X pins σ H' s2/\RelV x u/\J.yld i H x H'/\tn (i+1) s2.heap/\∀b∈fp,H' b=J0) E s1) E s
 done:∀(X:Cx),X.prog=P->X.w=w->X.K=K->X.calm=J1->∀(i:Nat)(pins:List (aa×Obj))(s:aj)(σ:St)(H:Hp)(E:ae->aj->Prop),Inv X pins σ H s->(∀b∈fp,iu X pins H b)->tn i s.heap->J.stop i H->
  az (aC P w) X.A (ka (.ref it)) (fun r s1=>r=J0/\Inv X pins σ H s1) E s
 self:∀(A:bM)(i:Nat)(s:aj)(Q:ae->aj->Prop)(E:ae->aj->Prop),tn i s.heap->Q (.ref it) s->az (aC P w) A (pyIter (.ref it)) Q E s
abbrev TI:=St->Hp->(It->Hp->Prop)->Prop
def Fd(X:Cx)(pins:List (aa×Obj))(σ:St)(tg:aM)(R:It->Hp->Prop)(itv:ae)(s2:aj):Prop:=
 ∃(it:aa)(fp:List aa)(tn:Nat->aA->Prop)(J:It)(H':Hp),itv=.ref it/\Inv X pins σ H' s2/\wL X.prog X.w X.K tg J fp it tn/\tn 0 s2.heap/\(∀b∈fp,iu X pins H' b)/\R J H'
def PI(X:Cx)(tg iter:aM)(wi:TI):Prop:=
 ∀(pins:List (aa×Obj))(s:aj)(σ:St)(H:Hp)(R:It->Hp->Prop),Inv X pins σ H s->wi σ H R->
  az (aC X.prog X.w) X.A (bF iter X.env) (fun v s1=>az (aC X.prog X.w) X.A (pyIter v) (Fd X pins σ tg R) X.xe s1) X.xe s
theorem Hj{M:Model}{A:bM}{E:ae->aj->Prop}{s:aj}{tg:aM}{it:aa}{u:ae}{o:Obj}{n:String}{vs:Array ae}{Q:Unit->aj->Prop}(ho:s.heap.get? it=TL o)(hc:o.cls=.type n)(hd:o.data=.fields vs)
  (hn: ["enumerate","zip","dict_itemiterator","dict_reverseitemiterator","odict_iterator","itertools.zip_longest","itertools.pairwise"].contains n=J2)(hQ:Q () s):az M A (Bm tg (.ref it) u) Q E s:=by
 unfold Bm
 cases tg<;>first
  |exact aT hQ
  |(cases u<;>first
    |exact aT hQ
    |(refine ay (wpAny_load ho ?_)
      rw[hc,hd];show az M A (if(["enumerate","zip","dict_itemiterator","dict_reverseitemiterator","odict_iterator","itertools.zip_longest","itertools.pairwise"].contains n&&vs[0]?==TL (cg _))=J1 then _ else _) Q E s;rw[J3 (by intro h;rw[hn,vJ]at h;cases h)];exact aT hQ))
def mh(K:aw)(a:aa):It:=
 ⟨fun i H=>∃xs x,ak K H a xs/\xs[i]?=TL x,fun i H x H'=>H'=H/\∀xs,ak K H a xs->xs[i]?=TL x,fun i H=>∃xs,ak K H a xs/\xs.length<=i⟩
def oX(lo:Int)(n:Nat):It:=⟨fun i _=>i<n,fun i H x H'=>H'=H/\x=.int (lo+i),fun i _=>n<=i⟩
theorem Yu{P:aJ}{w:aH}{K:aw}{tg:aM}(a it:aa):wL P w K tg (mh K a) [it] it (fun i h=>h.IsListIter it a i) where
 mem:=by simp
 obj:=fun i h st b hb=>by
  have e:b=it:=by simpa using hb
  subst e;obtain⟨o,e,c,d⟩:=st;exact⟨o,e,fun v z=>by rw[d]at z;cases z⟩
 keep:=fun i h h' st k=>st.at fun o e=>k it (by simp) o e
 item:=by
  intro X hP hw hK hc i pins s σ H E I hf st hg;subst hP hw hK;obtain⟨xs,x,hq,hx⟩:=hg;obtain⟨its,rv,p,hz⟩:=I.list hq;obtain⟨u,hu,ru⟩:=rv.get hx;obtain⟨f0,f1,f2,f3,f4,f5⟩:=hf it (by simp);refine wpAny_pyNext_list_item st p.isList (x:=u) (by simpa using hu) fun h' st' sb=>?_;have I1:Inv X pins σ H {s with heap:=h'}:=I.turned (t':=s.toks) (fun b o hb e=>(sb.2 b hb).trans e) f0 f1 f3 f4 f5;obtain⟨o,e,c,d⟩:=id st';exact⟨u,rfl,Hj (s:={s with heap:=h'}) e c d (by decide) ⟨x,H,I1,ru,⟨rfl,fun ys hy=>by rw[I.list_inj hy hq];exact hx⟩,st',fun b hb=>(hf b hb).1⟩⟩
 done:=by
  intro X hP hw hK hc i pins s σ H E I hf st hg;subst hP hw hK;obtain⟨xs,hq,hx⟩:=hg;obtain⟨its,rv,p,hz⟩:=I.list hq;obtain⟨f0,f1,f2,f3,f4,f5⟩:=hf it (by simp);have hl:=rv.length;exact wpAny_pyNext_list_end (I.ok.hd hc) st p.isList (by simp;lia) fun h' eb=>⟨rfl,I.turned (t':=s.toks) (fun b o hb e=>eb b o hb e) f0 f1 f3 f4 f5⟩
 self:=fun _ _ _ _ _ st h=>wpAny_pyIter_listiter st h
theorem Yv{P:aJ}{w:aH}{K:aw}{tg:aM}(it:aa)(lo:Int)(n:Nat):wL P w K tg (oX lo n) [it] it (fun i h=>IsRangeIter h it (lo+(i:Nat)*1) ((n:Int)-(i:Nat)) 1) where
 mem:=by simp
 obj:=fun i h st b hb=>by
  have e:b=it:=by simpa using hb
  subst e
  exact⟨_,st,fun v z=>by
   have z':Data.fields _=Data.cell v:=z;cases z'⟩
 keep:=fun i h h' st k=>k it (by simp) _ st
 item:=by
  intro X hP hw hK hc i pins s σ H E I hf st hg;subst hP hw hK;obtain⟨f0,f1,f2,f3,f4,f5⟩:=hf it (by simp);have W:=Walks.range (prog:=X.prog) (w:=X.w) (I.ok.hd hc) it lo 1 n;refine W.item i s _ _ hg st fun v h' tk hv st' kk=>?_;obtain⟨t,rfl⟩:=hv;have I1:Inv X pins σ H {s with heap:=h',toks:=tk}:=I.turned (fun b o hb e=>kk b o (by simpa using hb) e) f0 f1 f3 f4 f5;refine⟨_,rfl,Hj (s:={s with heap:=h',toks:=tk}) (n:="range_iterator") st' rfl rfl (by decide) ⟨.int (lo+i),H,I1,⟨t,?_⟩,⟨rfl,rfl⟩,st',fun b hb=>(hf b hb).1⟩⟩;rw[Int.mul_one]
 done:=by
  intro X hP hw hK hc i pins s σ H E I hf st hg;subst hP hw hK;obtain⟨f0,f1,f2,f3,f4,f5⟩:=hf it (by simp);exact wpAny_pyNext_range_end (I.ok.hd hc) st (by have:n<=i:=hg;lia) fun h' eb=>⟨rfl,I.turned (t':=s.toks) (fun b o hb e=>eb b o hb e) f0 f1 f3 f4 f5⟩
 self:=fun _ _ _ _ _ st h=>wpAny_pyIter_rangeiter st h
section
variable{X:Cx}{tg:aM}
def Hw(K:aw)(tl:TE):TI:=fun σ H R=>tl σ H fun x H1=>∃a,x=.ref a/\(∃xs,ak K H1 a xs)/\R (mh K a) H1
theorem dw{l:aM}{tl:TE}(hl:PE X l tl):PI X tg l (Hw X.K tl):=by
 intro pins s σ H R I h;refine aR (hl pins s σ H _ I h) fun v s1⟨x,H1,I1,r1,q1⟩=>?_;obtain⟨a,e,⟨xs,hq⟩,q⟩:=q1;subst e;cases r1;obtain⟨its,rv,p,hz⟩:=I1.list hq;refine MG p.isList ?_;refine⟨s1.heap.objs.size,[s1.heap.objs.size],_,_,H1,rfl,I1.kept (t':=s1.toks) fun b o e=>bV _ e,Yu a _,⟨_,dD _ rfl,rfl,rfl⟩,fun b hb=>?_,q⟩;have e:b=s1.heap.objs.size:=by simpa using hb
 subst e;exact I1.fpOk (aF _) (I1.hok.fresh (aF _))
theorem VY{pins:List (aa×Obj)}{σ:St}{H:Hp}{s:aj}{R:It->Hp->Prop}{E:ae->aj->Prop}{lo hi:Int}{t u v:Tok}{tk:Nat}(I:Inv X pins σ H s)(h1: -(2^62)<=lo)(h2:lo<2^62)(h3: -(2^62)<=hi)(h4:hi<2^62)
  (q:R (oX lo (hi-lo).toNat) H):az (aC X.prog X.w) X.A (pyIter (.ref s.heap.objs.size)) (Fd X pins σ tg R) E {s with heap:=s.heap.push {cls:=.type "range",data:=.fields #[.int lo t,.int hi u,.int 1 v]},toks:=tk}:=by
 refine wpAny_pyIter_range (IsRange.new ..) (small_one h1 h2 h3 h4) ?_;have I1:Inv X pins σ H {s with heap:=s.heap.push {cls:=.type "range",data:=.fields #[.int lo t,.int hi u,.int 1 v]},toks:=tk}:=I.kept fun b o e=>bV _ e
 refine⟨(s.heap.push {cls:=.type "range",data:=.fields #[.int lo t,.int hi u,.int 1 v]}).objs.size,[(s.heap.push {cls:=.type "range",data:=.fields #[.int lo t,.int hi u,.int 1 v]}).objs.size],_,_,H,rfl,
  I1.kept (t':=tk) fun b o e=>bV _ e,Yv _ lo (hi-lo).toNat,?_,fun b hb=>?_,q⟩
 .have e1:lo+((0:Nat):Int)*1=lo:=by simp
  have e2:(((hi-lo).toNat:Nat):Int)-((0:Nat):Int)=MO lo hi 1:=by rw[rangeSize_one];split<;>lia
  show IsRangeIter _ _ (lo+((0:Nat):Int)*1) ((((hi-lo).toNat:Nat):Int)-((0:Nat):Int)) 1;rw[e1,e2];exact dD _ rfl
 .have e:b=(s.heap.push {cls:=.type "range",data:=.fields #[.int lo t,.int hi u,.int 1 v]}).objs.size:=by simpa using hb
  subst e;exact I1.fpOk (aF _) (I1.hok.fresh (aF _))
def Hx(ta:TA):TI:=fun σ H R=>ta σ H fun vs H1=>∃j:Int,vs=[.int j]/\ -(2^62)<=j/\j<2^62/\R (oX 0 j.toNat) H1
theorem Ut{a:aM}{ta:TA}{p pos:Pos}(hg:Gl X "range")(hm:X.mg "range"=J0)(ha:PA X [a] ta)(hs:autoParam (bQ [a] X.env=[(J2,bF a X.env)]) J7):PI X tg (.Call (.Name "range" p) [a] [] pos) (Hx ta):=by
 intro pins s σ H R I h;refine Call_ (rY I hg hm boot_range (zY (aR (ha pos pins s σ H _ I h) fun us s1⟨vs,H1,I1,r1,q1⟩=>?_) hs rfl));obtain⟨j,e,q1,q2,q⟩:=q1;subst e;cases r1 with
 |cons r rr=>
  cases rr;obtain⟨t,rfl⟩:=r;exact call_range_1 (VY I1 (by lia) (by lia) q1 q2 (by simpa using q))
def Mb(wi:TI)(g:TG)(tb:TS):TS:=fun D σ H=>wi σ H fun J H1=>∃W:Nat->Nat->St->Hp->Prop,(∃m,W 0 m σ H1)/\∀i m σ H,W i m σ H->
 (J.stop i H/\D.nx σ H)\/(J.go i H/\∃N:St->Hp->Prop,(∀σ' H',N σ' H'->∃m',m'<m/\W (i+1) m' σ' H')/\∀x H',J.yld i H x H'->g x σ H' fun σ2 H2=>tb {D with nx:=N,ct:=N,bk:=D.nx} σ2 H2)
def oz(fp:List aa)(h:aA):List (aa×Obj):=fp.filterMap fun b=>(h.get? b).map fun o=>(b,o)
theorem uM{fp:List aa}{h:aA}{b:aa}{o:Obj}(hb:b∈fp)(e:h.get? b=TL o):(b,o)∈oz fp h:=lg.mpr ⟨b,hb,by rw[e];rfl⟩
theorem Sn{fp:List aa}{h:aA}{p:aa×Obj}(hp:p∈oz fp h):p.1∈fp/\h.get? p.1=TL p.2:=by
 obtain⟨b,hb,e⟩:=lg.mp hp;cases q:h.get? b with
 |none=>rw[q]at e;cases e
 |some o=>
  rw[q]at e;have e':(b,o)=p:=dN e;subst e';exact⟨hb,q⟩
theorem Inv.pinned{pins:List (aa×Obj)}{σ:St}{H:Hp}{s:aj}{fp:List aa}(I:Inv X pins σ H s)(hf:∀b∈fp,iu X pins H b)(ho:∀b∈fp,∃o,s.heap.get? b=TL o/\∀v,o.data≠.cell v):Inv X (pins++oz fp s.heap) σ H s:=
 I.pins_of fun p hp=>(cn.mp hp).elim (fun z=>I.pin p (dA _ z)) fun z=>by
  obtain⟨hb,e⟩:=Sn z;obtain⟨f0,f1,f2,_⟩:=hf p.1 hb;obtain⟨o,e',d⟩:=ho p.1 hb;rw[e]at e';cases e';exact⟨e,f0,f1,f2,d⟩
theorem Inv.unpinned{pins pl:List (aa×Obj)}{σ:St}{H:Hp}{s:aj}(I:Inv X (pins++pl) σ H s):Inv X pins σ H s:=I.pins_of fun p hp=>I.pin p (dA _ (cW _ hp))
theorem gf{iter:aM}{body:List aI}{wi:TI}{g:TG}{tb:TS}{pos:Pos}(hp:PassesOwn (aC X.prog X.w) X.A X.env X.xe)(hc:X.calm=J1)(hi:PI X tg iter wi)(hg:PG X tg g)(hb:fA X body tb)
  (hs:∀x,uq iter X.env x=pure x:=by intro _;rfl):PS X (.For tg iter body [] pos) (Mb wi g tb):=by
 intro pins s σ H D I h;refine wpAny_For (aR (hi pins s σ H _ I h) fun v s1 h1=>aR h1 fun itv s2 h2=>?_) hs;obtain⟨it,fp,tn,J,H2,e,I2,T,st2,f2,W,⟨m0,w0⟩,turn⟩:=h2;subst e;have stat:∀{H':Hp},(∀b∈fp,H' b=J0)->∀b∈fp,iu X pins H' b:=fun hn b hb=>⟨hn b hb,(f2 b hb).2⟩;refine codeAny_forLoop_any (fun n s'=>∃i σ' H',Inv X pins σ' H' s'/\tn i s'.heap/\(∀b∈fp,H' b=J0)/\W i n σ' H') ?_ m0 ⟨0,σ,H2,I2,st2,fun b hb=>(f2 b hb).1,w0⟩;rintro n s3 ⟨i,σ3,H3,I3,st3,fr3,w3⟩;rcases turn i n σ3 H3 w3 with⟨stop,qn⟩|⟨go,N,hN,step⟩
 .refine sS hp (aR (T.done X rfl rfl rfl hc i pins s3 σ3 H3 X.xe I3 (stat fr3) st3 stop) fun r s4⟨hr,I4⟩=>?_);subst hr;exact yV ⟨σ3,H3,I4,qn⟩
 .refine sS hp (aR (T.item X rfl rfl rfl hc i pins s3 σ3 H3 X.xe I3 (stat fr3) st3 go) fun r s4⟨u,hr,h4⟩=>?_);subst hr;refine sS hp (aR h4 fun _ s5⟨x,H5,I5,r5,y5,st5,fr5⟩=>?_);have I5':=I5.pinned (stat fr5) (T.obj _ _ st5);refine sS hp (aR (hg _ s5 σ3 H5 x u _ I5' r5 (step x H5 y5)) fun _ s6⟨σ6,H6,I6,q6⟩=>?_);refine sS hp (aR (hb _ s6 σ6 H6 _ I6 q6) fun f s7 q7=>?_)
  have again:∀{σ7:St}{H7:Hp},Inv X (pins++oz fp s5.heap) σ7 H7 s7->N σ7 H7->∃m,m<n/\∃i σ' H',Inv X pins σ' H' s7/\tn i s7.heap/\(∀b∈fp,H' b=J0)/\W i m σ' H':=fun{σ7 H7} I7 n7=>by
   obtain⟨m',hm,w7⟩:=hN σ7 H7 n7;refine⟨m',hm,i+1,σ7,H7,I7.unpinned,T.keep _ _ _ st5 fun b hb o e=>(I7.pin (b,o) (dA _ (dA _ (uM hb e)))).1,fun b hb=>?_,w7⟩;obtain⟨o,e,d⟩:=T.obj _ _ st5 b hb;exact(I7.pin (b,o) (dA _ (dA _ (uM hb e)))).2.1
  cases f with
  |next=>obtain⟨σ7,H7,I7,n7⟩:=q7;exact again I7 n7
  |cont=>obtain⟨σ7,H7,I7,n7⟩:=q7;exact again I7 n7
  |brk=>obtain⟨σ7,H7,I7,q7⟩:=q7;exact⟨σ7,H7,I7.unpinned,q7⟩
  |ret v=>obtain⟨x7,σ7,H7,I7,r7,q7⟩:=q7;exact⟨x7,σ7,H7,I7.unpinned,r7,q7⟩
end
theorem PU{K:aw}{a:aa}{xs:List V}{g:TG}{tb:TS}{D:ja}{σ:St}{H:Hp}(Pv:Nat->St->Hp->Prop)(h0:Pv 0 σ H)(hl:∀i σ H,i<=xs.length->Pv i σ H->ak K H a xs)
  (hs:∀i x σ H,xs[i]?=TL x->Pv i σ H->g x σ H fun σ2 H2=>tb {D with nx:=Pv (i+1),ct:=Pv (i+1),bk:=D.nx} σ2 H2)(hd:∀σ H,Pv xs.length σ H->D.nx σ H):
  ∃W:Nat->Nat->St->Hp->Prop,(∃m,W 0 m σ H)/\∀i m σ H,W i m σ H->
   ((mh K a).stop i H/\D.nx σ H)\/((mh K a).go i H/\∃N:St->Hp->Prop,(∀σ' H',N σ' H'->∃m',m'<m/\W (i+1) m' σ' H')/\∀x H',(mh K a).yld i H x H'->g x σ H' fun σ2 H2=>tb {D with nx:=N,ct:=N,bk:=D.nx} σ2 H2):=by
 refine⟨fun i m σ H=>m=xs.length-i/\i<=xs.length/\Pv i σ H,⟨xs.length,by simp,bI _,h0⟩,?_⟩;rintro i m σ H ⟨rfl,hi,p⟩;have q:=hl i σ H hi p;by_cases hlt:i<xs.length
 .refine .inr ⟨⟨xs,xs[i],q,by simp[hlt]⟩,Pv (i+1),fun σ' H' p'=>⟨xs.length-(i+1),by lia,rfl,hlt,p'⟩,fun x H' y=>?_⟩;obtain⟨e,y⟩:=y;subst e;exact hs i x σ _ (y xs q) p
 .have e:i=xs.length:=by lia
  subst e;exact .inl ⟨⟨xs,q,aF _⟩,hd σ H p⟩
abbrev R2:=V->V->Hp->VK->Prop
def dv(X:Cx)(f:ae->ae->Sem ae)(r:R2):Prop:=
 ∀(pins:List (aa×Obj))(s:aj)(σ:St)(H:Hp)(x y:V)(v u:ae)(Q:VK),Inv X pins σ H s->RelV x v->RelV y u->r x y H Q->
  az (aC X.prog X.w) X.A (f v u) (EP X pins σ Q) X.xe s
def Ak(X:Cx)(f:ae->Sem ae)(r:V->Hp->VK->Prop):Prop:=
 ∀(pins:List (aa×Obj))(s:aj)(σ:St)(H:Hp)(x:V)(v:ae)(Q:VK),Inv X pins σ H s->RelV x v->r x H Q->
  az (aC X.prog X.w) X.A (f v) (EP X pins σ Q) X.xe s
def jB(X:Cx)(f:ae)(r:List V->Hp->VK->Prop):Prop:=
 ∀(pins:List (aa×Obj))(s:aj)(σ:St)(H:Hp)(xs:List V)(us:List ae)(Q:VK),Inv X pins σ H s->aX xs us->r xs H Q->
  az (aC X.prog X.w) X.A (call f us) (EP X pins σ Q) X.xe s
def vz(r:R2)(ta tb:TE):TE:=fun σ H Q=>ta σ H fun x H1=>tb σ H1 fun y H2=>r x y H2 Q
def Mq(r:V->Hp->VK->Prop)(ta:TE):TE:=fun σ H Q=>ta σ H fun x H1=>r x H1 Q
def rI(C:Int->Int->Prop)(g:Int->Int->V):R2:=fun x y H Q=>∃i j,x=.int i/\y=.int j/\C i j/\Q (g i j) H
def kb(g:Int->Int->V):R2:=fun x y H Q=>∃i j,x=.int i/\y=.int j/\Q (g i j) H
def rU(g:Int->V):V->Hp->VK->Prop:=fun x H Q=>∃i,x=.int i/\Q (g i) H
section
variable{X:Cx}{a b c:aM}{ta tb tc:TE}{pos:Pos}
theorem Au(ha:PE X a ta)(hb:PE X b tb){pins:List (aa×Obj)}{s:aj}{σ:St}{H:Hp}{R:V->V->Hp->Prop}(I:Inv X pins σ H s)
  (h:ta σ H fun x H1=>tb σ H1 fun y H2=>R x y H2){Q:ae->aj->Prop}{f:ae->ae->Sem ae}
  (hf:∀v u s2 x y H2,Inv X pins σ H2 s2->RelV x v->RelV y u->R x y H2->az (aC X.prog X.w) X.A (f v u) Q X.xe s2):
  az (aC X.prog X.w) X.A (bF a X.env) (fun v s₁=>az (aC X.prog X.w) X.A (bF b X.env) (fun u s₂=>az (aC X.prog X.w) X.A (f v u) Q X.xe s₂) X.xe s₁) X.xe s:=by
 refine aR (ha pins s σ H _ I h) fun v s1⟨x,H1,I1,r1,q1⟩=>?_;refine aR (hb pins s1 σ H1 _ I1 q1) fun u s2⟨y,H2,I2,r2,q2⟩=>?_;exact hf v u s2 x y H2 I2 r1 r2 q2
theorem bb{op:Operator}{r:R2}(ho:dv X (nU op) r)(ha:PE X a ta)(hb:PE X b tb):PE X (.BinOp a op b pos) (vz r ta tb):=by
 intro pins s σ H Q I h;exact wpAny_BinOp (Au ha hb I h fun v u s2 x y H2 I2 rx ry q=>ho pins s2 σ H2 x y v u Q I2 rx ry q)
theorem gV{op:UnaryOp}{r:V->Hp->VK->Prop}(ho:Ak X (unaryOp op) r)(ha:PE X a ta):PE X (.UnaryOp op a pos) (Mq r ta):=by
 intro pins s σ H Q I h;exact UnaryOp_ (aR (ha pins s σ H _ I h) fun v s1⟨x,H1,I1,r1,q1⟩=>ho pins s1 σ H1 x v Q I1 r1 q1)
theorem Jg{f:ae->ae->Sem ae}{C:Int->Int->Prop}{g:Int->Int->Int}
  (rule:∀(i j:Int)(t u:Tok)(s:aj)(Q:ae->aj->Prop)(E:ae->aj->Prop),C i j->Q (.int (g i j) s.toks) {s with toks:=s.toks+1}->az (aC X.prog X.w) X.A (f (.int i t) (.int j u)) Q E s):
  dv X f (rI C fun i j=>.int (g i j)):=by
 intro pins s σ H x y v u Q I rx ry h;obtain⟨i,j,rfl,rfl,hc,q⟩:=h;obtain⟨t,rfl⟩:=rx;obtain⟨t',rfl⟩:=ry;exact rule i j t t' s _ _ hc ⟨.int (g i j),H,I.tok _,⟨_,rfl⟩,q⟩
theorem uS{f:ae->ae->Sem ae}{g:Int->Int->Int}
  (rule:∀(i j:Int)(t u:Tok)(s:aj)(Q:ae->aj->Prop)(E:ae->aj->Prop),Q (.int (g i j) s.toks) {s with toks:=s.toks+1}->az (aC X.prog X.w) X.A (f (.int i t) (.int j u)) Q E s):
  dv X f (kb fun i j=>.int (g i j)):=by
 intro pins s σ H x y v u Q I rx ry h;obtain⟨i,j,rfl,rfl,q⟩:=h;obtain⟨t,rfl⟩:=rx;obtain⟨t',rfl⟩:=ry;exact rule i j t t' s _ _ ⟨.int (g i j),H,I.tok _,⟨_,rfl⟩,q⟩
theorem yb{f:ae->ae->Sem ae}{g:Int->Int->Bool}
  (rule:∀(i j:Int)(t u:Tok)(s:aj)(Q:ae->aj->Prop)(E:ae->aj->Prop),Q (.bool (g i j)) s->az (aC X.prog X.w) X.A (f (.int i t) (.int j u)) Q E s):
  dv X f (kb fun i j=>.bl (g i j)):=by
 intro pins s σ H x y v u Q I rx ry h;obtain⟨i,j,rfl,rfl,q⟩:=h;obtain⟨t,rfl⟩:=rx;obtain⟨t',rfl⟩:=ry;exact rule i j t t' s _ _ ⟨.bl (g i j),H,I,rfl,q⟩
theorem Yw(k:Nat):(0:Int)<=2^k:=by
 rw[two_pow_cast];exact Int.natCast_nonneg _
theorem dX:dv X (nU .Add) (kb fun i j=>.int (i+j)):=uS fun _ _ _ _ _ _ _ q=>add_int q
theorem sy:dv X (nU .Sub) (kb fun i j=>.int (i-j)):=uS fun _ _ _ _ _ _ _ q=>sub_int q
theorem uV:dv X (nU .RShift) (rI (fun _ j=>0<=j) fun i j=>.int (i / 2^j.toNat)):=Jg fun i j _ _ _ _ _ hc q=>
 rshift_int hc (by rw[Int.fdiv_eq_ediv_of_nonneg i (Yw _)];exact q)
theorem jU:dv X (nU .BitAnd) (kb fun i j=>.int (vN i j)):=uS fun _ _ _ _ _ _ _ q=>and_int q
theorem yd:dv X (nU .BitOr) (kb fun i j=>.int (Builtin.bitOr i j)):=uS fun _ _ _ _ _ _ _ q=>or_int q
theorem Ce:dv X (nU .BitXor) (kb fun i j=>.int (Ep i j)):=uS fun _ _ _ _ _ _ _ q=>xor_int q
theorem Yy{f:ae->Sem ae}{g:Int->Int}
  (rule:∀(i:Int)(t:Tok)(s:aj)(Q:ae->aj->Prop)(E:ae->aj->Prop),Q (.int (g i) s.toks) {s with toks:=s.toks+1}->az (aC X.prog X.w) X.A (f (.int i t)) Q E s):
  Ak X f (rU fun i=>.int (g i)):=by
 intro pins s σ H x v Q I rx h;obtain⟨i,rfl,q⟩:=h;obtain⟨t,rfl⟩:=rx;exact rule i t s _ _ ⟨.int (g i),H,I.tok _,⟨_,rfl⟩,q⟩
theorem gW:Ak X (unaryOp .USub) (rU fun i=>.int (-i)):=Yy fun _ _ _ _ _ q=>neg_int q
end
noncomputable def KR:V->V->Bool
 |.non,.non=>J1|.non,.int _=>J1|.int _,.non=>J1|.non,.bl _=>J1|.bl _,.non=>J1|.non,.str _=>J1|.str _,.non=>J1
 |.int _,.int _=>J1|.bl _,.bl _=>J1|.str _,.str _=>J1|.byt _,.byt _=>J1
 |.int _,.str _=>J1|.str _,.int _=>J1|.bl _,.str _=>J1|.str _,.bl _=>J1
 |_,_=>J2
def oB:R2:=fun x y H Q=>KR x y=J1/\Q (.bl (decide (x=y))) H
def CJ:R2:=fun x y H Q=>KR x y=J1/\Q (.bl (!decide (x=y))) H
theorem Gz{i j:Int}:decide (V.int i=V.int j)=(i==j):=by
 rw[nu];simp
theorem Gx{i j:Bool}:decide (V.bl i=V.bl j)=(i==j):=by
 rw[nu];simp
theorem GA{i j:Str}:decide (V.str i=V.str j)=(i==j):=by
 rw[nu];simp
theorem Gy{i j:Array UInt8}:decide (V.byt i=V.byt j)=(i.toList==j.toList):=by
 rw[nu];cases i;cases j;simp
section
variable{X:Cx}{a b c:aM}{ta tb tc:TE}{pos:Pos}
theorem df{pins:List (aa×Obj)}{σ:St}{H:Hp}{s:aj}{Q:VK}{k k':Bool}(I:Inv X pins σ H s)(q:Q (.bl k) H)(e:k=k'):EP X pins σ Q (.bool k') s:=by
 subst e;exact⟨.bl k,H,I,rfl,q⟩
theorem eF:dv X (fK .Eq) oB:=by
 intro pins s σ H x y v u Q I rx ry h;obtain⟨hs,q⟩:=h;cases x with
 |non=>
  cases rx;cases y with
  |non=>cases ry;exact PySem.EqNone.eq_none_none (df I q (by simp))
  |bl j=>cases ry;exact PySem.EqNone.eq_none_bool (df I q (by simp))
  |int j=>obtain⟨t',rfl⟩:=ry;exact PySem.EqNone.eq_none_int (df I q (by simp))
  |str j=>obtain⟨t',rfl⟩:=ry;exact PySem.EqNone.eq_none_str (df I q (by simp))
  |_=>exact J5 (show J2=J1 from hs) fC
 |bl i=>
  cases rx;cases y with
  |non=>cases ry;exact PySem.EqNone.eq_bool_none (df I q (by simp))
  |bl j=>cases ry;exact eq_bool (df I q Gx)
  |str j=>obtain⟨t',rfl⟩:=ry;exact PySem.EqMixed.eq_bool_str (df I q (by simp))
  |_=>exact J5 (show J2=J1 from hs) fC
 |int i=>
  obtain⟨t,rfl⟩:=rx;cases y with
  |non=>cases ry;exact PySem.EqNone.eq_int_none (df I q (by simp))
  |int j=>obtain⟨t',rfl⟩:=ry;exact eq_int (df I q Gz)
  |str j=>obtain⟨t',rfl⟩:=ry;exact PySem.EqMixed.eq_int_str (df I q (by simp))
  |_=>exact J5 (show J2=J1 from hs) fC
 |str i=>
  obtain⟨t,rfl⟩:=rx;cases y with
  |non=>cases ry;exact PySem.EqNone.eq_str_none (df I q (by simp))
  |bl j=>cases ry;exact PySem.EqMixed.eq_str_bool (df I q (by simp))
  |int j=>obtain⟨t',rfl⟩:=ry;exact PySem.EqMixed.eq_str_int (df I q (by simp))
  |str j=>obtain⟨t',rfl⟩:=ry;exact eq_str (df I q GA)
  |_=>exact J5 (show J2=J1 from hs) fC
 |byt i=>
  obtain⟨t,rfl⟩:=rx;cases y with
  |byt j=>obtain⟨t',rfl⟩:=ry;exact PySem.W.eq_bytes (df I q Gy)
  |_=>exact J5 (show J2=J1 from hs) fC
 |_=>cases y<;>exact J5 (show J2=J1 from hs) fC
theorem uU:dv X (fK .NotEq) CJ:=by
 intro pins s σ H x y v u Q I rx ry h;obtain⟨hs,q⟩:=h;cases x with
 |non=>
  cases rx;cases y with
  |non=>cases ry;exact PySem.EqNone.ne_none_none (df I q (by simp))
  |bl j=>cases ry;exact PySem.EqNone.ne_none_bool (df I q (by simp))
  |int j=>obtain⟨t',rfl⟩:=ry;exact PySem.EqNone.ne_none_int (df I q (by simp))
  |str j=>obtain⟨t',rfl⟩:=ry;exact PySem.EqNone.ne_none_str (df I q (by simp))
  |_=>exact J5 (show J2=J1 from hs) fC
 |bl i=>
  cases rx;cases y with
  |non=>cases ry;exact PySem.EqNone.ne_bool_none (df I q (by simp))
  |bl j=>cases ry;exact ne_bool (df I q (congrArg not Gx))
  |str j=>obtain⟨t',rfl⟩:=ry;exact PySem.EqMixed.ne_bool_str (df I q (by simp))
  |_=>exact J5 (show J2=J1 from hs) fC
 |int i=>
  obtain⟨t,rfl⟩:=rx;cases y with
  |non=>cases ry;exact PySem.EqNone.ne_int_none (df I q (by simp))
  |int j=>obtain⟨t',rfl⟩:=ry;exact ne_int (df I q (congrArg not Gz))
  |str j=>obtain⟨t',rfl⟩:=ry;exact PySem.EqMixed.ne_int_str (df I q (by simp))
  |_=>exact J5 (show J2=J1 from hs) fC
 |str i=>
  obtain⟨t,rfl⟩:=rx;cases y with
  |non=>cases ry;exact PySem.EqNone.ne_str_none (df I q (by simp))
  |bl j=>cases ry;exact PySem.EqMixed.ne_str_bool (df I q (by simp))
  |int j=>obtain⟨t',rfl⟩:=ry;exact PySem.EqMixed.ne_str_int (df I q (by simp))
  |str j=>obtain⟨t',rfl⟩:=ry;exact ne_str (df I q (congrArg not GA))
  |_=>exact J5 (show J2=J1 from hs) fC
 |byt i=>
  obtain⟨t,rfl⟩:=rx;cases y with
  |byt j=>obtain⟨t',rfl⟩:=ry;exact PySem.W.ne_bytes (df I q (congrArg not Gy))
  |_=>exact J5 (show J2=J1 from hs) fC
 |_=>cases y<;>exact J5 (show J2=J1 from hs) fC
theorem qk:dv X (fK .Lt) (kb fun i j=>.bl (decide (i<j))):=yb fun _ _ _ _ _ _ _ q=>lt_int q
theorem Cb:dv X (fK .LtE) (kb fun i j=>.bl (decide (i<=j))):=yb fun _ _ _ _ _ _ _ q=>le_int q
theorem mV:dv X (fK .Gt) (kb fun i j=>.bl (decide (j<i))):=yb fun _ _ _ _ _ _ _ q=>gt_int q
theorem uT:dv X (fK .GtE) (kb fun i j=>.bl (decide (j<=i))):=yb fun _ _ _ _ _ _ _ q=>ge_int q
theorem Ca:dv X (fK .Is) (fun x y H Q=>y=.non/\Q (.bl (decide (x=.non))) H):=by
 intro pins s σ H x y v u Q I rx ry h;obtain⟨rfl,q⟩:=h;cases ry;refine is_none_gen (df I q ?_)
 cases x<;>first
  |(cases rx;rfl)
  |(obtain⟨t,rfl⟩:=rx;rfl)
theorem Cd:dv X (fK .IsNot) (fun x y H Q=>y=.non/\Q (.bl (!decide (x=.non))) H):=by
 intro pins s σ H x y v u Q I rx ry h;obtain⟨rfl,q⟩:=h;cases ry;refine isnot_none_gen (df I q ?_)
 cases x<;>first
  |(cases rx;rfl)
  |(obtain⟨t,rfl⟩:=rx;rfl)
theorem bq(b:aM){op:CmpOp}(h:autoParam (op≠.In) J9)(h2:autoParam (op≠.NotIn) J9):wY op b=false:=by
 have e1:(op==CmpOp.In)=false:=by cases op<;>first|rfl|exact J5 rfl h
 have e2:(op==CmpOp.NotIn)=false:=by cases op<;>first|rfl|exact J5 rfl h2
 cases b<;>simp[wY,e1,e2]
theorem fN{op:CmpOp}{r:R2}(ho:dv X (fK op) r)(ha:PE X a ta)(hb:PE X b tb)(hm:wY op b=J2):PE X (.Compare a [op] [b] pos) (vz r ta tb):=by
 intro pins s σ H Q I h;exact wpAny_Compare1 (Au ha hb I h fun v u s2 x y H2 I2 rx ry q=>ho pins s2 σ H2 x y v u Q I2 rx ry q) hm
def DT(t:TE):TT:=fun σ H Q=>t σ H fun x H'=>∃k,x=.bl k/\Q k H'
theorem bL{op:CmpOp}{r:R2}(ho:dv X (fK op) r)(ha:PE X a ta)(hb:PE X b tb)(hm:wY op b=J2):PT X (.Compare a [op] [b] pos) (DT (vz r ta tb)):=by
 intro pins s σ H Q I h
 refine YI (aR (ha pins s σ H _ I h) fun v s1⟨x,H1,I1,r1,q1⟩=>aR (hb pins s1 σ H1 _ I1 q1) fun u s2⟨y,H2,I2,r2,q2⟩=>
  aR (ho pins s2 σ H2 x y v u _ I2 r1 r2 q2) fun c s3⟨z,H3,I3,r3,k,e,q3⟩=>?_) hm
 subst e;cases r3;exact vG ⟨H3,I3,q3⟩
theorem xK:(aZ:Nat)<2^63:=by rw[sI];decide
theorem vals1{x:V}{us:List ae}(r:aX [x] us):∃u,us=[u]/\RelV x u:=by
 cases r with
 |cons r1 r2=>cases r2;exact⟨_,rfl,r1⟩
end
structure pB(h:aA)(x dx C:aa)(mA:Str->Option ae):Prop where
 obj:h.get? x=TL (pG C dx)
 ns:h.Ns1 dx mA
 ne:dx≠x
theorem Rt{h:aA}{dx:aa}{mA:Str->Option ae}(n:h.Ns1 dx mA):∃od,h.get? dx=TL od/\∀name,Af name od=TL (mA name):=by
 obtain⟨o,es,ep,ho,hd,hk,_,hm⟩:=n;refine⟨o,ho,fun name=>?_⟩;have e:=hm name;unfold nsFind findBy at e;rw[<-Array.find?_toList]at e;unfold Af;rw[hd];dsimp only;split
 .rename_i y q
  rw[q]at e;exact congrArg TL e
 .rename_i q
  rw[q]at e
  have a:es.toList.any (·.refKey)=false:=by
   rw[vU];intro y hy;obtain⟨z,t,hkey⟩:=hk y (Array.mem_toList_iff.mp hy);simp[DictEntry.refKey,hkey]
  have a': ¬es.toList.any (·.refKey)=true:=by rw[a];exact fC
  rw[J3 a'];exact congrArg TL e
theorem pB.look{h:aA}{x dx C:aa}{mA:Str->Option ae}(I:pB h x dx C mA):∃od,PySem.W.InstAt h x (pG C dx) C (TL od)/\∀name,Af name od=TL (mA name):=
 let⟨od,ho,hl⟩:=Rt I.ns
 ⟨od,⟨I.obj,rfl,rfl,ho⟩,hl⟩
section
variable{prog:aJ}{w:aH}{A:bM}{E:ae->aj->Prop}{s:aj}{K:aw}{x dx C f:aa}{mA:Str->Option ae}{name:Str}{v:ae}
theorem Hg{expr:Bool}{Q:ae->aj->Prop}(X:K.In s.heap)(I:pB s.heap x dx C mA)(hg:wF K C name=J1)(hh:Ae K C=J1)
  (ha:nN K (.ref C) name=TL J0)(hv:mA name=TL v)(hv':PySem.W.handedIn v=J1)(h:Q v {s with toks:=s.toks+1}):
  az (aC prog w) A (getAttr (.ref x) name expr) Q E s:=by
 obtain⟨od,J,hl⟩:=I.look;exact PySem.W.get_value X J (Fm hg).1 (PySem.W.findObj_own hh ha rfl (by rw[hl,hv])) hv' h
theorem PZ{pl:Sem Bool}{Q:ae×List ae->aj->Prop}(X:K.In s.heap)(I:pB s.heap x dx C mA)(hg:wF K C name=J1)
  (hf:nN K (.ref C) name=TL (TL (.ref f)))(ht:PySem.W.isFn K (.ref f)=J1)(hv:mA name=J0)(h:Q (.ref f,[.ref x]) s):
  az (aC prog w) A (uu (.ref x) name pl) Q E s:=by
 obtain⟨od,J,hl⟩:=I.look;exact PySem.W.method_fn X J (Fm hg).1 (Fm hg).2 hf (beq_iff_eq.mp ht) (by show(Af name od).map (·.isSome)=TL J2;rw[hl,hv];rfl) h
theorem Wo{ns:List Str}{Q:Unit->aj->Prop}(X:K.In s.heap)(I:pB s.heap x dx C mA)
  (hs:nN K (.ref C) "__setattr__"=TL (TL (.builtin "object.__setattr__")))(hp:Fn K C=J1)(ht:Fo K C name=TL J0)(hh:Ae K C=J1)
  (hw:Ah mA ns)(hsz:ns.length<=aZ)
  (h:∀h',pB h' x dx C (fun y=>if y=name then TL v else mA y)->me dx s.heap h'->Q () {s with heap:=h',toks:=s.toks+2}):
  az (aC prog w) A (setAttr (.ref x) name v) Q E s:=by
 obtain⟨od,J,hl⟩:=I.look;refine PySem.W.set_plain X J hs (PySem.W.osa_open (s:={s with toks:=s.toks+1}) (r:=J0) X J hp ht fun b=>?_);obtain⟨cd,hc,hd'⟩:=PySem.W.any_some hh;have hx:s.heap.get? x=TL ⟨.ref C,TL dx,.plain,#[]⟩:=I.obj;refine ay (aT (ay (ay (wpAny_loadPart hx (ay (PySem.W.Looks.here (s:={s with toks:=s.toks+1}) (PySem.W.looks_clsIn X hc) ?_))))));rw[hd'];refine aT (a:=TL dx) (ay (aT (ay ?_)));refine wpAny_nsSet1 (s:={s with toks:=s.toks+1}) I.ns fun h' hn2 hs2=>?_;obtain⟨oD,esD,epD,hoD,hdD,hcD⟩:=hn2.count (Ah.cons name v hw);refine ay (wpAny_lookBehind hoD (by rw[hdD];exact pastItsLine_dict (dM hcD (by rw[bH];lia))) ?_);exact aT (h _ ⟨(hs2.2 _ (br I.ne)).trans I.obj,hn2,I.ne⟩ hs2)
theorem RB{R:Result->aj->Prop}{vs:List ae}{kw:List (Str×ae)}(X:K.In s.heap)(hm:PySem.W.makesIn K C=J1)
  (hi:nN K (.ref C) "__init__"=TL (TL (.ref f)))(hf:PySem.W.typeIn K (.ref f)=TL (.type "function"))
  (h:hX (aC prog w) (A.under (.builtin "type.__call__" ⟨.ref C::vs,kw⟩)) (.call (.ref f) ⟨.ref (s.heap.objs.size+1)::vs,kw⟩) (PySem.W.InitBack (s.heap.objs.size+1) R)
   {s with heap:=(s.heap.push nM).push (pG C s.heap.objs.size)}):
  hX (aC prog w) A (.call (.ref C) ⟨vs,kw⟩) R s:=by
 obtain⟨hh,g,d,t,os⟩:=s;exact PySem.W.make_core (PySem.W.makes_of X hm) (PySem.W.looks_findIn X hi) (fun self=>PySem.W.bind_fn X self hf) (.inl rfl) h
end
noncomputable def bW(f:Str)(v:V):List (Str×V)->List (Str×V)
 | []=> [(f,v)]
 |(g,x)::r=>if g=f then(g,v)::r else(g,x)::bW f v r
theorem Im(f g:Str)(v:V):∀fs:List (Str×V),(bW f v fs).lookup g=if g=f then TL v else fs.lookup g
 | []=>by
  show nB g [(f,v)]=_;by_cases h:g=f
  .have hb:(g==f)=true:=beq_iff_eq.mpr h;simp only[nB,hb,J4 h]
  .have hb:(g==f)=false:=beq_eq_false_iff_ne.mpr h;simp only[nB,hb,J3 h]
 |(k,x)::r=>by
  have ih:=Im f g v r;rw[show bW f v ((k,x)::r)=(if k=f then(k,v)::r else(k,x)::bW f v r)from rfl];by_cases hk:k=f
  .rw[J4 hk];by_cases h:g=k
   .have hb:(g==k)=true:=beq_iff_eq.mpr h;simp only[nB,hb,J4 (h.trans hk)]
   .have hb:(g==k)=false:=beq_eq_false_iff_ne.mpr h;simp only[nB,hb,J3 (fun e:g=f=>h (e.trans hk.symm))]
  .rw[J3 hk];by_cases h:g=k
   .have hb:(g==k)=true:=beq_iff_eq.mpr h;simp only[nB,hb,J3 (fun e:g=f=>hk (h.symm.trans e))]
   .have hb:(g==k)=false:=beq_eq_false_iff_ne.mpr h;simp only[nB,hb];exact ih
theorem Bh(f:Str)(v:V):∀fs:List (Str×V),f∈(bW f v fs).map (·.1)/\∀g,g∈fs.map (·.1)->g∈(bW f v fs).map (·.1)
 | []=>⟨by simp[bW],fun g h=>by simp at h⟩
 |(k,x)::r=>by
  obtain⟨i1,i2⟩:=Bh f v r;rw[show bW f v ((k,x)::r)=(if k=f then(k,v)::r else(k,x)::bW f v r)from rfl];by_cases hk:k=f
  .rw[J4 hk];subst hk;exact⟨by simp,fun g h=>by simpa using h⟩
  .rw[J3 hk];refine⟨?_,fun g h=>?_⟩
   .rw[cV];exact bX _ i1
   .rw[cV]at h⊢;rcases bg.mp h with e|e
    .exact bg.mpr (.inl e)
    .exact bX _ (i2 g e)
theorem Bk(f:Str)(v:V):∀fs:List (Str×V),(bW f v fs).length<=fs.length+1
 | []=>by simp[bW]
 |(k,x)::r=>by
  have ih:=Bk f v r;rw[show bW f v ((k,x)::r)=(if k=f then(k,v)::r else(k,x)::bW f v r)from rfl];by_cases hk:k=f
  .rw[J4 hk,bH,bH];lia
  .rw[J3 hk,bH,bH];lia
theorem fV.some_of{v:V}{o:Option ae}(r:fV (TL v) o):∃u,o=TL u/\RelV v u:=by
 cases o with
 |none=>exact(show False from r).elim
 |some u=>exact⟨u,rfl,r⟩
theorem fV.none_of{o:Option ae}(r:fV J0 o):o=none:=by
 cases o with
 |none=>rfl
 |some u=>exact(show False from r).elim
theorem Ql{v:V}{u:ae}(r:RelV v u):PySem.W.handedIn u=true:=by
 cases v with
 |non=>cases(show u=iP from r);rfl
 |bl b=>cases(show u=pM b from r);rfl
 |int i=>obtain⟨t,e⟩:=(show∃t,u=kG i t from r);cases e;rfl
 |str x=>obtain⟨t,e⟩:=(show∃t,u=ae.str x t from r);cases e;rfl
 |byt b=>obtain⟨t,e⟩:=(show∃t,u=ae.bytes b t from r);cases e;rfl
 |flt b=>obtain⟨t,e⟩:=(show∃t,u=ae.float b t from r);cases e;rfl
 |ref a=>cases(show u=cO a from r);rfl
 |ty n=>cases(show u=nP n from r);rfl
section
variable{P:aJ}{w:aH}{H H':Hp}{h h':aA}{a C dx:aa}{fs fs':List (Str×V)}
theorem xF(hok:cz P w H h)(e:H a=TL (.ins C dx fs)):∃mA,pB h a dx C mA/\(∀f,fV (fs.lookup f) (mA f))/\Ah mA (fs.map (·.1))/\fs.length<=1000/\H dx=TL (.own a):=by
 obtain⟨d,z,ne,ob,mA,n,r,q⟩:=(show dS P w H h a (.ins C dx fs)from hok a _ e);exact⟨mA,⟨ob,n,ne⟩,r,q,z,d⟩
end
structure dH(K:aw)(C:aa):Prop where
 pg:wF K C Str.empty=J1
 hd:Ae K C=J1
 po:Fn K C=J1
 sa:nN K (.ref C) "__setattr__"=TL (TL (.builtin "object.__setattr__"))
theorem dH.get{K:aw}{C:aa}(c:dH K C)(f:Str):wF K C f=true:=c.pg
def cS(K:aw)(C:aa)(f:Str):Prop:=nN K (.ref C) f=TL J0
theorem cS.taker{K:aw}{C:aa}{f:Str}(n:cS K C f):Fo K C f=TL none:=by
 unfold Fo;rw[show nN K (.ref C) f=TL J0 from n];rfl
structure tG(K:aw)(C:aa)(m:Str)(f:aa):Prop where
 at_:nN K (.ref C) m=TL (TL (.ref f))
 fn:PySem.W.isFn K (.ref f)=J1
 kp:pH K (.ref f)=J1
section
variable{X:Cx}{pins:List (aa×Obj)}{σ:St}{H:Hp}{s:aj}{a C dx:aa}{fs:List (Str×V)}{f:Str}{v:V}{A:bM}{E:ae->aj->Prop}
theorem Hh{b:Bool}{Q:ae->aj->Prop}(I:Inv X pins σ H s)(e:H a=TL (.ins C dx fs))(c:dH X.K C)(n:cS X.K C f)(l:fs.lookup f=TL v)
  (h:∀u s',Inv X pins σ H s'->RelV v u->Q u s'):az (aC X.prog X.w) A (getAttr (.ref a) f b) Q E s:=by
 obtain⟨mA,O,r,_,_,_⟩:=xF I.hok e;obtain⟨u,hu,ru⟩:=fV.some_of (v:=v) (o:=mA f) (by rw[<-l];exact r f);exact Hg I.kIn O (c.get f) c.hd n hu (Ql ru) (h u _ (I.tok _) ru)
theorem Hi{m:Str}{g:aa}{pl:Sem Bool}{Q:ae×List ae->aj->Prop}(I:Inv X pins σ H s)(e:H a=TL (.ins C dx fs))(c:dH X.K C)(k:tG X.K C m g)(l:fs.lookup m=J0)
  (h:Q (.ref g,[.ref a]) s):az (aC X.prog X.w) A (uu (.ref a) m pl) Q E s:=by
 obtain⟨mA,O,r,_,_,_⟩:=xF I.hok e;have hn:mA m=none:=fV.none_of (by rw[<-l];exact r m);exact PZ I.kIn O (c.get m) k.at_ k.fn hn h
theorem Le{y:V}{u:ae}{Q:Unit->aj->Prop}(I:Inv X pins σ H s)(e:H a=TL (.ins C dx fs))(c:dH X.K C)(n:cS X.K C f)(hl:fs.length<1000)(ry:RelV y u)
  (h:∀s',Inv X pins σ (ah H a (.ins C dx (bW f y fs))) s'->Q () s'):az (aC X.prog X.w) A (setAttr (.ref a) f u) Q E s:=by
 obtain⟨mA,O,r,wi,_,ho⟩:=xF I.hok e;have hz:(fs.map (·.1)).length<=aZ:=by rw[aE,sI];lia
 refine Wo I.kIn O c.sa c.po n.taker c.hd wi hz fun h' O' sb=>h _ ?_;have hd:∃o,h'.get? dx=TL o:=let⟨o,_,_,e',_⟩:=O'.ns;⟨o,e'⟩;refine I.write (x:=a) (e:=dx) (by rw[e];exact lE) (.inr ho) (fun b q hb z=>(sb.2 b hb).trans z) hd ?_;refine⟨by rw[aO O.ne];exact ho,?_,O.ne,O'.obj,_,O'.ns,fun g=>?_,fun g hg=>?_⟩
 .have:=Bk f y fs;lia
 .show fV ((bW f y fs).lookup g) (if g=f then TL u else mA g);rw[Im];by_cases q:g=f
  .rw[J4 q,J4 q];exact ry
  .rw[J3 q,J3 q];exact r g
 .by_cases q:g=f
  .rw[q];exact(Bh f y fs).1
  .refine(Bh f y fs).2 g (wi g fun z=>hg ?_);show(if g=f then TL u else mA g)=J0;rw[J3 q];exact z
theorem Inv.made(I:Inv X pins σ H s):Inv X pins σ (ah (ah H s.heap.objs.size (.own (s.heap.objs.size+1))) (s.heap.objs.size+1) (.ins C s.heap.objs.size []))
  {s with heap:=(s.heap.push nM).push (pG C s.heap.objs.size)}:=by
 have e1:(s.heap.push nM).get? s.heap.objs.size=TL nM:=dD s.heap rfl
 have e2:((s.heap.push nM).push (pG C s.heap.objs.size)).get? (s.heap.objs.size+1)=TL (pG C s.heap.objs.size):=by
  have:=dD (s.heap.push nM) (o:=pG C s.heap.objs.size) rfl
  rwa [fQ]at this
 have e3:(s.heap.push nM).Ns s.heap.objs.size (fun _=>J0):=⟨nM,#[],_,e1,rfl,(fun e he=>J5 he (by simp)),fun _=>rfl⟩;have I1:=I.laid (a:=s.heap.objs.size) (o:=.own (s.heap.objs.size+1)) (h':=s.heap.push nM) (t':=s.toks) (fun b u q=>bV _ q) (aF _) ⟨_,e1⟩;refine I1.laid (a:=s.heap.objs.size+1) (o:=.ins C s.heap.objs.size []) (t':=s.toks) (fun b u q=>bV _ q) (tJ (fQ _ _)) ?_;have ne:s.heap.objs.size≠s.heap.objs.size+1:=cJ (wg _);refine⟨by rw[aO ne,ax],bI _,ne,e2,fun _=>J0,(aA.Ns1.of_empty e3).at fun o q=>bV _ q,fun _=>lE,fun y hy=>J5 rfl hy⟩
theorem FQ{prog:aJ}{w:aH}{env:Env}{e:aM}{f:Str}{pos:Pos}{s:aj}{Q:ae->aj->Prop}(hb:tX e f env (bF e env)=bF e env)
  (h:az (aC prog w) A (bF e env) (fun o s₁=>az (aC prog w) A (getAttr o f J1) Q E s₁) E s):az (aC prog w) A (bF (.Attribute e f pos) env) Q E s:=
 Attribute_any_ h (by rw[arm_eval_Attribute,hb])
end
def yH(K:aw)(ta:TE)(f:Str):TE:=fun σ H Q=>ta σ H fun x H1=>∃a C dx fs v,x=.ref a/\H1 a=TL (.ins C dx fs)/\dH K C/\cS K C f/\fs.lookup f=TL v/\Q v H1
def JQ(K:aw)(ta tv:TE)(f:Str):TS:=fun D σ H=>tv σ H fun y H1=>ta σ H1 fun x H2=>∃a C dx fs,x=.ref a/\H2 a=TL (.ins C dx fs)/\dH K C/\cS K C f/\fs.length<1000/\
 D.nx σ (ah H2 a (.ins C dx (bW f y fs)))
def Ez(X:Cx)(op:Operator)(rd:V->V->Hp->VK->Prop):Prop:=
 ∀(pins:List (aa×Obj))(s:aj)(σ:St)(H:Hp)(x y:V)(u v:ae)(Q:VK),Inv X pins σ H s->RelV x u->RelV y v->rd x y H Q->az (aC X.prog X.w) X.A (inplaceOp op u v) (EP X pins σ Q) X.xe s
def CS(K:aw)(ta tv:TE)(rd:V->V->Hp->VK->Prop)(f:Str):TS:=fun D σ H=>ta σ H fun x H1=>∃a C dx fs v,x=.ref a/\H1 a=TL (.ins C dx fs)/\dH K C/\cS K C f/\fs.lookup f=TL v/\
 tv σ H1 fun y H2=>rd v y H2 fun z H3=>∃dx' fs',H3 a=TL (.ins C dx' fs')/\fs'.length<1000/\D.nx σ (ah H3 a (.ins C dx' (bW f z fs')))
section
variable{X:Cx}{o e value:aM}{f:Str}{pos pos' tpos:Pos}{ta tv:TE}
theorem bN(he:PE X e ta)(hb:tX e f X.env (bF e X.env)=bF e X.env):PE X (.Attribute e f pos) (yH X.K ta f):=by
 intro pins s σ H Q I h;refine FQ hb (aR (he pins s σ H _ I h) fun u s1⟨x,H1,I1,rx,a,C,dx,fs,v,ex,ea,c,n,l,q⟩=>?_);subst ex;obtain rfl:u=cO a:=rx;exact Hh I1 ea c n l fun u' s2 I2 ru=>⟨v,H1,I2,ru,q⟩
theorem fj(ha:PE X o ta)(hv:PE X value tv)(hs:oE value (TL (.Attribute o f pos')) pos.line X.env=pure J2):PS X (.Assign [.Attribute o f pos'] value pos) (JQ X.K ta tv f):=by
 intro pins s σ H D I h;refine plainObj_wpAny_Assign_Attribute (aR (hv pins s σ H _ I h) fun u s1⟨y,H1,I1,ry,q⟩=>aR (ha pins s1 σ H1 _ I1 q) fun ov s2⟨x,H2,I2,rx,a,C,dx,fs,ex,ea,c,n,l,q2⟩=>?_) hs;subst ex;obtain rfl:ov=cO a:=rx;exact Le I2 ea c n l ry fun s3 I3=>⟨σ,_,I3,q2⟩
theorem Jz{op:Operator}{rd:V->V->Hp->VK->Prop}(ha:PE X o ta)(hv:PE X value tv)(hop:Ez X op rd):PS X (.AugAssign (.Attribute o f tpos) op value pos) (CS X.K ta tv rd f):=by
 intro pins s σ H D I h;refine wpAny_AugAssign_AttributeAny (aR (ha pins s σ H _ I h) fun ov s1⟨x,H1,I1,rx,a,C,dx,fs,v,ex,ea,c,n,l,q⟩=>?_);subst ex;obtain rfl:ov=cO a:=rx;refine Hh I1 ea c n l fun u s2 I2 ru=>aR (hv pins s2 σ H1 _ I2 q) fun w3 s3⟨y,H2,I3,ry,q3⟩=>aR (hop pins s3 σ H2 v y u w3 _ I3 ru ry q3) fun w4 s4⟨z,H3,I4,rz,dx',fs',ea',l',q4⟩=>?_;exact Le I4 ea' c n l' rz fun s5 I5=>⟨σ,_,I5,q4⟩
def UD:V->V->Hp->VK->Prop:=fun x y H Q=>∃i j,x=.int i/\y=.int j/\Q (.int (i+j)) H
theorem HD:Ez X .Add UD:=by
 rintro pins s σ H x y u v Q I rx ry ⟨i,j,rfl,rfl,q⟩;obtain⟨t,rfl⟩:=(show∃t,u=kG i t from rx);obtain⟨t',rfl⟩:=(show∃t',v=kG j t' from ry);exact PyProof.Rows.iadd_int ⟨.int (i+j),H,I.tok _,⟨_,rfl⟩,q⟩
end
structure cA(k:Nat)(A:bM):Prop where
 hd:A.handled=J0
 dp:A.depth+3*k+5<CN
 un:A.units+16*k+200<gz
theorem cA.mono{j k:Nat}{A:bM}(r:cA k A)(h:j<=k):cA j A:=⟨r.hd,by have:=r.dp;lia,by have:=r.un;lia⟩
theorem cA.deeper{k:Nat}{A:bM}(r:cA (k+1) A)(env:Env):cA k (A.deeper env):=
 ⟨r.hd,by have:=r.dp;show A.depth+1+3*k+5<_;lia,by have:=r.un;show A.units+3+16*k+200<_;lia⟩
theorem RA{A:bM}{C:aa}{us:List ae}{kw:List (Str×ae)}:(A.under (.builtin "type.__call__" ⟨.ref C::us,kw⟩)).depth=A.depth+1:=by
 first|rfl|simp[bM.under,Code.weight,Code.isCreation,Code.isGuard,Code.isCaller,Code.frames,Code.isFrame,guardIds]
theorem RC{A:bM}{C:aa}{us:List ae}{kw:List (Str×ae)}:(A.under (.builtin "type.__call__" ⟨.ref C::us,kw⟩)).units=A.units+1:=by
 first|rfl|simp[bM.under,Code.cUnits,Code.frames,Code.isFrame]
theorem cA.make{k:Nat}{A:bM}(r:cA (k+1) A)(C:aa)(us:List ae)(kw:List (Str×ae)):cA k (A.under (.builtin "type.__call__" ⟨.ref C::us,kw⟩)):=
 ⟨r.hd,by have:=r.dp;rw[RA];lia,by have:=r.un;rw[RC];lia⟩
theorem cA.depth{k:Nat}{A:bM}(r:cA k A):A.depth<CN:=by have:=r.dp;lia
theorem cA.units{k:Nat}{A:bM}(r:cA k A):A.units+64<gz:=by have:=r.un;lia
def kQ:TA:=fun _ H Q=>Q [] H
def vw(ta:TE)(tr:TA):TA:=fun σ H Q=>ta σ H fun x H1=>tr σ H1 fun xs H2=>Q (x::xs) H2
section
variable{X:Cx}{e:aM}{es:List aM}{te:TE}{t:TA}{pos:Pos}
theorem ao:PA X [] kQ:=fun _ _ _ _ H Q I h=>zh ⟨[],H,I,.nil,h⟩
theorem af(ha:PE X e te)(hr:PA X es t)(hs:autoParam (bQ (e::es) X.env=(J2,bF e X.env)::bQ es X.env) J7):PA X (e::es) (vw te t):=by
 intro pos pins s σ H Q I h;rw[hs];show az _ _ (spliced ((J2,bF e X.env)::eV pos (bQ es X.env))) _ _ s;refine zg (aR (ha pins s σ H _ I h) fun u s1⟨x,H1,I1,r1,q1⟩=>?_);exact aR (hr pos pins s1 σ H1 _ I1 q1) fun us s2⟨xs,H2,I2,r2,q2⟩=>⟨x::xs,H2,I2,.cons r1 r2,q2⟩
def Mp(t:TA):TE:=fun σ H Q=>t σ H fun xs H1=>xs.length<=aZ/\∀p,H1 p=J0->Q (.ref p) (ah H1 p (.tup xs))
def Me(t:TA):TE:=fun σ H Q=>t σ H fun xs H1=>xs.length<=aZ/\∀p,H1 p=J0->Q (.ref p) (ah H1 p (.lst xs))
theorem dY{x1}(h:PA X es t):PE X (.Tuple es x1 pos) (Mp t):=by
 intro pins s σ H Q I hq;refine wpAny_Tuple_spliced (aR (h pos pins s σ H _ I hq) fun us s1⟨xs,H1,I1,r,z,q⟩=>⟨by rw[<-r.length];exact z,?_⟩);have hf:H1 s1.heap.objs.size=none:=I1.hok.fresh (aF _);refine⟨.ref s1.heap.objs.size,ah H1 s1.heap.objs.size (.tup xs),I1.laid (t':=s1.toks) (fun b u e=>bV _ e) (aF _) ?_,rfl,q _ hf⟩;exact⟨z,us,r,⟨_,dD _ rfl,rfl,_,rfl⟩⟩
theorem bt(h:PA X es t):PE X (.List es pos) (Me t):=by
 intro pins s σ H Q I hq;refine wpAny_List_spliced (aR (h pos pins s σ H _ I hq) fun us s1⟨xs,H1,I1,r,z,q⟩=>⟨by rw[<-r.length];exact z,?_⟩);have hf:H1 s1.heap.objs.size=none:=I1.hok.fresh (aF _);refine⟨.ref s1.heap.objs.size,ah H1 s1.heap.objs.size (.lst xs),I1.laid (t':=s1.toks) (fun b u e=>bV _ e) (aF _) ?_,rfl,q _ hf⟩;exact⟨z,us,0,r,dD _ rfl⟩
end
abbrev Sp:=List V->Hp->VK->XK->Prop
abbrev jA:=List Env->Hp->aj->XK->ae->aj->Prop
structure oU(P:aJ)(w:aH)(K:aw)(mg:Str->Option ae)(base:aA)(A:bM)(outer:List Env)(s:aj)(H:Hp):Prop where
 frames:A.frames=TL outer
 mod:Mod K mg base
 bs:∀b o,base.get? b=TL o->s.heap.get? b=TL o/\H b=J0
 bsz:base.objs.size<=s.heap.objs.size
 funs:s.heap.FunFrames base outer
 frf:∀b∈cq outer,H b=J0
 hok:cz P w H s.heap
 bare:nq s.gens
def CE(outer:List Env)(P:aJ)(w:aH)(H:Hp)(s:aj)(Q:VK)(u:ae)(s':aj):Prop:=
 ∃v H',s'.os=s.os/\nq s'.gens/\Un (cq outer) [] H H' s.heap s'.heap/\cz P w H' s'.heap/\RelV v u/\Q v H'
def CR(CX:jA)(outer:List Env)(P:aJ)(w:aH)(H:Hp)(s:aj)(Q:VK)(E:XK)(r:Result)(s':aj):Prop:=
 match r with
 |.ok (.ret u)=>CE outer P w H s Q u s'
 |.ok _=>False
 |.error e=>CX outer H s E e s'
structure gi(P:aJ)(w:aH)(K:aw)(mg:Str->Option ae)(base:aA)(CX:jA)(k:Nat)(f:aa)(fd:kn)(ps:List Str)(sp:Sp):Prop where
 len:∀vs H Q E,sp vs H Q E->vs.length=ps.length
 run:∀(A:bM)(outer:List Env)(s:aj)(H:Hp)(args:Args)(us:List ae)(vs:List V)(Q:VK)(E:XK),cA k A->oU P w K mg base A outer s H->BindsTo s fd args (ps.zip us)->aX vs us->sp vs H Q E->
  hX (aC P w) A (.call (.ref f) args) (CR CX outer P w H s Q E) s
theorem gi.imp{P:aJ}{w:aH}{K:aw}{mg:Str->Option ae}{base:aA}{CX:jA}{k:Nat}{f:aa}{fd:kn}{ps:List Str}{sp sp':Sp}(F:gi P w K mg base CX k f fd ps sp)
  (h:∀vs H Q E,sp' vs H Q E->sp vs H Q E):gi P w K mg base CX k f fd ps sp':=
 ⟨fun vs H Q E q=>F.len vs H Q E (h _ _ _ _ q),fun A outer s H args us vs Q E hr he hb hv hs=>F.run A outer s H args us vs Q E hr he hb hv (h _ _ _ _ hs)⟩
theorem oU.make{P:aJ}{w:aH}{K:aw}{mg:Str->Option ae}{base:aA}{A:bM}{outer:List Env}{s:aj}{H:Hp}(e:oU P w K mg base A outer s H)(C:aa)(us:List ae)(kw:List (Str×ae)):
  oU P w K mg base (A.under (.builtin "type.__call__" ⟨.ref C::us,kw⟩)) outer s H:=⟨by first|exact e.frames|(simpa [bM.under,Code.envs,Code.isFrame,pushEnvs]using e.frames),e.mod,e.bs,e.bsz,e.funs,e.frf,e.hok,e.bare⟩
section
variable{X:Cx}{pins:List (aa×Obj)}{σ:St}{H:Hp}{s s':aj}
theorem Inv.env0(I:Inv X pins σ H s):oU X.prog X.w X.K X.mg X.base X.A X.stack s H:=
 ⟨I.ok.frames,I.ok.mod,I.bs,dM I.ok.bsz I.sz,I.stack,I.stkFree,I.hok,I.bare⟩
theorem Inv.after{Q:VK}{u:ae}(I:Inv X pins σ H s)(h:CE X.stack X.prog X.w H s Q u s'):EP X pins σ Q u s':=by
 obtain⟨v,H',os,bare,un,hok,r,q⟩:=h;obtain⟨hh,g,d,t,os'⟩:=s';obtain rfl:os'=s.os:=os;exact⟨v,H',I.call (h':=hh) (g':=g) (d':=d) (t':=t) (ch:=[]) un hok bare (fun b z=>J5 z (by simp)),r,q⟩
end
def sN(sp:Sp)(dvs:List V)(E:XK)(t:TA):TE:=fun σ H Q=>t σ H fun vs H1=>sp (vs++dvs) H1 Q E
def vy(C:aa)(m:Str)(sp:Sp)(dvs:List V)(E:XK)(ta:TE)(t:TA):TE:=fun σ H Q=>ta σ H fun x H1=>∃a dx fs,x=.ref a/\H1 a=TL (.ins C dx fs)/\fs.lookup m=J0/\
 t σ H1 fun vs H2=>sp (x::(vs++dvs)) H2 Q E
def vx(C:aa)(sp:Sp)(dvs:List V)(E:XK)(t:TA):TE:=fun σ H Q=>t σ H fun vs H1=>∀x dx,H1 x=J0->H1 dx=J0->dx≠x->
 sp (.ref x::(vs++dvs)) (ah (ah H1 dx (.own x)) x (.ins C dx [])) (fun v H2=>v=.non/\Q (.ref x) H2) E
def Binds(K:aw)(fd:kn)(ps:List Str)(ds:List ae):Prop:=
 ∀(s:aj)(us:List ae),K.In s.heap->(us++ds).length=ps.length->BindsTo s fd ⟨us,[]⟩ (ps.zip (us++ds))
theorem Binds.all{K:aw}{fd:kn}{ps:List Str}(h:∀us:List ae,us.length=ps.length->bindArgs fd ⟨us,[]⟩=pure (ps.zip us)):Binds K fd ps []:=fun s us _ hl=>by
 rw[cD]at hl⊢;exact .of_eq (h us hl)
def gJ(CX:jA)(X:Cx)(E:XK):Prop:=∀(pins:List (aa×Obj))(σ:St)(H:Hp)(s:aj)(e:ae)(s':aj),Inv X pins σ H s->CX X.stack H s E e s'->X.xe e s'
section
variable{X:Cx}{CX:jA}{k:Nat}{f C:aa}{fd:kn}{ps:List Str}{sp:Sp}{dvs:List V}{ds:List ae}{E:XK}{x m:Str}{p pos apos:Pos}{e o:aM}{es:List aM}{ta:TE}{t:TA}
theorem yq{pins:List (aa×Obj)}{σ:St}{H:Hp}{s:aj}{Q:VK}{us:List ae}{vs:List V}(F:gi X.prog X.w X.K X.mg X.base CX k f fd ps sp)(hr:cA k X.A)(hb:Binds X.K fd ps ds)(hd:aX dvs ds)(hx:gJ CX X E)
  (I:Inv X pins σ H s)(r:aX vs us)(h:sp (vs++dvs) H Q E):az (aC X.prog X.w) X.A (call (.ref f) us) (EP X pins σ Q) X.xe s:=by
 have r2:aX (vs++dvs) (us++ds):=r.append hd;have hl:(us++ds).length=ps.length:=by rw[<-r2.length];exact F.len _ _ _ _ h
 refine yU (rL (F.run X.A X.stack s H ⟨us,[]⟩ (us++ds) (vs++dvs) Q E hr I.env0 (hb s us I.kIn hl) r2 h) fun r s' hq=>?_);cases r with
 |error e=>exact hx pins σ H s e s' I hq
 |ok fl=>
  cases fl with
  |ret u=>exact I.after hq
  |next=>exact fP hq
  |brk=>exact fP hq
  |cont=>exact fP hq
theorem Ua(F:gi X.prog X.w X.K X.mg X.base CX k f fd ps sp)(hr:cA k X.A)(hg:Gl X x)(hm:X.mg x=TL (.ref f))(hk:pH X.K (.ref f)=J1)(hb:Binds X.K fd ps ds)(hd:aX dvs ds)(hx:gJ CX X E)
  (ha:PA X (e::es) t)(hdb:autoParam ((x==("__debug__":Str))=false) J9)(he:autoParam (bQ (e::es) X.env=(J2,bF e X.env)::bQ es X.env) J7)(hpl:autoParam ((eV pos (bQ es X.env)).any (·.1)=false) J7):
  PE X (.Call (.Name x p) (e::es) [] pos) (sN sp dvs E t):=by
 intro pins s σ H Q I h;refine oI (oi I hg hm ?_ hdb);refine Ac (h₀:=X.base) I.ok.mod.kin hk (aR (ha pos pins s σ H _ I h) fun us s1⟨vs,H1,I1,r,q⟩=>⟨I1.kIn,?_⟩) he hpl;exact yq F hr hb hd hx I1 r q
theorem Ub(F:gi X.prog X.w X.K X.mg X.base CX k f fd ps sp)(hr:cA k X.A)(hg:Gl X x)(hm:X.mg x=TL (.ref f))(hk:pH X.K (.ref f)=J1)(hb:Binds X.K fd ps ds)(hd:aX dvs ds)(hx:gJ CX X E)
  (hdb:autoParam ((x==("__debug__":Str))=false) J9):PE X (.Call (.Name x p) [] [] pos) (sN sp dvs E kQ):=by
 intro pins s σ H Q I h;refine oI (oi I hg hm ?_ hdb);exact Fg I.kIn hk (yq (us:=[]) F hr hb hd hx I .nil h)
theorem Um{pl:Sem Bool}(he:PE X o ta)(c:dH X.K C)(hm:tG X.K C m f)(F:gi X.prog X.w X.K X.mg X.base CX k f fd ps sp)(hr:cA k X.A)(hb:Binds X.K fd ps ds)(hd:aX dvs ds)(hx:gJ CX X E)(ha:PA X (e::es) t)
  (hst:autoParam (bQ (e::es) X.env=(J2,bF e X.env)::bQ es X.env) J7)(hpl:autoParam ((eV pos (bQ es X.env)).any (·.1)=false) J7)
  (ht:bF (.Call (.Attribute o m apos) (e::es) [] pos) X.env=(do
   let ov<-bF o X.env
   standAt apos.atName
   let(f,first)<-holding [ov] (uu ov m pl)
   callWith pos f first (eV pos (bQ (e::es) X.env)) (backToKw pos (uA [] X.env))):=by rfl):
  PE X (.Call (.Attribute o m apos) (e::es) [] pos) (vy C m sp dvs E ta t):=by
 intro pins s σ H Q I h;refine NO (pl:=pl) (aR (he pins s σ H _ I h) fun u s1⟨x,H1,I1,rx,a,dx,fs,ex,ea,l,q⟩=>?_) ht;subst ex;obtain rfl:u=cO a:=rx;refine Hi I1 ea c hm l ?_;refine Ac (first:=[.ref a]) (h₀:=X.base) I.ok.mod.kin hm.kp (aR (ha pos pins s1 σ H1 _ I1 q) fun us s2⟨vs,H2,I2,r,q2⟩=>⟨I2.kIn,?_⟩) hst hpl;exact yq (us:=.ref a::us) (vs:=.ref a::vs) F hr hb hd hx I2 (.cons rfl r) q2
theorem Uo{pl:Sem Bool}(he:PE X o ta)(c:dH X.K C)(hm:tG X.K C m f)(F:gi X.prog X.w X.K X.mg X.base CX k f fd ps sp)(hr:cA k X.A)(hb:Binds X.K fd ps ds)(hd:aX dvs ds)(hx:gJ CX X E)
  (ht:bF (.Call (.Attribute o m apos) [] [] pos) X.env=(do
   let ov<-bF o X.env
   standAt apos.atName
   let(f,first)<-holding [ov] (uu ov m pl)
   callWith pos f first (eV pos (bQ [] X.env)) (backToKw pos (uA [] X.env))):=by rfl):
  PE X (.Call (.Attribute o m apos) [] [] pos) (vy C m sp dvs E ta kQ):=by
 intro pins s σ H Q I h;refine NO (pl:=pl) (aR (he pins s σ H _ I h) fun u s1⟨x,H1,I1,rx,a,dx,fs,ex,ea,l,q⟩=>?_) ht;subst ex;obtain rfl:u=cO a:=rx;refine Hi I1 ea c hm l ?_;exact Fg (first:=[.ref a]) I1.kIn hm.kp (yq (us:=[.ref a]) (vs:=[.ref a]) F hr hb hd hx I1 (.cons rfl .nil) q)
structure Mk(K:aw)(C f:aa):Prop where
 makes:PySem.W.makesIn K C=J1
 init:nN K (.ref C) "__init__"=TL (TL (.ref f))
 fn:PySem.W.isFn K (.ref f)=J1
 kp:pH K (.ref C)=J1
theorem JO{pins:List (aa×Obj)}{σ:St}{H:Hp}{s:aj}{Q:VK}{us:List ae}{vs:List V}(M:Mk X.K C f)(F:gi X.prog X.w X.K X.mg X.base CX k f fd ps sp)(hr:cA (k+1) X.A)(hb:Binds X.K fd ps ds)(hd:aX dvs ds)
  (hx:gJ CX X E)(I:Inv X pins σ H s)(r:aX vs us)
  (h:∀x dx,H x=J0->H dx=J0->dx≠x->sp (.ref x::(vs++dvs)) (ah (ah H dx (.own x)) x (.ins C dx [])) (fun v H2=>v=.non/\Q (.ref x) H2) E):
  az (aC X.prog X.w) X.A (call (.ref C) us) (EP X pins σ Q) X.xe s:=by
 have hq:=h (s.heap.objs.size+1) s.heap.objs.size (I.hok.fresh (tK _)) (I.hok.fresh (aF _)) (cJ (wg _));have I2:=Inv.made (C:=C) I;have r2:aX (V.ref (s.heap.objs.size+1)::(vs++dvs)) (cO (s.heap.objs.size+1)::(us++ds)):=.cons rfl (r.append hd)
 have hl:(cO (s.heap.objs.size+1)::us++ds).length=ps.length:=by
  have e:=r2.length;rw[F.len _ _ _ _ hq]at e;exact e.symm
 refine yU (RB (f:=f) I.kIn M.makes M.init (beq_iff_eq.mp M.fn) (rL (F.run _ X.stack _ _ ⟨cO (s.heap.objs.size+1)::us,[]⟩ (cO (s.heap.objs.size+1)::(us++ds)) _ _ E (hr.make C us [])
  (I2.env0.make C us []) (hb _ (cO (s.heap.objs.size+1)::us) I2.kIn hl) r2 hq) fun r s' hq'=>?_))
 cases r with
 |error e=>exact hx pins σ _ _ e s' I2 hq'
 |ok fl=>
  cases fl with
  |ret u=>
   obtain⟨v,H',I3,rv,ev,q3⟩:=I2.after hq';subst ev;exact⟨rv,⟨V.ref (s.heap.objs.size+1),H',I3,rfl,q3⟩⟩
  |next=>exact fP hq'
  |brk=>exact fP hq'
  |cont=>exact fP hq'
theorem Uk(M:Mk X.K C f)(F:gi X.prog X.w X.K X.mg X.base CX k f fd ps sp)(hr:cA (k+1) X.A)(hg:Gl X x)(hm:X.mg x=TL (.ref C))(hb:Binds X.K fd ps ds)(hd:aX dvs ds)(hx:gJ CX X E)
  (ha:PA X (e::es) t)(hdb:autoParam ((x==("__debug__":Str))=false) J9)(he:autoParam (bQ (e::es) X.env=(J2,bF e X.env)::bQ es X.env) J7)(hpl:autoParam ((eV pos (bQ es X.env)).any (·.1)=false) J7):
  PE X (.Call (.Name x p) (e::es) [] pos) (vx C sp dvs E t):=by
 intro pins s σ H Q I h;refine oI (oi I hg hm ?_ hdb);refine Ac (h₀:=X.base) I.ok.mod.kin M.kp (aR (ha pos pins s σ H _ I h) fun us s1⟨vs,H1,I1,r,q⟩=>⟨I1.kIn,?_⟩) he hpl;exact JO M F hr hb hd hx I1 r q
theorem Ul(M:Mk X.K C f)(F:gi X.prog X.w X.K X.mg X.base CX k f fd ps sp)(hr:cA (k+1) X.A)(hg:Gl X x)(hm:X.mg x=TL (.ref C))(hb:Binds X.K fd ps ds)(hd:aX dvs ds)(hx:gJ CX X E)
  (hdb:autoParam ((x==("__debug__":Str))=false) J9):PE X (.Call (.Name x p) [] [] pos) (vx C sp dvs E kQ):=by
 intro pins s σ H Q I h;refine oI (oi I hg hm ?_ hdb);exact Fg I.kIn M.kp (JO (us:=[]) M F hr hb hd hx I .nil h)
end
structure aV(N P:List Str)(sc:cN):Prop where
 kind:sc.kind=.function
 co:sc.isCoroutine=J2
 gen:sc.isGenerator=J2
 nd:N.Nodup
 pre:N.take P.length=P
 par:∀x∈P,sc.names.lookup x=TL .local\/sc.names.lookup x=TL .cell
 nofree:∀y∈sc.names,y.2≠.free
theorem FX{kindOf:Str->Option gm}{x:Str}:∀{binds:List (Str×ae)}{m:Str->Option ae},(∀v,(x,v)∉binds)->bindL kindOf binds m x=m x
 | [],_,_=>rfl
 |(n,v)::r,m,h=>by
  unfold bindL;rw[FX fun w hw=>h w (bX _ hw)];split
  .have:x≠n:=by rintro rfl;exact h v dI
   simp[this]
  .rfl
theorem FV{kindOf:Str->Option gm}{x:Str}:∀{binds:List (Str×ae)}{m:Str->Option ae},(∀v,(x,v)∉binds)->bindC kindOf binds m x=m x
 | [],_,_=>rfl
 |(n,v)::r,m,h=>by
  unfold bindC;rw[FV fun w hw=>h w (bX _ hw)];split
  .rfl
  .have:x≠n:=by rintro rfl;exact h v dI
   simp[this]
theorem FW{kindOf:Str->Option gm}{x:Str}{v:ae}:∀{P:List Str}{vs:List ae}{i:Nat}{m:Str->Option ae},P.Nodup->P[i]?=TL x->vs[i]?=TL v->kindOf x=TL .local->
  bindL kindOf (P.zip vs) m x=TL v
 | [],_,_,_,_,h,_,_=>by simp at h
 |_::_,[],_,_,_,_,h,_=>by simp at h
 |p::P,w::vs,0,m,nd,h1,h2,hk=>by
  simp at h1 h2;subst h1;subst h2;show bindL kindOf ((p,w)::P.zip vs) m p=_;unfold bindL;rw[FX fun v hv=>(jG.mp nd).1 (EN hv).1,J4 hk];simp
 |p::P,w::vs,i+1,m,nd,h1,h2,hk=>by
  show bindL kindOf ((p,w)::P.zip vs) m x=_;unfold bindL;exact FW (i:=i) (jG.mp nd).2 (by simpa using h1) (by simpa using h2) hk
theorem FU{kindOf:Str->Option gm}{x:Str}{v:ae}:∀{P:List Str}{vs:List ae}{i:Nat}{m:Str->Option ae},P.Nodup->P[i]?=TL x->vs[i]?=TL v->kindOf x≠TL .local->
  bindC kindOf (P.zip vs) m x=TL v
 | [],_,_,_,_,h,_,_=>by simp at h
 |_::_,[],_,_,_,_,h,_=>by simp at h
 |p::P,w::vs,0,m,nd,h1,h2,hk=>by
  simp at h1 h2;subst h1;subst h2;show bindC kindOf ((p,w)::P.zip vs) m p=_;unfold bindC;rw[FV fun v hv=>(jG.mp nd).1 (EN hv).1,J3 hk];simp
 |p::P,w::vs,i+1,m,nd,h1,h2,hk=>by
  show bindC kindOf ((p,w)::P.zip vs) m x=_;unfold bindC;exact FU (i:=i) (jG.mp nd).2 (by simpa using h1) (by simpa using h2) hk
noncomputable def start(N:List Str)(vs:List V):St:=vs.map TL++List.replicate (N.length-vs.length) J0
noncomputable def iQ(CX:jA)(P:aJ)(w:aH)(K:aw)(mg:Str->Option ae)(base:aA)(N:List Str)(qual:Str)(scope:cN)(f:aa)(cd:ae)(A:bM)(outer:List Env)(s:aj)(H:Hp)(E:XK):Cx where
 prog:=P
 w:=w
 K:=K
 mg:=mg
 base:=base
 A:=A.deeper (iS qual scope s.heap.objs.size f cd)
 N:=N
 s_0:=s
 H_0:=H
 env:=iS qual scope s.heap.objs.size f cd
 outer:=outer
 stack:=iS qual scope s.heap.objs.size f cd::outer
 ex:=[]
 calm:=J1
 fn:=fun _=>J1
 pn:=[]
 xe:=fun e s'=>az (aC P w) (A.deeper (iS qual scope s.heap.objs.size f cd)) (leaving (iS qual scope s.heap.objs.size f cd) e) (fun _ s''=>CX outer H s E e s'') (fun e' s''=>CX outer H s E e' s'') s'
theorem Gk{sc:cN}{n:Nat}{x:Str}(h:sc.names.lookup x=TL .cell):∃c,(eA n sc.names []).lookup x=TL c:=by
 have q:=NN sc.names n [] (.inl h);exact Fb.mp q
theorem Qq{CX:jA}{P:aJ}{w:aH}{K:aw}{mg:Str->Option ae}{base:aA}{N ps:List Str}{qual:Str}{scope:cN}{f:aa}{cd:ae}{A:bM}{outer:List Env}{s s1:aj}{H:Hp}{E:XK}{us:List ae}{vs:List V}
  (S:aV N ps scope)(hd:A.handled=J0)(e0:oU P w K mg base A outer s H)(hl:vs.length=ps.length)(r:aX vs us)
  (x:InCallC s s.heap.objs.size (bindL (iS qual scope s.heap.objs.size f cd).kindOf (ps.zip us) fun _=>J0) (eA (s.heap.objs.size+1) scope.names []) (bindC (iS qual scope s.heap.objs.size f cd).kindOf (ps.zip us) fun _=>J0) s1):
  Inv (iQ CX P w K mg base N qual scope f cd A outer s H E) [] (start N vs) H s1:=by
 have hpl:ps.length<=N.length:=by have:=congrArg eh S.pre;rw[cQ]at this;lia
 obtain⟨h1,tk,rfl,hk⟩:=x.done;have noA:∀b:aa,b∉(iQ CX P w K mg base N qual scope f cd A outer s H E).ex:=fun b z=>J5 (show b∈([]:List aa)from z) (by simp)
 refine⟨⟨e0.mod,S.kind,rfl,rfl,aF _,fun y z c h1 h2=>?_,fun y hy=>?_,fun y c _ h=>?_,fun _=>hd,bM.frames_deeper e0.frames,.inr ⟨rfl,rfl⟩,fun b z=>J5 z (noA b),e0.bs,e0.bsz,fun b _ _=>noA b,fun b z=>J5 z (noA b),e0.funs,e0.frf⟩,
  rfl,e0.bare,Un.kept hk,⟨_,x.toInCall.ns,fun i y v h1 h2 h3=>?_⟩,fun y c h=>⟨_,x.cell y c h⟩,e0.hok.fresh (aF _),fun y c h=>?_,fun p hp=>J5 (show p∈([]:List (aa×Obj))from hp) (by simp),e0.hok.kept hk,?_⟩
 .exact name_of_addr x.apart (iL h1) (iL h2)
 .have hy:scope.names.lookup y=TL .cell\/scope.names.lookup y=TL .free:=hy;rcases hy with hy|hy
  .exact Gk hy
  .exact J5 rfl (S.nofree _ (iL hy))
 .exact jH (x.above y c (iL h))
 .have hi:i<vs.length:=by
   unfold start at h2;by_cases hi:i<vs.length
   .exact hi
   .rw[ph (by simpa using hi)]at h2;rw[List.getElem?_replicate]at h2;split at h2<;>cases h2
  have ha:vs[i]?=TL v:=by
   unfold start at h2;rw[jF (by simpa using hi),cI]at h2;cases e:vs[i]? with
   |none=>rw[e]at h2;cases h2
   |some a=>rw[e]at h2;cases h2;rfl
  obtain⟨u,hu,rv⟩:=r.get ha
  have hp:ps[i]?=TL y:=by
   rw[<-S.pre,Nc (by lia)];exact h1
  have ndP:ps.Nodup:=by rw[<-S.pre];exact S.nd.sublist (List.take_sublist _ _)
  refine⟨u,rv,?_⟩;rcases S.par y (du hp)with k|k
  .exact .inl ⟨k,FW ndP hp hu k⟩
  .obtain⟨c,e⟩:=Gk (n:=s.heap.objs.size+1) k;refine .inr ⟨.inl k,c,e,?_⟩;have q:=x.cell y c e;rw[FU ndP hp hu (by show scope.names.lookup y≠_;rw[k];decide)]at q;exact q
 .exact e0.hok.fresh (jH (x.above y c (iL h)))
 .unfold start;show _=N.length;rw[bw,aE,Nh];lia
theorem AU{CX:jA}{P:aJ}{w:aH}{K:aw}{mg:Str->Option ae}{base:aA}{k:Nat}{f:aa}{name qual:Str}{params:oJ}{body:List aI}{scope:cN}{dV kV doc pm cdv ct oc:ae}{an od:Option aa}
  {osl:Array (Option ae)}{N ps:List Str}{sp:Sp}(lk:K.lookup f=TL ⟨oc,od,.func (rj name qual params body scope dV kV doc pm an cdv ct),osl⟩)(hcd:Fi K cdv qual=J1)(S:aV N ps scope)
  (len:∀vs H Q E,sp vs H Q E->vs.length=ps.length)
  (hbody:∀(A:bM)(outer:List Env)(s:aj)(H:Hp)(vs:List V)(Q:VK)(E:XK),cA k (A.deeper (iS qual scope s.heap.objs.size f cdv))->sp vs H Q E->
   ∃t,fA (iQ CX P w K mg base N qual scope f cdv A outer s H E) body t/\t {nx:=fun _ H'=>Q .non H',rt:=Q} (start N vs) H):
  gi P w K mg base CX (k+1) f (rj name qual params body scope dV kV doc pm an cdv ct) ps sp:=by
 refine⟨len,fun A outer s H args us vs Q E hr e0 hb r hsp=>?_⟩;have hl:=len _ _ _ _ hsp;have KX:K.In s.heap:=e0.mod.kin.keeps fun b o e=>(e0.bs b o e).1;have lim:s.heap.NoLimit:=e0.mod.nolimit.keeps fun b o e=>(e0.bs b o e).1
 have hkind:∀y∈ps.zip us,scope.names.lookup y.1=TL .local\/(scope.names.lookup y.1=TL .cell/\((eA (s.heap.objs.size+1) scope.names []).lookup y.1).isSome=J1):=fun⟨n,v⟩ hy=>by
  rcases S.par n (EN hy).1 with q|q
  .exact .inl q
  .exact .inr ⟨q,NN _ _ _ (.inl q)⟩
 refine codeAny_call_function hr.depth (KX _ _ lk) rfl S.co S.gen rfl (PySem.W.codeRec_of KX hcd) (hb _ _ _ _ ?_);refine wpAny_newFunctionEnv_cells S.kind hkind fun env he s1 x=>?_;subst he;refine⟨lim.keeps x.toInCall.keep,codeAny_func ?_⟩;obtain⟨t,ht,hq⟩:=hbody A outer s H vs Q E (hr.deeper _) hsp;have I:Inv (iQ CX P w K mg base N qual scope f cdv A outer s H E) [] (start N vs) H s1:=Qq S hr.hd e0 hl r x;refine iE (ht [] s1 (start N vs) H _ I hq) (fun fl s' hs=>?_) fun e s' hs=>hs
 have fin:∀{σ':St}{H':Hp}{v:V}{u:ae},Inv (iQ CX P w K mg base N qual scope f cdv A outer s H E) [] σ' H' s'->RelV v u->Q v H'->CE outer P w H s Q u s':=
  fun{σ' H' v u} J rv q=>⟨v,H',J.os,J.bare,J.base,J.hok,rv,q⟩
 cases fl with
 |ret u=>
  obtain⟨v,σ',H',J,rv,q⟩:=hs;exact fin J rv q
 |next=>
  obtain⟨σ',H',J,q⟩:=hs;exact fin (v:=V.non) (u:=iP) J rfl q
 |brk=>
  obtain⟨_,_,_,q⟩:=hs;exact fP q
 |cont=>
  obtain⟨_,_,_,q⟩:=hs;exact fP q
section
variable{X:Cx}{x:Str}{p pos:Pos}{e:aM}{es:List aM}{t:TA}{id T:String}{r:List V->Hp->VK->Prop}
def yG(r:List V->Hp->VK->Prop)(t:TA):TE:=fun σ H Q=>t σ H fun vs H1=>r vs H1 Q
theorem jX(hc:jB X (.builtin id) r)(hg:Gl X x)(hm:X.mg x=J0)(hv:rK x=TL (.builtin id))(ha:PA X (e::es) t)(hn:autoParam (x≠"__name__") J9)(hdb:autoParam ((x==("__debug__":Str))=false) J9)
  (he:autoParam (bQ (e::es) X.env=(J2,bF e X.env)::bQ es X.env) J7)(hpl:autoParam ((eV pos (bQ es X.env)).any (·.1)=false) J7):PE X (.Call (.Name x p) (e::es) [] pos) (yG r t):=by
 intro pins s σ H Q I h;refine oI (rY I hg hm hv ?_ hn hdb);exact NB (aR (ha pos pins s σ H _ I h) fun us s1⟨vs,H1,I1,r1,q1⟩=>hc pins s1 σ H1 vs us Q I1 r1 q1) he hpl
theorem Ud(hc:jB X (.type T) r)(hg:Gl X x)(hm:X.mg x=J0)(hv:rK x=TL (.type T))(ha:PA X (e::es) t)(hn:autoParam (x≠"__name__") J9)(hdb:autoParam ((x==("__debug__":Str))=false) J9)
  (he:autoParam (bQ (e::es) X.env=(J2,bF e X.env)::bQ es X.env) J7)(hpl:autoParam ((eV pos (bQ es X.env)).any (·.1)=false) J7):PE X (.Call (.Name x p) (e::es) [] pos) (yG r t):=by
 intro pins s σ H Q I h;refine oI (rY I hg hm hv ?_ hn hdb);exact zY (aR (ha pos pins s σ H _ I h) fun us s1⟨vs,H1,I1,r1,q1⟩=>hc pins s1 σ H1 vs us Q I1 r1 q1) he hpl
end
end L2
namespace HT
open PySem PyProof.Rows
section
open PySem.SeqAt
open PySem.AutoSeq1 (wpAny_loadPart')
open PySem.MeetsSeq PySem.MeetsSeq2 PySem.MeetsSeq3
end
section
variable{prog:aJ}{w:aH}{A:bM}{E:ae->aj->Prop}{s:aj}
def sIx(n d:Nat):Option Int->Nat
 |none=>d
 |some v=>if v<0 then(v+(n:Int)).toNat else min v.toNat n
theorem sIx_none(n d:Nat):sIx n d J0=d:=rfl
theorem sIx_nat(n d k:Nat):sIx n d (TL (k:Int))=min k n:=by
 show(if(k:Int)<0 then((k:Int)+(n:Int)).toNat else min (k:Int).toNat n)=min k n;rw[J3 (by lia),fD]
end
end HT
namespace L2
open PySem PySem.Spec PyProof.Rows
abbrev TO:=St->Hp->(Option Int->Hp->Prop)->Prop
def PO(X:Cx)(e:Option aM)(t:TO):Prop:=
 ∀(pins:List (aa×Obj))(s:aj)(σ:St)(H:Hp)(Q:Option Int->Hp->Prop),Inv X pins σ H s->t σ H Q->
  az (aC X.prog X.w) X.A (evalPart e X.env) (fun u s'=>∃o H',Inv X pins σ H' s'/\IsPart u o/\Q o H') X.xe s
def Mg:TO:=fun _ H Q=>Q J0 H
def Ml(t:TE):TO:=fun σ H Q=>t σ H fun x H1=>∃i,x=.int i/\Q (TL i) H1
section
variable{X:Cx}{e:aM}{te:TE}{lo hi:Option aM}{tl th:TO}{pos p2:Pos}
theorem mX:PO X J0 Mg:=by
 intro pins s σ H Q I h;rw[evalPart_none];exact aT ⟨J0,H,I,.none,h⟩
theorem gd(h:PE X e te):PO X (TL e) (Ml te):=by
 intro pins s σ H Q I hw;rw[evalPart_some];refine aR (h pins s σ H _ I hw) fun u s1⟨x,H1,I1,r1,q1⟩=>?_;obtain⟨i,rfl,q⟩:=q1;obtain⟨t,rfl⟩:=r1;exact⟨TL i,H1,I1,.int i t,q⟩
def Fv(X:Cx)(r:V->Option Int->Option Int->Hp->VK->Prop):Prop:=
 ∀(pins:List (aa×Obj))(s:aj)(σ:St)(H:Hp)(x:V)(v vl vu:ae)(lo hi:Option Int)(sl:aa)(Q:VK),Inv X pins σ H s->RelV x v->s.heap.IsSliceOf sl vl vu .none->IsPart vl lo->IsPart vu hi->r x lo hi H Q->
  ∃T id,typeLookup (.type T) "__getitem__"=pure (TL (.builtin id))/\s.TypeIs v T/\az (aC X.prog X.w) X.A (getItem v (.ref sl)) (EP X pins σ Q) X.xe s
def Mn(r:V->Option Int->Option Int->Hp->VK->Prop)(te:TE)(tl th:TO):TE:=fun σ H Q=>te σ H fun x H1=>tl σ H1 fun l H2=>th σ H2 fun u H3=>r x l u H3 Q
theorem iU{r:V->Option Int->Option Int->Hp->VK->Prop}(hr:Fv X r)(he:PE X e te)(hl:PO X lo tl)(hu:PO X hi th):PE X (.Subscript e (.Slice lo hi J0 p2) pos) (Mn r te tl th):=by
 intro pins s σ H Q I h;refine Subscript_ (aR (he pins s σ H _ I h) fun v s1⟨x,H1,I1,r1,q1⟩=>?_);refine wpAny_Slice (aR (hl pins s1 σ H1 _ I1 q1) fun vl s2⟨l,H2,I2,pl,q2⟩=>aR (hu pins s2 σ H2 _ I2 q2) fun vu s3⟨u,H3,I3,pu,q3⟩=>?_);rw[evalPart_none];refine aT ?_;have I4:Inv X pins σ H3 {s3 with heap:=s3.heap.push {cls:=.type "slice",data:=.fields #[vl,vu,.none]}}:=I3.kept (t':=s3.toks) fun b ob q=>bV _ q;obtain⟨T,id,hT,ht,hg⟩:=hr pins {s3 with heap:=s3.heap.push {cls:=.type "slice",data:=.fields #[vl,vu,.none]}} σ H3 x v vl vu l u s3.heap.objs.size Q I4 r1 (aA.IsSliceOf.new ..) pl pu q3;show az (aC X.prog X.w) X.A (subscriptTail e (.Slice lo hi J0 p2) v (.ref s3.heap.objs.size)) (EP X pins σ Q) X.xe {s3 with heap:=s3.heap.push {cls:=.type "slice",data:=.fields #[vl,vu,.none]}};exact tail_any (ops:=[.ref s3.heap.objs.size,v]) ht hT hg (by with_unfolding_all rfl)
noncomputable def eB(xs:List V)(lo hi:Option Int):List V:=(xs.drop (HT.sIx xs.length 0 lo)).take (HT.sIx xs.length xs.length hi-HT.sIx xs.length 0 lo)
theorem OR(xs:List V)(lo hi:Option Int):(eB xs lo hi).length<=xs.length:=by
 unfold eB;rw[cQ,cM];lia
end
noncomputable def pZ(n:Nat)(i:Int):Option Nat:=if 0<=i then(if i<n then TL i.toNat else J0)else if-(n:Int)<=i then TL (i+n).toNat else J0
noncomputable def nR{α:Type}(xs:List α)(i:Int):Option α:=(pZ xs.length i).bind fun j=>xs[j]?
theorem Qy{n:Nat}{i:Int}{j:Nat}(h:pZ n i=TL j):seqIndex? i n=TL j/\j<n/\ -(n:Int)<=i/\i<n:=by
 unfold pZ at h;by_cases h0:0<=i
 .rw[J4 h0]at h;by_cases h1:i<n
  .rw[J4 h1]at h;have e:i.toNat=j:=dN h;exact⟨by rw[seqIndex_of h0 h1,e],by lia,by lia,h1⟩
  .rw[J3 h1]at h;cases h
 .rw[J3 h0]at h;by_cases h1: -(n:Int)<=i
  .rw[J4 h1]at h;have e:(i+n).toNat=j:=dN h;exact⟨by rw[seqIndex_neg (by lia) h1,e],by lia,h1,by lia⟩
  .rw[J3 h1]at h;cases h
theorem FJ{α:Type}{xs:List α}{i:Int}{v:α}(h:nR xs i=TL v):∃j,seqIndex? i xs.length=TL j/\xs[j]?=TL v/\j<xs.length/\ -(xs.length:Int)<=i/\i<xs.length:=by
 unfold nR at h;cases e:pZ xs.length i with
 |none=>rw[e]at h;cases h
 |some j=>
  rw[e]at h;obtain⟨h1,h2,h3,h4⟩:=Qy e;exact⟨j,h1,h,h2,h3,h4⟩
theorem FK{α:Type}{xs:List α}{j:Nat}{v:α}(h:xs[j]?=TL v):nR xs (j:Int)=TL v:=by
 have hj:j<xs.length:=(aK.mp h).1
 have e:pZ xs.length (j:Int)=TL j:=by
  unfold pZ;rw[J4 (by lia),J4 (by lia)];simp
 unfold nR;rw[e];exact h
def Nz(b:aM):Prop:=∀o i,DK b J2 o i=operate [o,i] (getItem o i)
def vQ(X:Cx)(r:R2):Prop:=
 ∀(value slice:aM)(pins:List (aa×Obj))(s:aj)(σ:St)(H:Hp)(x y:V)(v u:ae)(Q:VK),Inv X pins σ H s->RelV x v->RelV y u->r x y H Q->
  DK slice J2 v u=operate [v,u] (getItem v u)->az (aC X.prog X.w) X.A (subscriptTail value slice v u) (EP X pins σ Q) X.xe s
def zN(X:Cx)(id:String)(r:V->List V->Hp->VK->Prop):Prop:=
 ∀(pins:List (aa×Obj))(s:aj)(σ:St)(H:Hp)(x:V)(xs:List V)(v:ae)(us:List ae)(Q:VK),Inv X pins σ H s->RelV x v->aX xs us->r x xs H Q->
  az (aC X.prog X.w) X.A (call (.builtin id) (v::us)) (EP X pins σ Q) X.xe s
section
variable{X:Cx}{a b:aM}{ta tb:TE}{pos:Pos}
theorem bP{r:R2}(hr:vQ X r)(ha:PE X a ta)(hb:PE X b tb)(hs:Nz b):PE X (.Subscript a b pos) (vz r ta tb):=by
 intro pins s σ H Q I h;exact Subscript_ (Au ha hb I h fun v u s2 x y H2 I2 rx ry q=>hr a b pins s2 σ H2 x y v u Q I2 rx ry q (hs _ _))
def vc(K:aw):R2:=fun x y H Q=>∃p xs i v,x=.ref p/\y=.int i/\ak K H p xs/\nR xs i=TL v/\Q v H
def CI(K:aw):R2:=fun x y H Q=>∃p xs i v,x=.ref p/\y=.int i/\bT K H p xs/\nR xs i=TL v/\Q v H
theorem eX:vQ X (vc X.K):=by
 intro value slice pins s σ H x y v u Q I rx ry h hs;obtain⟨p,xs,i,z,rfl,rfl,hq,he,q⟩:=h;cases rx;obtain⟨t,rfl⟩:=ry;obtain⟨its,r,pl,hz⟩:=I.list hq;obtain⟨j,h1,h2,h3,h4,h5⟩:=FJ he;obtain⟨w,ew,rw'⟩:=r.get h2;have hl:=r.length;have hn:=xK;have fin:EP X pins σ Q w s:=⟨z,H,I,rw',q⟩;by_cases h0:0<=i
 .have hj:i.toNat=j:=by
   rw[seqIndex_of h0 h5]at h1;exact dN h1
  exact item_listR pl.isList h0 (by lia) (by rw[hj];simpa using ew) fin hs
 .have hj:(i+(its.toArray.size:Int)).toNat=j:=by
   rw[seqIndex_neg (by lia) h4]at h1;rw[fe,<-hl];exact dN h1
  exact Yg (x:=w) pl.isList.typeIs slot_list_getitem.lookup
   (wpAny_getItem_list_neg (Q:=fun r s'=>r=w/\EP X pins σ Q r s') pl.isList (by lia) (by rw[fe]<;>lia) (by lia) (by rw[hj];simpa using ew) ⟨rfl,fin⟩) hs
theorem dk:vQ X (CI X.K):=by
 intro value slice pins s σ H x y v u Q I rx ry h hs;obtain⟨p,xs,i,z,rfl,rfl,hq,he,q⟩:=h;cases rx;obtain⟨t,rfl⟩:=ry;obtain⟨its,r,pl,hz⟩:=I.tuple hq;obtain⟨j,h1,h2,h3,h4,h5⟩:=FJ he;obtain⟨w,ew,rw'⟩:=r.get h2;have hl:=r.length;have hn:=xK;have fin:EP X pins σ Q w s:=⟨z,H,I,rw',q⟩
 exact Yg (x:=w) pl.typeIs slot_tuple_getitem.lookup
  (getItem_tuple (j:=j) (Q:=fun r s'=>r=w/\EP X pins σ Q r s') pl (by lia) (by lia) (by rw[fe,<-hl];exact h1) (by simpa using ew) ⟨rfl,fin⟩) hs
theorem Wv(lo hi:Option Int)(n:Nat):(sJ lo hi J0 n).1=((HT.sIx n 0 lo:Nat):Int)/\(sJ lo hi J0 n).2.1=((HT.sIx n n hi:Nat):Int)/\(sJ lo hi J0 n).2.2=1:=by
 refine⟨?_,?_,rfl⟩
 .cases lo with
  |none=>simp[sJ,HT.sIx]
  |some i=>
   simp only[sJ,HT.sIx,EZ,show(1:Int)>0 by decide,if_true];by_cases h:i<0
   .simp only[h,if_true]<;>lia
   .simp only[h,if_false]<;>lia
 .cases hi with
  |none=>simp[sJ,HT.sIx]
  |some i=>
   simp only[sJ,HT.sIx,EZ,show(1:Int)>0 by decide,if_true];by_cases h:i<0
   .simp only[h,if_true]<;>lia
   .simp only[h,if_false]<;>lia
theorem Wu(its:List ae)(lo hi:Option Int):slicePick its.toArray lo hi J0=((its.drop (HT.sIx its.length 0 lo)).take (HT.sIx its.length its.length hi-HT.sIx its.length 0 lo)).toArray:=by
 obtain⟨h1,h2,h3⟩:=Wv lo hi its.toArray.size;unfold slicePick;rw[h1,h2,h3];simp only[sliceRange_one,pick_run,fe]<;>rfl
def mZ(K:aw):V->Option Int->Option Int->Hp->VK->Prop:=fun x lo hi H Q=>∃a xs,x=.ref a/\ak K H a xs/\∀p,H p=J0->Q (.ref p) (ah H p (.lst (eB xs lo hi)))
theorem iV:Fv X (mZ X.K):=by
 intro pins s σ H x v vl vu lo hi sl Q I rx hs pl pu h;obtain⟨a,xs,rfl,hx,q⟩:=h;cases rx;obtain⟨its,r,ht,hz⟩:=I.list hx;have hlen:=r.length;refine⟨"list",_,slot_list_getitem.lookup,ht.isList.typeIs,?_⟩;refine wpAny_getItem_list_slice ht.isList hs pl pu .none (by simp) ?_ (by rw[fe]<;>lia);rw[Wu,<-hlen];refine⟨.ref s.heap.objs.size,_,I.laid (t':=s.toks) (o:=.lst (eB xs lo hi)) (fun b ob q=>bV _ q) (aF _) ?_,rfl,q _ (I.hok.fresh (aF _))⟩;exact⟨dM (OR xs lo hi) hz,_,0,(r.drop (HT.sIx xs.length 0 lo)).take (HT.sIx xs.length xs.length hi-HT.sIx xs.length 0 lo),dD _ rfl⟩
noncomputable def iT:V->Bool
 |.non=>J1
 |.bl _=>J1
 |.int _=>J1
 |.str _=>J1
 |_=>J2
noncomputable def nX:V->V->Bool
 |.non,.non=>J1
 |.bl a,.bl b=>a==b
 |.bl a,.int b=>(if a then 1 else 0)==b
 |.int a,.bl b=>a==(if b then 1 else 0)
 |.int a,.int b=>a==b
 |.str a,.str b=>a==b
 |_,_=>J2
theorem Py{A:bM}{s:aj}{y x:V}{u v:ae}(ry:RelV y u)(rx:RelV x v)(fy:iT y=J1)(fx:iT x=J1):fW A s u v (nX y x):=by
 cases y with
 |non=>
  cases ry;cases x with
  |non=>cases rx;exact fW.same _
  |bl b=>cases rx;exact fW.none_bool b
  |int b=>obtain⟨t,rfl⟩:=rx;exact fW.none_int b t
  |str b=>obtain⟨t,rfl⟩:=rx;exact fW.none_str b t
  |_=>exact J5 (show J2=J1 from fx) fC
 |bl a=>
  cases ry;cases x with
  |non=>cases rx;exact fW.bool_none a
  |bl b=>cases rx;exact fW.bool_bool a b
  |int b=>obtain⟨t,rfl⟩:=rx;exact fW.bool_int a b t
  |str b=>obtain⟨t,rfl⟩:=rx;exact fW.bool_str a b t
  |_=>exact J5 (show J2=J1 from fx) fC
 |int a=>
  obtain⟨t',rfl⟩:=ry;cases x with
  |non=>cases rx;exact fW.int_none a t'
  |bl b=>cases rx;exact fW.int_bool a t' b
  |int b=>obtain⟨t,rfl⟩:=rx;exact fW.int_int a t' b t
  |str b=>obtain⟨t,rfl⟩:=rx;exact fW.int_str a t' b t
  |_=>exact J5 (show J2=J1 from fx) fC
 |str a=>
  obtain⟨t',rfl⟩:=ry;cases x with
  |non=>cases rx;exact fW.str_none a t'
  |bl b=>cases rx;exact fW.str_bool a t' b
  |int b=>obtain⟨t,rfl⟩:=rx;exact fW.str_int a t' b t
  |str b=>obtain⟨t,rfl⟩:=rx;exact fW.str_str a t' b t
  |_=>exact J5 (show J2=J1 from fx) fC
 |_=>exact J5 (show J2=J1 from fy) fC
noncomputable def iy(x:V)(u:ae):Bool:=match u with
 |.none=>nX .non x
 |.bool b=>nX (.bl b) x
 |.int i _=>nX (.int i) x
 |.str z _=>nX (.str z) x
 |_=>J2
theorem GR{x y:V}{u:ae}(r:RelV y u)(f:iT y=J1):iy x u=nX y x:=by
 cases y with
 |non=>cases r;rfl
 |bl b=>cases r;rfl
 |int i=>obtain⟨t,rfl⟩:=r;rfl
 |str z=>obtain⟨t,rfl⟩:=r;rfl
 |_=>exact J5 (show J2=J1 from f) fC
theorem tW{x:V}:∀{xs:List V}{us:List ae},aX xs us->xs.all iT=J1->us.any (iy x)=xs.any fun y=>nX y x
 |_,_,.nil,_=>rfl
 |y::xs,u::us,.cons r t,f=>by
  rw[vT,bD]at f;rw[qM,qM,GR r f.1,tW t f.2]
theorem uL{A:bM}{s:aj}{x:V}{v:ae}(rx:RelV x v)(fx:iT x=J1):∀{xs:List V}{us:List ae},aX xs us->xs.all iT=J1->∀u∈us,fW A s u v (iy x u)
 |_,_,.nil,_=>fun u hu=>by cases hu
 |y::xs,u::us,.cons r t,f=>fun u' hu=>by
  rw[vT,bD]at f;rcases bg.mp hu with rfl|hu
  .rw[GR r f.1];exact Py r rx f.1 fx
  .exact uL rx fx t f.2 u' hu
noncomputable def gB(x:V)(xs:List V):Bool:=xs.any fun y=>nX y x
def qt(K:aw)(neg:Bool):R2:=fun x y H Q=>∃p xs,y=.ref p/\(ak K H p xs\/bT K H p xs)/\iT x=J1/\xs.all iT=J1/\Q (.bl (if neg then !gB x xs else gB x xs)) H
theorem yc:dv X (fK .In) (qt X.K J2):=by
 intro pins s σ H x y v u Q I rx ry h;obtain⟨p,xs,rfl,hq,fx,fs,q⟩:=h;cases ry;rcases hq with hq|hq
 .obtain⟨its,r,pl,hz⟩:=I.list hq;refine SeqAt.in_listAt (iy x) pl.isList (fun w hw=>uL rx fx r fs w (by simpa using hw)) ⟨.bl _,H,I,rfl,?_⟩;rw[show its.toArray.any (iy x)=its.any (iy x) by simp,tW r fs];exact q
 .obtain⟨its,r,pl,hz⟩:=I.tuple hq;refine SeqAt.in_tupleAt (iy x) pl (fun w hw=>uL rx fx r fs w (by simpa using hw)) ⟨.bl _,H,I,rfl,?_⟩;rw[show its.toArray.any (iy x)=its.any (iy x) by simp,tW r fs];exact q
theorem TB:dv X (fK .NotIn) (qt X.K J1):=by
 intro pins s σ H x y v u Q I rx ry h;obtain⟨p,xs,rfl,hq,fx,fs,q⟩:=h;cases ry;rcases hq with hq|hq
 .obtain⟨its,r,pl,hz⟩:=I.list hq;refine SeqAt.notIn_listAt (iy x) pl.isList (fun w hw=>uL rx fx r fs w (by simpa using hw)) ⟨.bl _,H,I,rfl,?_⟩;rw[show its.toArray.any (iy x)=its.any (iy x) by simp,tW r fs];exact q
 .obtain⟨its,r,pl,hz⟩:=I.tuple hq;refine SeqAt.notIn_tupleAt (iy x) pl (fun w hw=>uL rx fx r fs w (by simpa using hw)) ⟨.bl _,H,I,rfl,?_⟩;rw[show its.toArray.any (iy x)=its.any (iy x) by simp,tW r fs];exact q
theorem OA:jB X (.builtin "len") (fun xs H Q=>∃p ys,xs=[.ref p]/\(ak X.K H p ys\/bT X.K H p ys)/\Q (.int ys.length) H):=by
 intro pins s σ H xs us Q I r h;obtain⟨p,ys,rfl,hq,q⟩:=h;obtain⟨u,rfl,rx⟩:=vals1 r;cases rx;have hn:=xK;rcases hq with hq|hq
 .obtain⟨its,r',pl,hz⟩:=I.list hq;have hlen:=r'.length;exact MP pl.isList (by simp only[fe]<;>lia) ⟨.int ys.length,H,I.tok _,⟨s.toks+1,by rw[fe,hlen]⟩,q⟩
 .obtain⟨its,r',pl,hz⟩:=I.tuple hq;have hlen:=r'.length;exact len_tuple pl (by simp only[fe]<;>lia) ⟨.int ys.length,H,I.tok _,⟨s.toks+1,by rw[fe,hlen]⟩,q⟩
def sP(K:aw)(T:String)(x:V)(H:Hp):Prop:=match x with
 |.str _=>T="str"
 |.int _=>T="int"
 |.ref p=>(T="list"/\∃xs,ak K H p xs)\/(T="tuple"/\∃o,K.lookup p=TL o/\o.cls=.type "tuple"/\o.dict=J0)\/
   (T="dict"/\((∃kvs,H p=TL (.dK kvs))\/∃kvs,H p=TL (.dT kvs)))\/(T="set"/\∃S n,H p=TL (.set S n))
 |_=>False
theorem Mv{pins:List (aa×Obj)}{σ:St}{H:Hp}{s:aj}{T:String}{x:V}{v:ae}(I:Inv X pins σ H s)(r:RelV x v)(ty:sP X.K T x H):
  s.TypeIs v T/\∀a,v=.ref a->∃ob,s.heap.get? a=TL ob/\ob.dict=none:=by
 cases x with
 |str z=>
  obtain⟨t,rfl⟩:=r;cases(show T="str" from ty);exact⟨typeIs_str s z t,fun _ e=>nomatch e⟩
 |int i=>
  obtain⟨t,rfl⟩:=r;cases(show T="int" from ty);exact⟨typeIs_int s i t,fun _ e=>nomatch e⟩
 |ref p=>
  cases r;rcases ty with⟨rfl,xs,hq⟩|⟨rfl,o,hk,hc,hd⟩|⟨rfl,hk⟩|⟨rfl,S,n,hk⟩
  .obtain⟨its,_,pl,_⟩:=I.list hq;refine⟨pl.isList.typeIs,fun a e=>?_⟩;cases e;obtain⟨o,n,e,c,hd,_⟩:=pl;exact⟨o,e,hd⟩
  .refine⟨⟨o,I.kIn p o hk,hc⟩,fun a e=>?_⟩;cases e;exact⟨o,I.kIn _ o hk,hd⟩
  .have z:∃o,s.heap.get? p=TL o/\o.ExactDict:=by
    rcases hk with⟨kvs,hk⟩|⟨kvs,hk⟩
    .obtain⟨_,_,_,_,o,_,_,e,ex,_⟩:=I.hok p _ hk;exact⟨o,e,ex⟩
    .obtain⟨_,_,_,_,o,_,_,e,ex,_⟩:=I.hok p _ hk;exact⟨o,e,ex⟩
   obtain⟨o,e,ex⟩:=z;refine⟨⟨o,e,ex.1⟩,fun a e2=>?_⟩;cases e2;exact⟨o,e,ex.2.1⟩
  .obtain⟨o,_,_,_,e,ex,_⟩:=I.hok p _ hk;refine⟨⟨o,e,ex.1⟩,fun a e2=>?_⟩;cases e2;exact⟨o,e,ex.2.1⟩
 |_=>exact fP ty
def LW(K:aw)(T:String)(r:V->List V->Hp->VK->Prop)(to:TE):TE:=fun σ H Q=>to σ H fun x H1=>sP K T x H1/\r x [] H1 Q
def DL(K:aw)(T:String)(r:V->List V->Hp->VK->Prop)(to:TE)(t:TA):TE:=fun σ H Q=>to σ H fun x H1=>sP K T x H1/\t σ H1 fun xs H2=>r x xs H2 Q
variable{o e:aM}{es:List aM}{to:TE}{t:TA}{name:Str}{apos cpos:Pos}{T id:String}{r:V->List V->Hp->VK->Prop}
theorem Ju(pa:PlainAttrs T)(slot:Slot T name id)(hty:typeOf (.builtin id)=pure (.type "method_descriptor"))(hm:zN X id r)(ho:PE X o to)
  (hbase:autoParam (tX o name X.env (bF o X.env)=bF o X.env) J7)(hline:autoParam ((apos.endLine==cpos.line)=true) J7):PE X (.Call (.Attribute o name apos) [] [] cpos) (LW X.K T r to):=by
 intro pins s σ H Q I h;refine wpAny_Call_method0_late hbase hline (aR (ho pins s σ H _ I h) fun v s1⟨x,H1,I1,r1,ty,q1⟩=>?_);obtain⟨h1,h2⟩:=Mv I1 r1 ty;exact⟨T,id,pa,slot,hty,h1,h2,Et rfl (PySem.evalArgs_none (hm pins s1 σ H1 x [] v [] Q I1 r1 .nil q1))⟩
theorem eN(pa:PlainAttrs T)(slot:Slot T name id)(hty:typeOf (.builtin id)=pure (.type "method_descriptor"))(hm:zN X id r)(ho:PE X o to)(ha:PA X (e::es) t)
  (hbase:autoParam (tX o name X.env (bF o X.env)=bF o X.env) J7)
  (hfew:((eV cpos (bQ (e::es) X.env)).all (fun x=>!x.1)&&(backToKw cpos (uA [] X.env)).all (fun x=>x.1.isSome)
   &&decide ((e::es).length+([]:List Keyword).length+(if([]:List Keyword).isEmpty then 0 else 1)<30))=true:=by rfl)
  (hline:autoParam ((apos.endLine==cpos.line)=true) J7)(hs:autoParam (bQ (e::es) X.env=(J2,bF e X.env)::bQ es X.env) J7)(hplain:autoParam ((eV cpos (bQ es X.env)).any (·.1)=false) J7):
  PE X (.Call (.Attribute o name apos) (e::es) [] cpos) (DL X.K T r to t):=by
 intro pins s σ H Q I h;refine wpAny_Call_method_late hbase hfew hline rfl (aR (ho pins s σ H _ I h) fun v s1⟨x,H1,I1,r1,ty,q1⟩=>?_);obtain⟨h1,h2⟩:=Mv I1 r1 ty;refine⟨T,id,pa,slot,hty,h1,h2,?_⟩;have hA:=ha cpos pins s1 σ H1 _ I1 q1;rw[hs]at hA⊢;refine Et (by show(J2||(eV cpos (bQ es X.env)).any (·.1))=J2;rw[hplain]<;>rfl) (Eu ?_);exact aR hA fun us s2⟨vs,H2,I2,r2,q2⟩=>hm pins s2 σ H2 x vs v us Q I2 r1 r2 q2
end
def zM(X:Cx)(id:String)(r:V->List V->Hp->VK->Prop):Prop:=
 ∀(pins:List (aa×Obj))(s:aj)(σ:St)(H:Hp)(x:V)(xs:List V)(v:ae)(us:List ae)(Q:VK),Inv X pins σ H s->RelV x v->aX xs us->r x xs H Q->
  az (aC X.prog X.w) X.A (call (.builtin id) (v::us)) (EP X pins σ Q) X.xe s
theorem aX.one:∀{x:V}{us:List ae},aX [x] us->∃u,us=[u]/\RelV x u
 |_,_,.cons r .nil=>⟨_,rfl,r⟩
theorem aX.eraseIdx:∀{xs:List V}{us:List ae}(i:Nat),aX xs us->aX (xs.eraseIdx i) (us.eraseIdx i)
 |_,_,_,.nil=>.nil
 |_,_,0,.cons _ t=>t
 |_,_,i+1,.cons r t=>.cons r (aX.eraseIdx i t)
theorem Ia{α:Type}:∀(l:List α)(i:Nat),(l.eraseIdx i).length<=l.length
 | [],_=>aF _
 |_::_,0=>tK _
 |_::r,i+1=>Nat.succ_le_succ (Ia r i)
section
variable{X:Cx}{pins:List (aa×Obj)}{σ:St}{H:Hp}{s:aj}{l b:aa}{xs ys zs:List V}
theorem Inv.lset{its its':List ae}{n:Nat}{f:Array ae->Array ae}{t':Nat}(I:Inv X pins σ H s)(hH:H l=TL (.lst xs))
  (e:s.heap.get? l=TL {cls:=.type "list",data:=.seq its.toArray n})(hf:f its.toArray=its'.toArray)(hv:aX ys its')(hz:ys.length<=aZ):
  Inv X pins σ (ah H l (.lst ys)) {s with heap:=s.heap.update l (tM f),toks:=t'}:=by
 have q:=PySem.IsL.update e f;rw[hf]at q;refine I.write (x:=l) (e:=l) (by rw[hH];exact trivial) (.inl rfl) (fun b' u hb hu=>(kY s.heap (tM f) (br hb)).trans hu) ⟨_,q⟩ ?_;exact⟨hz,its',_,hv,q⟩
theorem Inv.lnew{its:List ae}{t':Nat}(I:Inv X pins σ H s)(hv:aX ys its)(hz:ys.length<=aZ):
  Inv X pins σ (ah H s.heap.objs.size (.lst ys)) {s with heap:=s.heap.push {cls:=.type "list",data:=.seq its.toArray},toks:=t'}:=
 I.laid (fun _ _ q=>bV _ q) (aF _) ⟨hz,its,0,hv,dD _ rfl⟩
theorem Inv.fresh(I:Inv X pins σ H s):H s.heap.objs.size=none:=I.hok.fresh (aF _)
theorem Inv.lstM(I:Inv X pins σ H s)(hH:H l=TL (.lst xs)):xs.length<=aZ/\∃(its:List ae)(n:Nat),aX xs its/\xs.length=its.length/\s.heap.get? l=TL {cls:=.type "list",data:=.seq its.toArray n}:=by
 obtain⟨z,its,n,r,e⟩:=I.hok l _ hH;exact⟨z,its,n,r,r.length,e⟩
theorem Sf{n:Nat}(h:n<=aZ):En n=false:=by
 unfold En;exact dF (by lia)
end
section
variable{X:Cx}
def CH:V->List V->Hp->VK->Prop:=fun x vs H Q=>∃l xs y,x=.ref l/\vs=[y]/\H l=TL (.lst xs)/\xs.length<aZ/\Q .non (ah H l (.lst (xs++[y])))
theorem gc:zM X "list.append" CH:=by
 intro pins s σ H x vs v us Q I rx rv h;obtain⟨l,xs,y,rfl,rfl,hH,hz,q⟩:=h;cases rx;obtain⟨u,rfl,ru⟩:=rv.one;obtain⟨z,its,n,r,hl,e⟩:=I.lstM hH;refine call_meets F.slot_list_append ⟨_,e,rfl⟩ F.entry_list_append (F.args_list_append_2 _ _) (PySem.list_append l its.toArray n u (by rw[fe];lia)) ⟨e,?_⟩;refine⟨.non,_,I.lset (its':=its++[u]) hH e (by simp) (r.append (.cons ru .nil)) ?_,rfl,q⟩;rw[bw,dR];lia
def JD:V->List V->Hp->VK->Prop:=fun x vs H Q=>∃l b xs zs,x=.ref l/\vs=[.ref b]/\H l=TL (.lst xs)/\H b=TL (.lst zs)/\xs.length+zs.length<=aZ/\Q .non (ah H l (.lst (xs++zs)))
theorem xU:zM X "list.extend" JD:=by
 intro pins s σ H x vs v us Q I rx rv h;obtain⟨l,b,xs,zs,rfl,rfl,hH,hB,hz,q⟩:=h;cases rx;obtain⟨u,rfl,ru⟩:=rv.one;cases ru;obtain⟨z,its,n,r,hl,e⟩:=I.lstM hH;obtain⟨z2,its2,n2,r2,hl2,e2⟩:=I.lstM hB;have hsz:its.toArray.size+its2.toArray.size<=aZ:=by rw[fe,fe];lia
 have hlong: ¬(!its.toArray.isEmpty&&En (its.toArray.size+its2.toArray.size))=true:=by
  rw[Sf hsz,Bool.and_false];exact fC
 refine call_meets F.slot_list_extend ⟨_,e,rfl⟩ F.entry_list_extend (F.args_list_extend_2 _ _)
  (AutoSeq1.list_extend_list_list_0 l its.toArray n b its2.toArray n2 hlong (by rw[fe];lia) (by lia)) ⟨e,e2,?_⟩
 refine⟨.non,_,I.lset (its':=its++its2) hH e (by simp) (r.append r2) ?_,rfl,q⟩;rw[bw];lia
def UK:V->List V->Hp->VK->Prop:=fun x vs H Q=>∃l xs i k y,x=.ref l/\vs=[.int i]/\H l=TL (.lst xs)/\ -(2^63)<=i/\i<2^63/\seqIndex? i xs.length=TL k/\xs[k]?=TL y/\Q y (ah H l (.lst (xs.eraseIdx k)))
theorem RO:zM X "list.pop" UK:=by
 intro pins s σ H x vs v us Q I rx rv h;obtain⟨l,xs,i,k,y,rfl,rfl,hH,h1,h2,hk,hy,q⟩:=h;cases rx;obtain⟨u,rfl,ru⟩:=rv.one;obtain⟨t,rfl⟩:=ru;obtain⟨z,its,n,r,hl,e⟩:=I.lstM hH;obtain⟨w,hw,rw'⟩:=r.get hy
 refine call_meets F.slot_list_pop ⟨_,e,rfl⟩ F.entry_list_pop (F.args_list_pop_2 _ _)
  (MeetsSeq.list_pop_at l its.toArray n i t k w (fitsIndex_both h1 h2) (by rw[fe,<-hl];exact hk) (by rw[<-iF];exact hw) (by rw[fe];lia)) ⟨e,?_⟩
 refine⟨y,_,I.lset (its':=its.eraseIdx k) hH e ?_ (r.eraseIdx k) ?_,rw',q⟩
 .show its.toArray.eraseIdxIfInBounds k=(its.eraseIdx k).toArray;rw[List.eraseIdxIfInBounds_toArray]
 .have:=Ia xs k;lia
def vb:R2:=fun x y H Q=>∃l b xs zs,x=.ref l/\y=.ref b/\H l=TL (.lst xs)/\H b=TL (.lst zs)/\xs.length+zs.length<=aZ/\∀p,H p=J0->Q (.ref p) (ah H p (.lst (xs++zs)))
theorem sx:dv X (nU .Add) vb:=by
 intro pins s σ H x y v u Q I rx ry h;obtain⟨l,b,xs,zs,rfl,rfl,hH,hB,hz,q⟩:=h;cases rx;cases ry;obtain⟨z,its,n,r,hl,e⟩:=I.lstM hH;obtain⟨z2,its2,n2,r2,hl2,e2⟩:=I.lstM hB;refine PySem.P.add_list e e2 ?_ (by rw[fe,fe];lia);have ea:its.toArray++its2.toArray=(its++its2).toArray:=by simp
 rw[ea];exact⟨.ref _,_,I.lnew (t':=s.toks) (r.append r2) (by rw[bw];lia),rfl,q _ I.fresh⟩
end
theorem aX.ints:∀{ns:List Int}{us:List ae},aX (ns.map V.int) us->jE us ns
 | [],us,h=>by
  rw[tE]at h;cases h;exact jE.nil
 |n::ns,us,h=>by
  rw[cV]at h;cases h with
  |cons r t=>
   obtain⟨k,rfl⟩:=r;exact jE.cons n k (aX.ints t)
theorem Mz:∀{us:List ae}{ns:List Int},jE us ns->aX (ns.map V.int) us
 |_,_,.nil=>by rw[tE];exact bK.nil
 |_,_,.cons n t h=>by rw[cV];exact bK.cons (show RelV (V.int n) (kG n t)from⟨t,rfl⟩) (Mz h)
theorem aX.bls:∀{bs:List Bool}{us:List ae},aX (bs.map V.bl) us->us=bs.map pM
 | [],us,h=>by
  rw[tE]at h;cases h;rfl
 |b::bs,us,h=>by
  rw[cV]at h;cases h with
  |cons r t=>
   cases r;rw[aX.bls t,cV]
theorem aX.ref1{a:aa}{us:List ae}(r:aX [V.ref a] us):us=[cO a]:=by
 cases r with
 |cons r t=>
  cases t;cases r;rfl
section
variable{prog:aJ}{w:aH}{A:bM}{E:ae->aj->Prop}{s:aj}{l:aa}{its:List ae}{ns:List Int}{Q:ae->aj->Prop}
theorem Yh(hh:A.handled=J0)(hl:s.heap.IsList l its.toArray)(hi:jE its ns)
  (h:∀h' tk t',(∀b o,s.heap.get? b=TL o->h'.get? b=TL o)->Q (.int ns.sum t') {s with heap:=h',toks:=tk}):az (aC prog w) A (call (.builtin "sum") [.ref l]) Q E s:=by
 obtain⟨xs,e⟩:=hi.allInts.items;have hn:numsOf (intItems xs).toList=ns:=by rw[<-e];exact hi.numsOf
 rw[nums_intItems]at hn;rw[e]at hl;refine PySem.sum_intListG hh hl fun h' tk t' hk=>?_;have:=h h' tk t' hk;rw[preSum_eq,kr (by simp),hn];exact this
theorem RK(hh:A.handled=J0)(hl:s.heap.IsList l its.toArray)(hi:jE its ns)(hne:0<ns.length)
  (h:∀h' tk M t',(∀b o,s.heap.get? b=TL o->h'.get? b=TL o)->M∈ns->(∀a,a∈ns->a<=M)->Q (.int M t') {s with heap:=h',toks:=tk}):az (aC prog w) A (call (.builtin "max") [.ref l]) Q E s:=by
 obtain⟨xs,e⟩:=hi.allInts.items;have hn:numsOf (intItems xs).toList=ns:=by rw[<-e];exact hi.numsOf
 rw[nums_intItems]at hn;subst hn;rw[e]at hl;have hsz:0<xs.size:=by simpa using hne
 refine PySem.max_intList hh hl hsz fun v h' tk hv hk=>?_;obtain⟨t,rfl⟩:=intItems_at hv;obtain⟨h1,h2⟩:=argBest_gt (numAt xs) (xs.size-1);refine h h' tk _ t hk ?_ fun a ha=>?_
 .rw[numAt_eq];exact PySem.getD_mem (by rw[aE,fO];lia)
 .obtain⟨j,hj,rfl⟩:=mem_getD ha;rw[aE,fO]at hj;rw[<-numAt_eq];exact h2 j (by lia)
theorem RL(hh:A.handled=J0)(hl:s.heap.IsList l its.toArray)(hi:jE its ns)(hne:0<ns.length)
  (h:∀h' tk M t',(∀b o,s.heap.get? b=TL o->h'.get? b=TL o)->M∈ns->(∀a,a∈ns->M<=a)->Q (.int M t') {s with heap:=h',toks:=tk}):az (aC prog w) A (call (.builtin "min") [.ref l]) Q E s:=by
 obtain⟨xs,e⟩:=hi.allInts.items;have hn:numsOf (intItems xs).toList=ns:=by rw[<-e];exact hi.numsOf
 rw[nums_intItems]at hn;subst hn;rw[e]at hl;have hsz:0<xs.size:=by simpa using hne
 refine PySem.min_intList hh hl hsz fun v h' tk hv hk=>?_;obtain⟨t,rfl⟩:=intItems_at hv;obtain⟨h1,h2⟩:=argBest_lt (numAt xs) (xs.size-1);refine h h' tk _ t hk ?_ fun a ha=>?_
 .rw[numAt_eq];exact PySem.getD_mem (by rw[aE,fO];lia)
 .obtain⟨j,hj,rfl⟩:=mem_getD ha;rw[aE,fO]at hj;rw[<-numAt_eq];exact h2 j (by lia)
end
section
variable{X:Cx}
def UN(K:aw):List V->Hp->VK->Prop:=fun vs H Q=>∃(a:aa)(ns:List Int),vs=[V.ref a]/\ak K H a (ns.map V.int)/\Q (.int ns.sum) H
def UH(K:aw):List V->Hp->VK->Prop:=fun vs H Q=>∃(a:aa)(ns:List Int),vs=[V.ref a]/\ak K H a (ns.map V.int)/\0<ns.length/\∀m,m∈ns->(∀y,y∈ns->y<=m)->Q (.int m) H
def UI(K:aw):List V->Hp->VK->Prop:=fun vs H Q=>∃(a:aa)(ns:List Int),vs=[V.ref a]/\ak K H a (ns.map V.int)/\0<ns.length/\∀m,m∈ns->(∀y,y∈ns->m<=y)->Q (.int m) H
theorem Gu(hc:X.calm=J1):jB X (.builtin "sum") (UN X.K):=by
 intro pins s σ H vs us Q I r h;obtain⟨a,ns,rfl,hs,q⟩:=h;obtain⟨its,rv,hl,_⟩:=I.list hs;rw[aX.ref1 r];exact Yh (I.ok.hd hc) hl.isList rv.ints fun h' tk t' hk=>⟨.int _,H,I.kept hk,⟨_,rfl⟩,q⟩
theorem OO(hc:X.calm=J1):jB X (.builtin "max") (UH X.K):=by
 intro pins s σ H vs us Q I r h;obtain⟨a,ns,rfl,hs,hne,q⟩:=h;obtain⟨its,rv,hl,_⟩:=I.list hs;rw[aX.ref1 r];exact RK (I.ok.hd hc) hl.isList rv.ints hne fun h' tk m t' hk h1 h2=>⟨.int _,H,I.kept hk,⟨_,rfl⟩,q m h1 h2⟩
theorem Gs(hc:X.calm=J1):jB X (.builtin "min") (UI X.K):=by
 intro pins s σ H vs us Q I r h;obtain⟨a,ns,rfl,hs,hne,q⟩:=h;obtain⟨its,rv,hl,_⟩:=I.list hs;rw[aX.ref1 r];exact RL (I.ok.hd hc) hl.isList rv.ints hne fun h' tk m t' hk h1 h2=>⟨.int _,H,I.kept hk,⟨_,rfl⟩,q m h1 h2⟩
end
theorem HK{prog:aJ}{w:aH}{A:bM}{E:ae->aj->Prop}{s:aj}{l:aa}{items:Array ae}{Q:ae->aj->Prop}(hl:s.heap.IsList l items)
  (h:∀s₂:aj,s₂={s with heap:=s.heap.push {cls:=.type "list_iterator",data:=.fields #[.ref l,.int 0 0]}}->
   (s₂.heap.IsListIter s.heap.objs.size l 0/\s₂.heap.IsList l items)->l≠s.heap.objs.size->Q (.ref s.heap.objs.size) s₂):az (aC prog w) A (pyIter (.ref l)) Q E s:=by
 have hlt:l<s.heap.objs.size:=by obtain⟨_,e,_⟩:=hl;exact bR e
 exact MG hl (h _ rfl ⟨⟨_,dD _ rfl,rfl,rfl⟩,hl.push _⟩ (cJ hlt))
theorem Mu{prog:aJ}{w:aH}{A:bM}{bs:List Bool}{its:List ae}(e:its=bs.map pM):
  TruthOf prog w A (fun i v=>its.toArray[i]?=TL v) (fun i=>bs.getD i J2):=fun i v s Q E hv hq=>by
 have hv':its[i]?=TL v:=by simpa using hv
 rw[e,cI]at hv';obtain⟨b,hb,rfl⟩:=wy.mp hv';have hg:bs.getD i J2=b:=by rw[zB,hb]<;>rfl
 have hq':Q (bs.getD i J2) s:=hq;rw[hg]at hq';exact vG hq'
theorem any_range:∀bs:List Bool,(er bs.length).any (fun i=>bs.getD i J2)=bs.any id
 | []=>rfl
 |b::bs=>by
  rw[bH,EO,qM,vV,qM,<-any_range bs]
  all_goals rfl
theorem all_range:∀bs:List Bool,(er bs.length).all (fun i=>bs.getD i J2)=bs.all id
 | []=>rfl
 |b::bs=>by
  rw[bH,EO,vT,List.all_map,vT,<-all_range bs]
  all_goals rfl
section
variable{X:Cx}
def UE(K:aw):List V->Hp->VK->Prop:=fun vs H Q=>∃(a:aa)(bs:List Bool),vs=[V.ref a]/\ak K H a (bs.map V.bl)/\Q (.bl (bs.any id)) H
def JB(K:aw):List V->Hp->VK->Prop:=fun vs H Q=>∃(a:aa)(bs:List Bool),vs=[V.ref a]/\ak K H a (bs.map V.bl)/\Q (.bl (bs.all id)) H
theorem ON(hc:X.calm=J1):jB X (.builtin "any") (UE X.K):=by
 intro pins s σ H vs us Q I r h;obtain⟨a,bs,rfl,hs,q⟩:=h;obtain⟨its,rv,hl,_⟩:=I.list hs;rw[aX.ref1 r];have hb:=rv.bls;refine call_any_walk (HK hl.isList fun s₂ e2 st hne=>?_);subst e2;refine⟨_,_,_,_,_,_,_,rfl,Walks.list (A:=X.A.in1) (I.ok.hd hc) _ a hne its.toArray,st,Mu hb,fun h' tk hk=>?_⟩;refine⟨.bl _,H,I.kept fun b o eo=>hk b o (fun hmem=>?_) (bV _ eo),?_,q⟩
 .rcases bg.mp hmem with e1|hmem
  .exact J5 (e1▸bR eo) (gI _)
  .cases hmem
 .show pM _=pM _;rw[<-any_range,hb,fe,aE]
theorem OM(hc:X.calm=J1):jB X (.builtin "all") (JB X.K):=by
 intro pins s σ H vs us Q I r h;obtain⟨a,bs,rfl,hs,q⟩:=h;obtain⟨its,rv,hl,_⟩:=I.list hs;rw[aX.ref1 r];have hb:=rv.bls;refine call_all_walk (HK hl.isList fun s₂ e2 st hne=>?_);subst e2;refine⟨_,_,_,_,_,_,_,rfl,Walks.list (A:=X.A.in1) (I.ok.hd hc) _ a hne its.toArray,st,Mu hb,fun h' tk hk=>?_⟩;refine⟨.bl _,H,I.kept fun b o eo=>hk b o (fun hmem=>?_) (bV _ eo),?_,q⟩
 .rcases bg.mp hmem with e1|hmem
  .exact J5 (e1▸bR eo) (gI _)
  .cases hmem
 .show pM _=pM _;rw[<-all_range,hb,fe,aE]
end
mutual
inductive Dp(K:aw)(H:Hp):V->jJ->Prop
 |non:Dp K H .non .none
 |bl (b:Bool):Dp K H (.bl b) (.bool b)
 |int (i:Int):Dp K H (.int i) (.int i)
 |str (x:Str):Dp K H (.str x) (.str x)
 |lst {a:aa} {xs:List V} {ds:List jJ}:ak K H a xs->ny K H xs ds->Dp K H (.ref a) (.list ds)
 |tup {a:aa} {xs:List V} {ds:List jJ}:bT K H a xs->ny K H xs ds->Dp K H (.ref a) (.tuple ds)
inductive ny(K:aw)(H:Hp):List V->List jJ->Prop
 |nil:ny K H [] []
 |cons {v:V} {vs:List V} {d:jJ} {ds:List jJ}:Dp K H v d->ny K H vs ds->ny K H (v::vs) (d::ds)
end
section
variable{X:Cx}{pins:List (aa×Obj)}{σ:St}{H:Hp}{s:aj}
mutual
theorem Dp.reads(I:Inv X pins σ H s):∀(d:jJ)(v:V)(u:ae),Dp X.K H v d->RelV v u->∃as,Reads s.heap u d as
 |.none,_,_,h,r=>by
  cases h;cases r;exact⟨_,Reads.none⟩
 |.bool b,_,_,h,r=>by
  cases h;cases r;exact⟨_,Reads.bool b⟩
 |.int i,_,_,h,r=>by
  cases h;obtain⟨t,rfl⟩:=r;exact⟨_,Reads.int i t⟩
 |.str x,_,_,h,r=>by
  cases h;obtain⟨t,rfl⟩:=r;exact⟨_,Reads.str x t⟩
 |.list ds,_,_,h,r=>by
  cases h with
  |lst hs ha=>
   cases r;obtain⟨its,rv,⟨o,n,ho,hc,_,hd⟩,_⟩:=I.list hs;obtain⟨as,hr⟩:=Dp.readsAll I ds _ its ha rv;exact⟨_,Reads.list ho hc hd hr⟩
 |.tuple ds,_,_,h,r=>by
  cases h with
  |tup hs ha=>
   cases r;obtain⟨its,rv,⟨o,ho,hc,n,hd⟩,_⟩:=I.tuple hs;obtain⟨as,hr⟩:=Dp.readsAll I ds _ its ha rv;exact⟨_,Reads.tuple ho hc hd hr⟩
 |.dict _,_,_,h,_=>by cases h
theorem Dp.readsAll(I:Inv X pins σ H s):∀(ds:List jJ)(vs:List V)(us:List ae),ny X.K H vs ds->aX vs us->∃as,ReadsAll s.heap us ds as
 | [],_,_,h,r=>by
  cases h;cases r;exact⟨_,ReadsAll.nil⟩
 |d::ds,_,_,h,r=>by
  cases h with
  |cons h1 h2=>
   cases r with
   |cons r1 r2=>
    obtain⟨as,q1⟩:=Dp.reads I d _ _ h1 r1;obtain⟨bs,q2⟩:=Dp.readsAll I ds _ _ h2 r2;exact⟨_,ReadsAll.cons q1 q2⟩
end
end
section
variable{X:Cx}
def UG(K:aw):R2:=fun x y H Q=>∃d e,Dp K H x d/\Dp K H y e/\tS d=J1/\tS e=J1/\Q (.bl (pF d e)) H
def UJ(K:aw):R2:=fun x y H Q=>∃d e,Dp K H x d/\Dp K H y e/\tS d=J1/\tS e=J1/\Q (.bl (!pF d e)) H
theorem Tv(hu:X.A.units+64<gz):dv X (fK .Eq) (UG X.K):=by
 intro pins s σ H x y v u Q I rx ry h;obtain⟨d,e,hd,he,sd,se,q⟩:=h;obtain⟨as,r1⟩:=Dp.reads I d x v hd rx;obtain⟨bs,r2⟩:=Dp.reads I e y u he ry;exact SeqAt.compareEq_shaped r1 r2 sd se hu ⟨.bl _,H,I,rfl,q⟩
theorem Tw(hu:X.A.units+64<gz):dv X (fK .NotEq) (UJ X.K):=by
 intro pins s σ H x y v u Q I rx ry h;obtain⟨d,e,hd,he,sd,se,q⟩:=h;obtain⟨as,r1⟩:=Dp.reads I d x v hd rx;obtain⟨bs,r2⟩:=Dp.reads I e y u he ry;exact SeqAt.compareNe_shaped r1 r2 sd se hu ⟨.bl _,H,I,rfl,q⟩
end
abbrev CellAt(h:aA)(c:aa)(v:Option ae):Prop:=h.IsCell c v
noncomputable def Wc(scope sc:cN):cN:=
 {scope with names:=scope.names.map fun(n,k)=>if(k== .free&&sc.kind== .function&&sc.names.lookup n==TL .cell)then(n,.cell)else(n,k)}
noncomputable def dj(cells:List (Str×aa)):List (Str×gm)->List (Str×aa)->List (Str×aa)
 | [],acc=>acc
 |(n,k)::r,acc=>if k== .free then dj cells r ((n,(cells.lookup n).getD 0)::acc)else dj cells r acc
theorem Gn(env:Env)(f:Str×gm->List (Str×aa)->Sem (ForInStep (List (Str×aa))))
  (hf:∀n k c,f (n,k) c=if k== .free then(do let a<-cellOf env n;pure (.yield ((n,a)::c)))else pure (.yield c)):
  ∀(names:List (Str×gm))(acc:List (Str×aa)),(∀y∈names,y.2=.free->∃c,env.cells.lookup y.1=TL c)->forIn names acc f=pure (dj env.cells names acc)
 | [],acc,_=>by rw[List.forIn_nil];rfl
 |(n,k)::r,acc,h=>by
  rw[List.forIn_cons,hf];have ih:=fun acc=>Gn env f hf r acc fun y hy=>h y (bX _ hy);unfold dj;by_cases hk:(k==tI)=J1
  .rw[J4 hk,J4 hk];obtain⟨c,hc⟩:=h (n,k) dI (by simpa using hk);have e:cellOf env n=pure c:=by unfold cellOf;rw[hc]
   rw[e];have e2:(env.cells.lookup n).getD 0=c:=by rw[hc];rfl
   rw[e2];exact ih _
  .rw[J3 hk,J3 hk];exact ih _
theorem AI{scope:cN}{env:Env}(h:∀y∈scope.names,y.2=.free->∃c,env.cells.lookup y.1=TL c):closureFor scope env=pure (dj env.cells scope.names []):=by
 simp only[closureFor];rw[Gn env _ (fun n k c=>rfl) scope.names [] h];rfl
theorem BF{α:Type}:∀{l:List (Str×α)}{n:Str}{c:α},(n,c)∈l->∃c',l.lookup n=TL c'
 |(k,v)::r,n,c,h=>by
  rw[qQ];cases hb:n==k with
  |true=>exact⟨_,rfl⟩
  |false=>
   rcases bg.mp h with e|h
   .cases e;simp at hb
   .exact BF h
theorem xn{cells:List (Str×aa)}:∀{names:List (Str×gm)}{acc:List (Str×aa)}{n:Str}{c:aa},(n,c)∈dj cells names acc->(n,c)∈acc\/((n,.free)∈names/\c=(cells.lookup n).getD 0)
 | [],_,_,_,h=>.inl h
 |(m,k)::r,acc,n,c,h=>by
  unfold dj at h;split at h
  .rename_i hk
   have hk:k=.free:=by simpa using hk
   rcases xn h with h|⟨h1,h2⟩
   .rcases bg.mp h with e|h
    .cases e;exact .inr ⟨hk▸dI,rfl⟩
    .exact .inl h
   .exact .inr ⟨bX _ h1,h2⟩
  .rcases xn h with h|⟨h1,h2⟩
   .exact .inl h
   .exact .inr ⟨bX _ h1,h2⟩
theorem AG{cells:List (Str×aa)}:∀{names:List (Str×gm)}{acc:List (Str×aa)}{p:Str×aa},p∈acc->p∈dj cells names acc
 | [],_,_,h=>h
 |(m,k)::r,acc,p,h=>by
  unfold dj;split
  .exact AG (bX _ h)
  .exact AG h
theorem AH{cells:List (Str×aa)}:∀{names:List (Str×gm)}{acc:List (Str×aa)}{n:Str},(n,.free)∈names->(n,(cells.lookup n).getD 0)∈dj cells names acc
 |(m,k)::r,acc,n,h=>by
  unfold dj;rcases bg.mp h with e|h
  .cases e;exact AG dI
  .split
   .exact AH h
   .exact AH h
theorem ud:∀{names:List (Str×gm)}{h:aA}{acc:List (Str×aa)}{x:Str}{c:aa},(x,c)∈eA h.objs.size names acc->
  (x,c)∈acc\/((x,.cell)∈names/\h.objs.size<=c/\CellAt (mY h names) c J0)
 | [],_,_,_,_,h=>.inl h
 |(n,k)::r,h,acc,x,c,hm=>by
  unfold eA at hm;unfold mY;split at hm
  .rename_i hk
   rw[J4 hk];have hk:k=.cell:=by simpa using hk
   rw[<-fQ h {cls:=.type "cell",data:=.cell J0}]at hm;rcases ud hm with hm|⟨h1,h2,h3⟩
   .rcases bg.mp hm with e|hm
    .cases e;exact .inr ⟨hk▸dI,aF _,_,yk r _ _ _ (dD _ rfl),rfl⟩
    .exact .inl hm
   .rw[fQ]at h2;exact .inr ⟨bX _ h1,zP h2,h3⟩
  .rename_i hk
   rw[J3 hk];rcases ud hm with hm|⟨h1,h2,h3⟩
   .exact .inl hm
   .exact .inr ⟨bX _ h1,h2,h3⟩
theorem xm:∀{names:List (Str×gm)}{n:Nat}{acc:List (Str×aa)}{p:Str×aa},p∈acc->p∈eA n names acc
 | [],_,_,_,h=>h
 |(m,k)::r,n,acc,p,h=>by
  unfold eA;split
  .exact xm (bX _ h)
  .exact xm h
theorem AE:∀{names:List (Str×gm)}{n:Nat}{acc:List (Str×aa)}{x:Str},(x,.cell)∈names->∃c,(x,c)∈eA n names acc
 |(m,k)::r,n,acc,x,h=>by
  unfold eA;rcases bg.mp h with e|h
  .cases e;exact⟨n,xm dI⟩
  .split
   .exact AE h
   .exact AE h
theorem AF:∀{names:List (Str×gm)}{h:aA}{acc:List (Str×aa)}{x y:Str}{c:aa},(∀p∈acc,p.2<h.objs.size)->(∀x y c,(x,c)∈acc->(y,c)∈acc->x=y)->
  (x,c)∈eA h.objs.size names acc->(y,c)∈eA h.objs.size names acc->x=y
 | [],_,_,_,_,_,_,hi,h1,h2=>hi _ _ _ h1 h2
 |(n,k)::r,h,acc,x,y,c,hl,hi,h1,h2=>by
  unfold eA at h1 h2;split at h1
  .rename_i hk
   rw[J4 hk]at h2;rw[<-fQ h {cls:=.type "cell",data:=.cell J0}]at h1 h2;refine AF (h:=h.push _) (fun p hp=>?_) (fun x y c a b=>?_) h1 h2
   .rw[fQ];rcases bg.mp hp with rfl|hp
    .exact wg _
    .exact nF (hl p hp)
   .rcases bg.mp a with e|a<;>rcases bg.mp b with e'|b
    .cases e;cases e';rfl
    .cases e;exact J5 (hl _ b) (gI _)
    .cases e';exact J5 (hl _ a) (gI _)
    .exact hi _ _ _ a b
  .rename_i hk
   rw[J3 hk]at h2;exact AF hl hi h1 h2
theorem IJ{M:Model}{A:bM}{E:ae->aj->Prop}{s:aj}{scope:cN}{globals:aa}{closure:List (Str×aa)}{qual:Str}{func:Option aa}{code:ae}{around:Env}{builtins:aa}{Q:Env->aj->Prop}
  (h:Q (newEnv scope s.heap.objs.size globals (eA (s.heap.objs.size+1) scope.names closure) qual func code (TL around) builtins)
   {s with heap:=mY (s.heap.push {cls:=.type "dict",data:=.dict #[]}) scope.names}):
  az M A (newFunctionEnv scope globals closure [] qual func code (TL around) builtins) Q E s:=by
 simp only[newFunctionEnv,nG,if_true];refine ay (wpAny_alloc ?_);refine ay (wpAny_layCells _ (fun n k c=>rfl) scope.names closure _ _ ?_);rw[show({s with heap:=s.heap.push {cls:=.type "dict",data:=.dict #[]}}:aj).heap.objs.size=s.heap.objs.size+1 from fQ ..];rw[List.forIn_nil];exact ay (aT (aT h))
theorem Bt{sc:cN}:∀{names:List (Str×gm)}{x:Str}{k:gm},
  (names.map fun(n,k)=>if(k==tI&&sc.kind== .function&&sc.names.lookup n==TL .cell)then(n,gm.cell)else(n,k)).lookup x=TL k->
  ∃k',names.lookup x=TL k'/\(k=k'\/(k'=.free/\k=.cell))
 | [],_,_,h=>by simp at h
 |(n,k₀)::r,x,k,h=>by
  have ih:= @Bt sc r x k;have h':nB x ((if(k₀==tI&&sc.kind== .function&&sc.names.lookup n==TL .cell)=J1 then(n,gm.cell)else(n,k₀))::(r.map _))=TL k:=h;cases hx:x==n with
  |true=>
   simp only[qQ,hx];by_cases hc:(k₀==tI&&sc.kind== .function&&sc.names.lookup n==TL .cell)=J1
   .rw[J4 hc]at h';simp only[qQ,hx]at h';cases h';simp only[bD,beq_iff_eq]at hc;exact⟨k₀,rfl,.inr ⟨hc.1.1,rfl⟩⟩
   .rw[J3 hc]at h';simp only[qQ,hx]at h';cases h';exact⟨_,rfl,.inl rfl⟩
  |false=>
   simp only[qQ,hx];by_cases hc:(k₀==tI&&sc.kind== .function&&sc.names.lookup n==TL .cell)=J1
   .rw[J4 hc]at h';simp only[qQ,hx]at h';exact ih h'
   .rw[J3 hc]at h';simp only[qQ,hx]at h';exact ih h'
structure oM(N:List Str)(sc scope:cN)(own:List (Str×Nat)):Prop where
 kind:scope.kind=.function
 uniq:∀y∈scope.names,scope.names.lookup y.1=TL y.2
 ix:∀p∈own,N[p.2]?=TL p.1
 free:∀y∈scope.names,y.2=.free->sc.names.lookup y.1=TL .cell\/sc.names.lookup y.1=TL .free
 own:∀y∈scope.names,y.2=.local\/y.2=.cell->y.1∈own.map (·.1)\/y.1∉N
noncomputable def cu(σ:St):List Nat->St
 | []=>σ
 |v::vs=>(cu σ vs).set v J0
theorem yR(σ:St):∀vs:List Nat,(cu σ vs).length=σ.length
 | []=>rfl
 |v::vs=>by unfold cu;rw[List.length_set,yR σ vs]
theorem yS{σ:St}{i:Nat}{x:V}:∀{vs:List Nat},(cu σ vs)[i]?=TL (TL x)->σ[i]?=TL (TL x)/\i∉vs
 | [],h=>⟨h,by simp⟩
 |v::vs,h=>by
  unfold cu at h;by_cases hi:v=i
  .subst hi;by_cases hv:v<(cu σ vs).length
   .rw[tD hv]at h;cases h
   .rw[hU (by simpa using hv)]at h;cases h
  .rw[qP hi]at h;obtain⟨h1,h2⟩:=yS h;exact⟨h1,by simp only[bg,not_or];exact⟨fun e=>hi e.symm,h2⟩⟩
abbrev Cx.blk(X:Cx)(s:aj)(H:Hp)(scope:cN)(cenv:Env)(fp:List aa):Cx:={X with s_0:=s,H_0:=H,env:=cenv,outer:=X.stack,ex:=fp,fn:=fun x=>scope.names.lookup x==TL .cell,pn:=[],xe:=fun _ _=>False}
section
variable{X:Cx}{pins:List (aa×Obj)}{σ:St}{H:Hp}{s:aj}
theorem Gc{scope:cN}{own:List (Str×Nat)}{fp:List aa}(I:Inv X pins σ H s)(ok:oM X.N X.env.scope scope own)(hN:X.N.Nodup)(hfp:∀b∈fp,iu X pins H b/\b<s.heap.objs.size):
  Inv (X.blk s H scope (fJ scope (eA (s.heap.objs.size+1) scope.names (dj X.env.cells scope.names [])) s.heap.objs.size X.env) fp) [] (cu σ (own.map (·.2))) H {s with heap:=mY (s.heap.push {cls:=.type "dict",data:=.dict #[]}) scope.names}:=by
 have hfree:∀y∈scope.names,y.2=.free->∃c,X.env.cells.lookup y.1=TL c:=fun y hy e=>by
  rcases ok.free y hy e with k|k
  .exact I.ok.has _ (.inl k)
  .exact I.ok.has _ (.inr k)
 generalize hcenv:fJ scope (eA (s.heap.objs.size+1) scope.names (dj X.env.cells scope.names [])) s.heap.objs.size X.env=cenv;have kp:∀b o,s.heap.get? b=TL o->(mY (s.heap.push {cls:=.type "dict",data:=.dict #[]}) scope.names).get? b=TL o:=fun b o e=>yk _ _ _ _ (bV _ e);have hL:cenv.locals=s.heap.objs.size:=by rw[<-hcenv];rfl
 have hcl:cenv.cells=eA (s.heap.objs.size+1) scope.names (dj X.env.cells scope.names []):=by rw[<-hcenv];rfl
 have hsc:cenv.scope=Wc scope X.env.scope:=by rw[<-hcenv];rfl
 rw[<-fQ s.heap {cls:=.type "dict",data:=.dict #[]}]at hcl
 have cm:∀{y c},(y,c)∈dj X.env.cells scope.names []->X.env.cells.lookup y=TL c/\c<s.heap.objs.size:=fun{y c} hm=>by
  rcases xn hm with hm|⟨h1,rfl⟩
  .cases hm
  .obtain⟨c,hc⟩:=hfree _ h1 rfl;rw[hc];obtain⟨w,z⟩:=I.cell _ _ hc;exact⟨rfl,z.lt⟩
 have mem:∀{y c},cenv.cells.lookup y=TL c->(X.env.cells.lookup y=TL c/\c<s.heap.objs.size)\/(s.heap.objs.size+1<=c/\CellAt (mY (s.heap.push {cls:=.type "dict",data:=.dict #[]}) scope.names) c J0):=fun{y c} e=>by
  rw[hcl]at e;rcases ud (iL e)with hm|⟨_,h2,h3⟩
  .exact .inl (cm hm)
  .rw[fQ]at h2;exact .inr ⟨h2,h3⟩
 have look:∀{y},scope.names.lookup y=TL .free->∃c,cenv.cells.lookup y=TL c/\X.env.cells.lookup y=TL c:=fun{y} hl=>by
  have hy:(y,tI)∈scope.names:=iL hl;obtain⟨c',e'⟩:=BF (xm (names:=scope.names) (n:=(s.heap.push {cls:=.type "dict",data:=.dict #[]}).objs.size) (AH (cells:=X.env.cells) (acc:=[]) hy));rw[<-hcl]at e';refine⟨c',e',?_⟩;rw[hcl]at e';rcases ud (iL e')with hm|⟨h1,_,_⟩
  .exact(cm hm).1
  .have:=ok.uniq _ h1;rw[hl]at this;cases this
 have okB:(X.blk s H scope cenv fp).Ok:=by
  refine⟨I.ok.mod,by show cenv.scope.kind=_;rw[hsc];exact ok.kind,by show cenv.globals=_;rw[<-hcenv];exact I.ok.glob,by show cenv.builtins=_;rw[<-hcenv];exact I.ok.blt,by show s.heap.objs.size<=cenv.locals;rw[hL];exact aF _,
   fun y z c e1 e2=>?_,fun y hy=>?_,fun y c z e=>?_,I.ok.hd,I.ok.frames,.inl rfl,fun b hb=>⟨?_,fun y c e z=>?_⟩,I.bs,dM I.ok.bsz I.sz,fun b o e hb=>?_,fun b hb z=>?_,I.stack,I.stkFree⟩
  .have e1:cenv.cells.lookup y=TL c:=e1;have e2:cenv.cells.lookup z=TL c:=e2;rw[hcl]at e1 e2;refine AF (fun p hp=>?_) (fun y z c a b=>I.ok.inj y z c (cm a).1 (cm b).1) (iL e1) (iL e2);rw[fQ];exact nF (cm (y:=p.1) (c:=p.2) hp).2
  .show∃c,cenv.cells.lookup y=TL c
   have key:∀k,cenv.kindOf y=TL k->(k=.cell\/k=.free)->∃c,cenv.cells.lookup y=TL c:=fun k hk hk'=>by
    unfold Env.kindOf at hk;rw[hsc]at hk;obtain⟨k',e,r⟩:=Bt hk
    have:k'=.cell\/k'=.free:=by
     rcases r with rfl|⟨rfl,_⟩
     .exact hk'
     .exact .inr rfl
    rcases this with rfl|rfl
    .obtain⟨c,hm⟩:=AE (n:=(s.heap.push {cls:=.type "dict",data:=.dict #[]}).objs.size) (acc:=dj X.env.cells scope.names []) (iL e);obtain⟨c',e'⟩:=BF hm;exact⟨c',by rw[hcl];exact e'⟩
    .obtain⟨c,h1,_⟩:=look e;exact⟨c,h1⟩
   rcases hy with hy|hy
   .exact key _ hy (.inl rfl)
   .exact key _ hy (.inr rfl)
  .have z:(scope.names.lookup y==TL gm.cell)=true:=z;have z:scope.names.lookup y=TL .cell:=by simpa using z
   have e:cenv.cells.lookup y=TL c:=e;rw[hcl]at e;rcases ud (iL e)with hm|⟨_,h2,_⟩
   .rcases xn hm with hm|⟨h1,_⟩
    .cases hm
    .have q:=ok.uniq _ h1;rw[z]at q;cases q
   .rw[fQ]at h2;exact zP h2
  .show b≠cenv.locals;rw[hL];exact cJ (hfp b hb).2
  .have e:cenv.cells.lookup y=TL c:=e;rcases mem e with⟨h1,_⟩|⟨h1,_⟩
   .exact(hfp b hb).1.2.2.2.2.1 y c h1 z
   .have h2:s.heap.objs.size+1<=b:=by rw[<-z];exact h1
    exact J5 (cR (hfp b hb).2 (zP h2)) (gI _)
  .rcases(hfp b hb).1.2.2.2.1 with z|z
   .exact I.ok.noex b o e z
   .exact J5 (cR (bR e) (dM I.ok.bsz z)) (gI _)
  .rcases bg.mp (I.stkSub b z)with z|z
   .exact(hfp b hb).1.2.1 z
   .exact(hfp b hb).1.2.2.1 z
 refine⟨okB,rfl,I.bare,Un.kept kp,⟨fun _=>J0,?_,fun i y av e1 e2 e3=>?_⟩,fun y c e=>?_,?_,fun y c e=>?_,fun p hp=>?_,I.hok.kept kp,by rw[yR];exact I.len⟩
 .show aA.Ns _ cenv.locals _;rw[hL];exact aA.Ns.keeps (aA.Ns.new ..) fun b o e=>yk _ _ _ _ e
 .obtain⟨e2,hne⟩:=yS e2
  have hfr:scope.names.lookup y=TL .free/\(cenv.kindOf y=TL .cell\/cenv.kindOf y=TL .free):=by
   have key:∀k,cenv.scope.names.lookup y=TL k->k=.local\/k=.cell\/k=.free->scope.names.lookup y=TL .free/\(cenv.kindOf y=TL .cell\/cenv.kindOf y=TL .free):=fun k hk hk'=>by
    have hk0:=hk;rw[hsc]at hk;obtain⟨k',e,r⟩:=Bt hk
    have no: ¬(k'=.local\/k'=.cell):=fun hh=>by
     rcases ok.own _ (iL e) hh with e'|e'
     .obtain⟨p,hp,hpy⟩:=bS.mp e';have e3:=ok.ix p hp;have:p.1=y:=hpy;rw[this]at e3;exact hne (bS.mpr ⟨p,hp,BJ hN e3 e1⟩)
     .exact e' (du e1)
    rcases r with rfl|⟨rfl,rfl⟩
    .rcases hk' with rfl|rfl|rfl
     .exact J5 (.inl rfl) no
     .exact J5 (.inr rfl) no
     .exact⟨e,.inr hk0⟩
    .exact⟨e,.inl hk0⟩
   have e3:rB cenv.scope y:=e3;rcases e3 with e3|e3|e3
   .exact key _ e3 (.inl rfl)
   .exact key _ e3 (.inr (.inl rfl))
   .exact key _ e3 (.inr (.inr rfl))
  obtain⟨m,hn,hl⟩:=I.loc;have hvis:rB X.env.scope y:=(ok.free _ (iL hfr.1) rfl).elim (fun k=>.inr (.inl k)) (fun k=>.inr (.inr k));obtain⟨w,r,q⟩:=hl i y av e1 e2 hvis;refine⟨w,r,.inr ⟨hfr.2,?_⟩⟩;obtain⟨c,h1,h2⟩:=look hfr.1;rcases q with⟨k,_⟩|⟨_,c',e',z⟩
  .have k:X.env.scope.names.lookup y=TL .local:=k;rcases ok.free _ (iL hfr.1) rfl with k'|k'<;>rw[show X.env.scope.names.lookup y=_ from k']at k<;>cases k
  .rw[h2]at e';cases e';exact⟨c,h1,z.keeps kp⟩
 .have e:cenv.cells.lookup y=TL c:=e;rcases mem e with⟨h1,_⟩|⟨_,z⟩
  .obtain⟨w,z⟩:=I.cell y c h1;exact⟨w,z.keeps kp⟩
  .exact⟨_,z⟩
 .show H cenv.locals=J0;rw[hL];exact I.hok.fresh (aF _)
 .have e:cenv.cells.lookup y=TL c:=e;rcases mem e with⟨h1,_⟩|⟨h1,_⟩
  .exact I.freeC y c h1
  .exact I.hok.fresh (zP h1)
 .exact J5 (show p∈([]:List (aa×Obj))++[]from hp) (by simp)
theorem FI{E:ae->aj->Prop}{D:aa}{xs:List V}{y:V}{v:ae}{Q:ae->aj->Prop}(I:Inv X pins σ H s)(hD:H D=TL (.lst xs))(hz:xs.length<aZ)(r:RelV y v)
  (h:∀s',Inv X pins σ (ah H D (.lst (xs++[y]))) s'->Q .none s'):az (aC X.prog X.w) X.A (call (.builtin "list.append") [.ref D,v]) Q E s:=by
 obtain⟨hz',its,n,ri,e⟩:=I.hok D _ hD;have hl:=ri.length;refine append_at (hsz:=by rw[fe];lia) e fun h' sb ho'=>?_;refine h {s with heap:=h'} (I.write (t':=s.toks) (by rw[hD];trivial) (.inl rfl) (fun b u hb q=>(sb.2 b hb).trans q) ⟨_,ho'⟩ ⟨by rw[bw];exact hz,its++[v],n+1,ri.append (.cons r .nil),?_⟩);rw[ho'];simp
def pD(X:Cx)(ifs:List aM)(t:TT):Prop:=
 ∀(pins:List (aa×Obj))(s:aj)(σ:St)(H:Hp)(Q:Bool->Hp->Prop),Inv X pins σ H s->t σ H Q->
  az (aC X.prog X.w) X.A (forIn ifs J1 fun c r=>if r=J1 then do let ok<-isTrue c X.env (bF c X.env);pure (zo ok)else pure (zo r)) (TP X pins σ Q) X.xe s
def DV:TT:=fun _ H Q=>Q J1 H
theorem jZ:pD X [] DV:=fun _ _ _ H _ I h=>wpAny_tests_nil ⟨H,I,h⟩
theorem oA{c:aM}{t:TT}(h:PT X c t):pD X [c] t:=fun pins s σ H Q I hw=>wpAny_tests_one (h pins s σ H Q I hw)
end
theorem kS{α:Type}{t:Sem α}{Q Q':α->aj->Prop}{M:Model}{A:bM}{E:ae->aj->Prop}{s:aj}(h:az M A t Q (fun _ _=>False) s)(hQ:∀a s,Q a s->Q' a s):az M A t Q' E s:=iE h hQ fun _ _ z=>fP z
theorem Gq{prog:aJ}{w:aH}{A:bM}{R:Result->aj->Prop}{s:aj}{elt target iter:aM}{ifs:List aM}{scope:cN}{pos:Pos}{it acc:ae}{env:Env}(I:Nat->aj->Prop)
  (turn:∀n s,I n s->az (aC prog w) A (ka it) (fun r s₁=>match r with
   |none=>R (.ok .next) s₁
   |some v=>az (aC prog w) A (Bm target it v) (fun _ s₁'=>az (aC prog w) A (assign target env v) (fun _ s₂=>
     az (aC prog w) A (forIn ifs J1 fun c r=>if r=J1 then do let ok<-isTrue c env (bF c env);pure (zo ok)else pure (zo r)) (fun ok s₃=>
      if ok=J1 then az (aC prog w) A (bF elt env) (fun x s₄=>
       az (aC prog w) A (call (.builtin "list.append") [acc,x]) (fun _ s₅=>∃m,m<n/\I m s₅) (qg (aC prog w) A env fun e s'=>R (.error e) s') s₄) (qg (aC prog w) A env fun e s'=>R (.error e) s') s₃
      else∃m,m<n/\I m s₃) (qg (aC prog w) A env fun e s'=>R (.error e) s') s₂) (qg (aC prog w) A env fun e s'=>R (.error e) s') s₁') (qg (aC prog w) A env fun e s'=>R (.error e) s') s₁) (qg (aC prog w) A env fun e s'=>R (.error e) s') s)
  (n:Nat)(h:I n s):
  hX (aC prog w) A (.compLoop (.ListComp elt [⟨target,iter,ifs,0⟩] scope pos) 0 it acc env) R s:=by
 refine codeAny_loop rfl I (fun n s hI=>?_) n h;show az _ A ((compTurn (.ListComp elt [⟨target,iter,ifs,0⟩] scope pos) 0 it acc env).onRaise (fun x=>do uO x env;theTreesLotGoes x)) _ _ s;refine wpAny_noted ?_;rw[compTurn_list];refine ay (wpAny_standAt (ay (iE (turn n s hI) (fun r s₁ h₁=>?_) fun _ _ h'=>h')));cases r with
 |none=>exact aT h₁
 |some v=>
  refine ay (iE h₁ (fun _ s₁' h₁'=>?_) fun _ _ h'=>h');refine ay (iE h₁' (fun _ s₂ h₂=>ay (iE h₂ (fun ok s₃ h₃=>?_) fun _ _ h'=>h')) fun _ _ h'=>h');cases ok with
  |false=>exact aT ⟨rfl,h₃⟩
  |true=>
   exact ay (ay (iE h₃ (fun x s₄ h₄=>ay (iE h₄ (fun _ s₅ h₅=>aT (aT ⟨rfl,h₅⟩)) fun _ _ h'=>h')) fun _ _ h'=>h'))
section
variable{X:Cx}
def oF(wi:TI)(g:TG)(tt:TT)(te:TE)(vs:List Nat):TE:=fun σ H Q=>wi σ H fun J H1=>∀D,H1 D=J0->∃W:Nat->Nat->Hp->Prop,(∃m,W 0 m (ah H1 D (.lst [])))/\∀i m H,W i m H->
 (J.stop i H/\Q (.ref D) H)\/(J.go i H/\∃Nx:Hp->Prop,(∀H',Nx H'->∃m',m'<m/\W (i+1) m' H')/\∀x H',J.yld i H x H'->g x (cu σ vs) H' fun σ2 H2=>cu σ2 vs=cu σ vs/\tt σ2 H2 fun b H3=>
  if b=J1 then te σ2 H3 fun y H4=>∃acc,H4 D=TL (.lst acc)/\acc.length<aZ/\Nx (ah H4 D (.lst (acc++[y])))else Nx H3)
theorem HW{pins:List (aa×Obj)}{s:aj}{σ:St}{H:Hp}{Q:VK}{elt tg iter:aM}{ifs:List aM}{scope:cN}{own:List (Str×Nat)}{pos pos':Pos}{wi:TI}{g:TG}{tt:TT}{te:TE}{use:Option (ae->Sem Unit)}{Qf:ae->aj->Prop}
  (hc:X.calm=J1)(hN:X.N.Nodup)(I:Inv X pins σ H s)(hi:PI X tg iter wi)(ok:oM X.N X.env.scope scope own)
  (hg:∀(s:aj)(H:Hp)(C:aa)(cl:List (Str×aa))(fp:List aa),PG (X.blk s H scope (fJ scope cl C X.env) fp) tg g)(ht:∀(s:aj)(H:Hp)(C:aa)(cl:List (Str×aa))(fp:List aa),pD (X.blk s H scope (fJ scope cl C X.env) fp) ifs tt)
  (he:∀(s:aj)(H:Hp)(C:aa)(cl:List (Str×aa))(fp:List aa),PE (X.blk s H scope (fJ scope cl C X.env) fp) elt te)(hs:∀x,uq iter X.env x=pure x)
  (h:oF wi g tt te (own.map (·.2)) σ H Q)
  (hRR:∀D C s' m H',Inv X pins σ H' s'->Q (.ref D) H'->s'.heap.Ns C m->iu X pins H' C->rN (aC X.prog X.w) X.A X.xe use Qf (.ref D) C (.ok .next) s'):
  az (aC X.prog X.w) X.A (AJ (.ListComp elt [⟨tg,iter,ifs,0⟩] scope pos) scope X.env pos' (newList []) J2 (bF iter X.env) use) Qf X.xe s:=by
 have hfree:∀y∈scope.names,y.2=.free->∃c,X.env.cells.lookup y.1=TL c:=fun y hy e=>by
  rcases ok.free y hy e with k|k
  .exact I.ok.has _ (.inl k)
  .exact I.ok.has _ (.inr k)
 refine YH (use:=use) rfl hs (AI hfree) ok.kind (fun y hy e=>by rw[ok.uniq y hy,e])
  (aR (hi pins s σ H _ I h) fun xv s1 hx=>aR hx fun itv s2 h2=>?_)
 obtain⟨it,fp,tn,J,H2,e,I2,T,st2,f2,q⟩:=h2;subst e;refine ni (IJ ?_) (by show 0<=aZ;decide);generalize hD:s2.heap.objs.size=D;have ia:H2 D=none:=I2.hok.fresh (tJ hD);obtain⟨W,⟨m0,w0⟩,turn⟩:=q D ia;generalize hs3:({s2 with heap:=s2.heap.push {cls:=.type "list",data:=.seq ([]:List ae).toArray}}:aj)=s3
 have I3:Inv X pins σ (ah H2 D (.lst [])) s3:=by
  rw[<-hs3];refine I2.laid (t':=s2.toks) (fun b o e=>bV _ e) (tJ hD) ⟨bI _,[],0,.nil,?_⟩;rw[<-hD];exact dD _ rfl
 have h3:s3.heap=s2.heap.push {cls:=.type "list",data:=.seq ([]:List ae).toArray}:=by rw[<-hs3]
 have sz:∀b∈fp,b<s2.heap.objs.size:=fun b hb=>by
  obtain⟨o,e,_⟩:=T.obj _ _ st2 b hb;exact bR e
 have f3:∀b∈fp,iu X pins (ah H2 D (.lst [])) b/\b<s3.heap.objs.size:=fun b hb=>by
  have hlt:=sz b hb;refine⟨⟨?_,(f2 b hb).2⟩,by rw[h3,fQ];exact nF hlt⟩;rw[aO (by rw[<-hD];exact cJ hlt)];exact(f2 b hb).1
 have st3:tn 0 s3.heap:=T.keep _ _ _ st2 fun b _ o e=>by rw[h3];exact bV _ e
 have I4:=Gc I3 ok hN f3;have pg:=hg s3 (ah H2 D (.lst [])) s3.heap.objs.size (eA (s3.heap.objs.size+1) scope.names (dj X.env.cells scope.names [])) fp;have pt:=ht s3 (ah H2 D (.lst [])) s3.heap.objs.size (eA (s3.heap.objs.size+1) scope.names (dj X.env.cells scope.names [])) fp;have pe:=he s3 (ah H2 D (.lst [])) s3.heap.objs.size (eA (s3.heap.objs.size+1) scope.names (dj X.env.cells scope.names [])) fp;show hX _ _ (.compStart (.ListComp elt [⟨tg,iter,ifs,0⟩] scope pos) 0 (.ref it) (.ref D) (fJ scope (eA (s3.heap.objs.size+1) scope.names (dj X.env.cells scope.names [])) s3.heap.objs.size X.env)) (rN (aC X.prog X.w) X.A X.xe use Qf (.ref D) s3.heap.objs.size) {s3 with heap:=mY (s3.heap.push {cls:=.type "dict",data:=.dict #[]}) scope.names};have nfp:∀b∈fp,(ah H2 D (.lst [])) b=none:=fun b hb=>(f3 b hb).1.1;generalize hce:fJ scope (eA (s3.heap.objs.size+1) scope.names (dj X.env.cells scope.names [])) s3.heap.objs.size X.env=ce at I4 pg pt pe⊢;have cL:ce.locals=s3.heap.objs.size:=by subst hce;rfl
 generalize hH3:ah H2 D (.lst [])=H3 at I3 I4 pg pt pe w0 nfp f3;generalize hs4:({s3 with heap:=mY (s3.heap.push {cls:=.type "dict",data:=.dict #[]}) scope.names}:aj)=s4 at I4⊢;have st4:tn 0 s4.heap:=T.keep _ _ _ st3 fun b _ o e=>by rw[<-hs4];exact yk _ _ _ _ (bV _ e)
 have stat:∀{σ':St}{H':Hp}{s':aj},Inv (X.blk s3 H3 scope ce fp) [] σ' H' s'->(∀b∈fp,H' b=J0)->∀b∈fp,iu (X.blk s3 H3 scope ce fp) [] H' b:=fun{σ' H' s'} I' hn b hb=>
  ⟨hn b hb,(I'.ok.exf b hb).1,I'.ok.exfs b hb,.inl hb,fun x c e=>(I'.ok.exf b hb).2 x c e,fun p hp=>J5 (show p∈([]:List (aa×Obj))++[]from hp) (by simp)⟩
 have loop:hX (aC X.prog X.w) X.A (.compLoop (.ListComp elt [⟨tg,iter,ifs,0⟩] scope pos) 0 (.ref it) (.ref D) ce) (rN (aC X.prog X.w) X.A X.xe use Qf (.ref D) s3.heap.objs.size) s4:=by
  refine Gq (fun n s'=>∃i H',Inv (X.blk s3 H3 scope ce fp) [] (cu σ (own.map (·.2))) H' s'/\tn i s'.heap/\(∀b∈fp,H' b=J0)/\W i n H') ?_ m0 ⟨0,H3,I4,st4,nfp,w0⟩;rintro n s5 ⟨i,H5,I5,st5,n5,w5⟩;rcases turn i n H5 w5 with⟨stop,qq⟩|⟨go,Nx,hNx,step⟩
  .have td:=T.done (X.blk s3 H3 scope ce fp) rfl rfl rfl hc i [] s5 _ H5 (fun _ _=>False) I5 (stat I5 n5) st5 stop;refine kS td fun r s6⟨hr,I6⟩=>?_;subst hr;have I7:Inv X pins σ H5 s6:=I3.call' (ch:=fp) I6.os I6.base I6.hok I6.bare fun b hb=>⟨(f3 b hb).1.2.2.2.1,(f3 b hb).1.2.1,(f3 b hb).1.2.2.2.2.1,(f3 b hb).1.2.2.2.2.2⟩
   have nC:H5 s3.heap.objs.size=none:=by
    have z:H5 ce.locals=none:=I6.free;rw[cL]at z;exact z
   obtain⟨m,hn,_⟩:=I6.loc;have hn:s6.heap.Ns ce.locals m:=hn;rw[cL]at hn;exact hRR D s3.heap.objs.size s6 m H5 I7 qq hn (I3.fpOk (aF _) nC)
  .have ti:=T.item (X.blk s3 H3 scope ce fp) rfl rfl rfl hc i [] s5 _ H5 (fun _ _=>False) I5 (stat I5 n5) st5 go;refine kS ti fun r s6⟨u,hr,h6⟩=>?_;subst hr;refine kS h6 fun _ s7⟨x,H7,I7,r7,y7,st7,n7⟩=>?_;have I7':=I7.pinned (stat I7 n7) (T.obj _ _ st7);refine kS (pg _ s7 _ H7 x u _ I7' r7 (step x H7 y7)) fun _ s8⟨σ8,H8,I8,hw8,q8⟩=>?_;refine kS (pt _ s8 σ8 H8 _ I8 q8) fun b s9⟨H9,I9,q9⟩=>?_
   have fin:∀{s':aj}{H':Hp},Inv (X.blk s3 H3 scope ce fp) ([]++oz fp s7.heap) σ8 H' s'->Nx H'->∃m,m<n/\∃i H',Inv (X.blk s3 H3 scope ce fp) [] (cu σ (own.map (·.2))) H' s'/\tn i s'.heap/\(∀b∈fp,H' b=J0)/\W i m H':=fun{s' H'} I' nx=>by
    obtain⟨m',hm,w'⟩:=hNx H' nx
    have pin':∀b∈fp,∀o,s7.heap.get? b=TL o->s'.heap.get? b=TL o/\H' b=none:=fun b hb o e=>
     let z:=I'.pin (b,o) (dA _ (dA _ (uM hb e)))
     ⟨z.1,z.2.1⟩
    have hl:(cu σ (own.map (·.2))).length=σ8.length:=by rw[<-hw8,yR]
    refine⟨m',hm,i+1,H',(I'.unpinned (pins:=[])).weak hl (fun j v e=>?_),T.keep _ _ _ st7 fun b hb o e=>(pin' b hb o e).1,fun b hb=>?_,w'⟩
    .rw[<-hw8]at e;exact(yS e).1
    .obtain⟨o,e,_⟩:=T.obj _ _ st7 b hb;exact(pin' b hb o e).2
   cases b with
   |false=>
    simp only[aU,if_false]at q9⊢;exact fin I9 q9
   |true=>
    simp only[if_true]at q9⊢;refine kS (pe _ s9 σ8 H9 _ I9 q9) fun z s10⟨yv,H10,I10,r10,acc,hD10,hz10,nx⟩=>?_;exact FI (X:=X.blk s3 H3 scope ce fp) I10 hD10 hz10 r10 fun s11 I11=>fin I11 nx
 exact OI loop (T.self X.A 0 _ _ _ st4 loop)
theorem ij{elt tg iter:aM}{ifs:List aM}{scope:cN}{own:List (Str×Nat)}{pos:Pos}{wi:TI}{g:TG}{tt:TT}{te:TE}(hc:X.calm=J1)(hN:X.N.Nodup)(hi:PI X tg iter wi)(ok:oM X.N X.env.scope scope own)
  (hg:∀(s:aj)(H:Hp)(C:aa)(cl:List (Str×aa))(fp:List aa),PG (X.blk s H scope (fJ scope cl C X.env) fp) tg g)(ht:∀(s:aj)(H:Hp)(C:aa)(cl:List (Str×aa))(fp:List aa),pD (X.blk s H scope (fJ scope cl C X.env) fp) ifs tt)
  (he:∀(s:aj)(H:Hp)(C:aa)(cl:List (Str×aa))(fp:List aa),PE (X.blk s H scope (fJ scope cl C X.env) fp) elt te)(hs:∀x,uq iter X.env x=pure x:=by intro _;rfl):
  PE X (.ListComp elt [⟨tg,iter,ifs,0⟩] scope pos) (oF wi g tt te (own.map (·.2))):=by
 intro pins s σ H Q I h;rw[eval_ListComp];refine HW hc hN I hi ok hg ht he hs h fun D C s' m H' I' q hn f=>⟨m,hn,fun h'' sb=>?_⟩;obtain⟨f0,f1,f2,f3,f4,f5⟩:=f;exact⟨.ref D,H',I'.turned (t':=s'.toks) (fun b o hb e=>(sb.2 b hb).trans e) f0 f1 f3 f4 f5,rfl,q⟩
theorem CD{i:Nat}{y:Str}{py:Pos}{elt tg iter:aM}{ifs:List aM}{scope:cN}{own:List (Str×Nat)}{pos spos:Pos}{wi:TI}{g:TG}{tt:TT}{te:TE}(hc:X.calm=J1)(hN:X.N.Nodup)(hy:X.N[i]?=TL y)(hyl:X.env.scope.names.lookup y=TL .local)
  (hsw:oE (.ListComp elt [⟨tg,iter,ifs,0⟩] scope pos) (TL (.Name y py)) spos.line X.env=pure J1)(hi:PI X tg iter wi)(ok:oM X.N X.env.scope scope own)
  (hg:∀(s:aj)(H:Hp)(C:aa)(cl:List (Str×aa))(fp:List aa),PG (X.blk s H scope (fJ scope cl C X.env) fp) tg g)(ht:∀(s:aj)(H:Hp)(C:aa)(cl:List (Str×aa))(fp:List aa),pD (X.blk s H scope (fJ scope cl C X.env) fp) ifs tt)
  (he:∀(s:aj)(H:Hp)(C:aa)(cl:List (Str×aa))(fp:List aa),PE (X.blk s H scope (fJ scope cl C X.env) fp) elt te)(hs:∀x,uq iter X.env x=pure x:=by intro _;rfl):
  PS X (.Assign [.Name y py] (.ListComp elt [⟨tg,iter,ifs,0⟩] scope pos) spos) (vv (oF wi g tt te (own.map (·.2))) (lJ i)):=by
 intro pins s σ H D I h;rw[Pz _ _ _ _ hsw];refine ay (wpAny_standAt (ay ?_));show az _ X.A (do let _<-AJ (.ListComp elt [⟨tg,iter,ifs,0⟩] scope pos) scope X.env (firstIterPos [⟨tg,iter,ifs,0⟩] pos) (newList []) J2 (bF iter X.env) (TL (assign (.Name y py) X.env))) _ _ s;have h:oF wi g tt te (own.map (·.2)) σ H (fun x H1=>lJ i x σ H1 D.nx):=h;refine ay (aR (HW (Qf:=fun _ s'=>SP X pins D .next s') hc hN I hi ok hg ht he hs h fun L C s' m H' I' q hn f=>?_) fun _ s' hq=>aT (aT hq));show az _ _ (assign (.Name y py) X.env (.ref L)) _ _ _;refine MD (DI (v:=V.ref L) I' hN hy (.inl hyl) rfl (fun s2 I2⟨a,sb,ha⟩=>?_) (.inr hyl));obtain⟨f0,f1,f2,f3,f4,f5⟩:=f
 have haC:C≠a:=by
  rcases ha with z|z
  .rw[z];exact f1
  .exact fun e=>f4 y a z e.symm
 refine⟨m,hn.sameBut sb haC,fun h3 sb3=>?_⟩;exact⟨_,H',I2.turned (t':=s2.toks) (fun b o hb e=>(sb3.2 b hb).trans e) f0 f1 f3 f4 f5,q⟩
theorem yF{elt:aM}{gs:List Comprehension}{scope:cN}{pos py:Pos}{y:Str}{l:Nat}{env:Env}(hk:env.scope.kind=.function)(hy:env.scope.names.lookup y=TL .local)(hl:(py.line==pos.line)=J1)
  (ha:(scope.names.any fun(n,k)=>n==y&&(k== .local||k== .cell))=J2):oE (.ListComp elt gs scope pos) (TL (.Name y py)) l env=pure true:=by
 have ky:env.kindOf y=TL .local:=hy;have hb:env.blockKind=.function:=by unfold Env.blockKind;rw[hk];rfl
 have hl:(py.line==(aM.ListComp elt gs scope pos).pos.line)=true:=hl;unfold oE;simp only[hb,ky,ha,hl];rfl
end
theorem QL{lo:Int}{n:Nat}{g:TG}{tt:TT}{te:TE}{vs:List Nat}{σ:St}{H1:Hp}{D:aa}{Qd:Hp->Prop}(Pv:Nat->Hp->Prop)(h0:Pv 0 (ah H1 D (.lst [])))
  (hs:∀i H,i<n->Pv i H->g (.int (lo+i)) (cu σ vs) H fun σ2 H2=>cu σ2 vs=cu σ vs/\tt σ2 H2 fun b H3=>
   if b=J1 then te σ2 H3 fun y H4=>∃acc,H4 D=TL (.lst acc)/\acc.length<aZ/\Pv (i+1) (ah H4 D (.lst (acc++[y])))else Pv (i+1) H3)(hd:∀H,Pv n H->Qd H):
  ∃W:Nat->Nat->Hp->Prop,(∃m,W 0 m (ah H1 D (.lst [])))/\∀i m H,W i m H->
   ((oX lo n).stop i H/\Qd H)\/((oX lo n).go i H/\∃Nx:Hp->Prop,(∀H',Nx H'->∃m',m'<m/\W (i+1) m' H')/\∀x H',(oX lo n).yld i H x H'->g x (cu σ vs) H' fun σ2 H2=>cu σ2 vs=cu σ vs/\tt σ2 H2 fun b H3=>
    if b=J1 then te σ2 H3 fun y H4=>∃acc,H4 D=TL (.lst acc)/\acc.length<aZ/\Nx (ah H4 D (.lst (acc++[y])))else Nx H3):=by
 refine⟨fun i m H=>m=n-i/\i<=n/\Pv i H,⟨n,by simp,bI _,h0⟩,?_⟩;rintro i m H ⟨rfl,hi,p⟩;by_cases hlt:i<n
 .refine .inr ⟨hlt,Pv (i+1),fun H' p'=>⟨n-(i+1),by lia,rfl,hlt,p'⟩,fun x H' y=>?_⟩;obtain⟨e,y⟩:=y;subst e y;exact hs i _ hlt p
 .have e:i=n:=by lia
  subst e;exact .inl ⟨aF _,hd H p⟩
theorem QK{K:aw}{a:aa}{xs:List V}{g:TG}{tt:TT}{te:TE}{vs:List Nat}{σ:St}{H1:Hp}{D:aa}{Qd:Hp->Prop}(Pv:Nat->Hp->Prop)(h0:Pv 0 (ah H1 D (.lst [])))(hl:∀i H,i<=xs.length->Pv i H->ak K H a xs)
  (hs:∀i x H,xs[i]?=TL x->Pv i H->g x (cu σ vs) H fun σ2 H2=>cu σ2 vs=cu σ vs/\tt σ2 H2 fun b H3=>
   if b=J1 then te σ2 H3 fun y H4=>∃acc,H4 D=TL (.lst acc)/\acc.length<aZ/\Pv (i+1) (ah H4 D (.lst (acc++[y])))else Pv (i+1) H3)(hd:∀H,Pv xs.length H->Qd H):
  ∃W:Nat->Nat->Hp->Prop,(∃m,W 0 m (ah H1 D (.lst [])))/\∀i m H,W i m H->
   ((mh K a).stop i H/\Qd H)\/((mh K a).go i H/\∃Nx:Hp->Prop,(∀H',Nx H'->∃m',m'<m/\W (i+1) m' H')/\∀x H',(mh K a).yld i H x H'->g x (cu σ vs) H' fun σ2 H2=>cu σ2 vs=cu σ vs/\tt σ2 H2 fun b H3=>
    if b=J1 then te σ2 H3 fun y H4=>∃acc,H4 D=TL (.lst acc)/\acc.length<aZ/\Nx (ah H4 D (.lst (acc++[y])))else Nx H3):=by
 refine⟨fun i m H=>m=xs.length-i/\i<=xs.length/\Pv i H,⟨xs.length,by simp,bI _,h0⟩,?_⟩;rintro i m H ⟨rfl,hi,p⟩;have q:=hl i H hi p;by_cases hlt:i<xs.length
 .refine .inr ⟨⟨xs,xs[i],q,by simp[hlt]⟩,Pv (i+1),fun H' p'=>⟨xs.length-(i+1),by lia,rfl,hlt,p'⟩,fun x H' y=>?_⟩;obtain⟨e,y⟩:=y;subst e;exact hs i x _ (y xs q) p
 .have e:i=xs.length:=by lia
  subst e;exact .inl ⟨⟨xs,q,aF _⟩,hd H p⟩
noncomputable def Gb(N:List Str)(sc scope:cN)(own:List (Str×Nat)):Bool:=
 (match scope.kind with|.function=>J1|_=>J2)&&(scope.names.all fun y=>decide (scope.names.lookup y.1=TL y.2))&&(own.all fun p=>decide (N[p.2]?=TL p.1))&&
  (scope.names.all fun y=>match y.2 with
   |.free=>(match sc.names.lookup y.1 with|some .cell=>J1|some .free=>J1|_=>J2)
   |.local=>decide (y.1∈own.map (·.1))||decide (y.1∉N)
   |.cell=>decide (y.1∈own.map (·.1))||decide (y.1∉N)
   |_=>J1)
theorem fI{N:List Str}{sc scope:cN}{own:List (Str×Nat)}(h:Gb N sc scope own=J1):oM N sc scope own:=by
 unfold Gb at h;simp only[bD,gG,decide_eq_true_eq]at h;obtain⟨⟨⟨h1,h2⟩,h3⟩,h4⟩:=h;refine⟨?_,h2,h3,fun y hy e=>?_,fun y hy e=>?_⟩
 .split at h1
  .assumption
  .cases h1
 .have q:=h4 y hy;simp only[e]at q;split at q<;>first|exact .inl (by assumption)|exact .inr (by assumption)|cases q
 .have q:=h4 y hy;rcases e with e|e<;>(simp only[e,qF,decide_eq_true_eq]at q;exact q)
section
variable{κ:Type} [DecidableEq κ]
noncomputable def cj(kvs:List (κ×V))(k:κ):Option V:=(kvs.find? fun kv=>decide (kv.1=k)).map (·.2)
noncomputable def dr(kvs:List (κ×V))(k:κ)(v:V):List (κ×V):=
 if(kvs.any fun kv=>decide (kv.1=k))=J1 then kvs.map (fun kv=>if kv.1=k then(kv.1,v)else kv)else kvs++[(k,v)]
theorem jz{p:κ×V}{r:List (κ×V)}{k:κ}(e:p.1=k):cj (p::r) k=TL p.2:=by simp[cj,tw,e]
theorem iD{p:κ×V}{r:List (κ×V)}{k:κ}(e: ¬p.1=k):cj (p::r) k=cj r k:=by simp[cj,tw,e]
theorem oH(k:κ):∀kvs:List (κ×V),(kvs.any fun kv=>decide (kv.1=k))=(cj kvs k).isSome
 | []=>rfl
 |p::r=>by
  rw[qM];by_cases e:p.1=k
  .simp only[jz e,dT e,Bool.true_or,nG]
  .rw[iD e,dF e,Bool.false_or];exact oH k r
theorem Mx(k j:κ)(y:V):∀kvs:List (κ×V),cj (kvs.map fun kv=>if kv.1=k then(kv.1,y)else kv) j=(cj kvs j).map fun x=>if j=k then y else x
 | []=>rfl
 |p::r=>by
  have ih:=Mx k j y r;rw[cV];by_cases h:p.1=k
  .rw[J4 h];by_cases e:p.1=j
   .rw[jz (p:=(p.1,y)) e,jz e,ly,J4 (e.symm.trans h)]
   .rw[iD (p:=(p.1,y)) e,iD e,ih]
  .rw[J3 h];by_cases e:p.1=j
   .rw[jz (p:=p) e,jz e,ly,J3 (fun z=>h (e.trans z))]
   .rw[iD (p:=p) e,iD e,ih]
theorem My(k j:κ)(y:V):∀kvs:List (κ×V),cj kvs k=J0->cj (kvs++[(k,y)]) j=if j=k then TL y else cj kvs j
 | [],_=>by
  by_cases e:k=j
  .rw[J4 e.symm];exact jz (p:=(k,y)) e
  .rw[J3 (fun z=>e z.symm)];exact iD (p:=(k,y)) e
 |p::r,hn=>by
  rw[oZ];have hk: ¬p.1=k:=fun z=>by rw[jz z]at hn;cases hn
  rw[iD hk]at hn;have ih:=My k j y r hn;by_cases e:p.1=j
  .rw[jz e,jz e,J3 (fun z=>hk (e.trans z))]
  .rw[iD e,iD e,ih]
theorem yP(kvs:List (κ×V))(k j:κ)(y:V):cj (dr kvs k y) j=if j=k then TL y else cj kvs j:=by
 unfold dr;by_cases a:(kvs.any fun kv=>decide (kv.1=k))=J1
 .rw[J4 a,Mx];rw[oH]at a;by_cases e:j=k
  .obtain⟨x,hx⟩:=Fb.mp a;rw[J4 e,e,hx,ly,J4 rfl]
  .rw[J3 e];cases cj kvs j with
   |none=>rfl
   |some x=>rw[ly,J3 e]
 .rw[J3 a];refine My k j y kvs ?_;rw[oH]at a;cases q:cj kvs k with
  |none=>rfl
  |some x=>rw[q]at a;exact(a rfl).elim
theorem Bl(kvs:List (κ×V))(k:κ)(v:V):(dr kvs k v).length<=kvs.length+1:=by
 unfold dr;split
 .rw[aE];lia
 .rw[bw,bH,vX];lia
theorem CG{kvs:List (κ×V)}{k:κ}(v:V)(h:cj kvs k=J0):dr kvs k v=kvs++[(k,v)]:=by
 unfold dr;rw[oH,h];exact J3 (by decide)
theorem fV.isSome_eq{o:Option V}{u:Option ae}(r:fV o u):o.isSome=u.isSome:=by
 cases o with
 |none=>cases u with
  |none=>rfl
  |some _=>exact(show False from r).elim
 |some _=>cases u with
  |none=>exact(show False from r).elim
  |some _=>rfl
theorem fV.getD{o:Option V}{u:Option ae}{d:V}{d':ae}(r:fV o u)(rd:RelV d d'):RelV (o.getD d) (u.getD d'):=by
 cases o with
 |none=>cases u with
  |none=>exact rd
  |some _=>exact(show False from r).elim
 |some _=>cases u with
  |none=>exact(show False from r).elim
  |some _=>exact r
theorem KV.val{kvs:List (κ×V)}{vs:List (κ×ae)}(r:KV kvs vs)(k:κ):fV (cj kvs k) (valueAt vs k):=by
 unfold KV at r
 induction r with
 |nil=>exact lE
 | @cons p q ps qs h t ih=>
  obtain⟨h1,h2⟩:=h;by_cases e:p.1=k
  .have e':q.1=k:=h1.symm.trans e;have b:valueAt (q::qs) k=TL q.2:=by simp[valueAt,tw,e']
   rw[jz e,b];exact h2
  .have e': ¬q.1=k:=fun z=>e (h1.trans z);have b:valueAt (q::qs) k=valueAt qs k:=by simp[valueAt,tw,e']
   rw[iD e,b];exact ih
theorem KV.any{kvs:List (κ×V)}{vs:List (κ×ae)}(r:KV kvs vs)(k:κ):(kvs.any fun kv=>decide (kv.1=k))=vs.any fun kv=>decide (kv.1=k):=by
 unfold KV at r
 induction r with
 |nil=>rfl
 |cons h t ih=>rw[qM,qM,ih,h.1]
theorem KV.repl{kvs:List (κ×V)}{vs:List (κ×ae)}(r:KV kvs vs)(k:κ){y:V}{u:ae}(ry:RelV y u):
  KV (kvs.map fun kv=>if kv.1=k then(kv.1,y)else kv) (vs.map fun kv=>if kv.1=k then(kv.1,u)else kv):=by
 unfold KV at r⊢
 induction r with
 |nil=>exact .nil
 | @cons p q ps qs h t ih=>
  rw[cV,cV];refine .cons ?_ ih;obtain⟨h1,h2⟩:=h;by_cases e:p.1=k
  .rw[J4 e,J4 (h1.symm.trans e)];exact⟨h1,ry⟩
  .rw[J3 e,J3 (fun z=>e (h1.trans z))];exact⟨h1,h2⟩
theorem KV.put{kvs:List (κ×V)}{vs:List (κ×ae)}(r:KV kvs vs)(k:κ){y:V}{u:ae}(ry:RelV y u):KV (dr kvs k y) (stored vs k u):=by
 unfold dr stored;rw[r.any k];by_cases e:(vs.any fun kv=>decide (kv.1=k))=J1
 .rw[J4 e,J4 e];exact r.repl k ry
 .rw[J3 e,J3 e];exact ji r ⟨rfl,ry⟩
theorem KV.length{kvs:List (κ×V)}{vs:List (κ×ae)}(r:KV kvs vs):kvs.length=vs.length:=bK.length r
end
theorem qa{P:aJ}{w:aH}{k:aP}{u:ae}(r:RelV (kV k) u):(gS P w).is k u=true:=by
 cases k with
 |inl i=>obtain⟨t,e⟩:=(show∃t,u=kG i t from r);subst e;exact RM P w i t
 |inr x=>obtain⟨t,e⟩:=(show∃t,u=ae.str x t from r);subst e;exact RN P w x t
theorem items_are{P:aJ}{w:aH}:∀{ks:List aP}{us:List ae},aX (ks.map kV) us->ItemsAre (gS P w) ks us
 | [],_,r=>by rw[tE]at r;cases r;exact .nil
 |k::ks,_,r=>by
  rw[cV]at r;cases r with
  |cons h t=>exact .cons (qa h) (items_are t)
abbrev KT(H:Hp):List (List aP×V)->List (List aP×aa×ae)->Prop:=bK fun p q=>p.1=q.1/\H q.2.1=TL (.tup (p.1.map kV))/\RelV p.2 q.2.2
theorem KT.val{H:Hp}{kvs:List (List aP×V)}{xs:List (List aP×aa×ae)}(r:KT H kvs xs)(k:List aP):fV (cj kvs k) ((atKey xs k).map (·.2)):=by
 induction r with
 |nil=>exact lE
 | @cons p q ps qs h t ih=>
  obtain⟨h1,_,h2⟩:=h;by_cases e:p.1=k
  .have e':q.1=k:=h1.symm.trans e;have b:atKey (q::qs) k=TL q.2:=by simp[atKey,tw,e']
   rw[jz e,b];exact h2
  .have e': ¬q.1=k:=fun z=>e (h1.trans z);have b:atKey (q::qs) k=atKey qs k:=by simp[atKey,tw,e']
   rw[iD e,b];exact ih
theorem KT.repl{H:Hp}{kvs:List (List aP×V)}{xs:List (List aP×aa×ae)}(r:KT H kvs xs)(k:List aP){y:V}{u:ae}(ry:RelV y u):
  KT H (kvs.map fun kv=>if kv.1=k then(kv.1,y)else kv) (xs.map (putAt k u)):=by
 induction r with
 |nil=>exact .nil
 | @cons p q ps qs h t ih=>
  rw[cV,cV];refine .cons ?_ ih;obtain⟨h1,h2,h3⟩:=h;unfold putAt;by_cases e:p.1=k
  .rw[J4 e,J4 (h1.symm.trans e)];exact⟨h1,h2,ry⟩
  .rw[J3 e,J3 (fun z=>e (h1.trans z))];exact⟨h1,h2,h3⟩
theorem KT.put{H:Hp}{kvs:List (List aP×V)}{xs:List (List aP×aa×ae)}(r:KT H kvs xs)(k:List aP){b:aa}{y:V}{u:ae}(hb:H b=TL (.tup (k.map kV)))(ry:RelV y u):
  KT H (dr kvs k y) (storedH xs k b u):=by
 have e:(kvs.any fun kv=>decide (kv.1=k))=(atKey xs k).isSome:=by
  rw[oH,(r.val k).isSome_eq,Fc]
 unfold dr storedH;rw[e];by_cases q:(atKey xs k).isSome=J1
 .rw[J4 q,J4 q];exact r.repl k ry
 .rw[J3 q,J3 q];exact ji r ⟨rfl,hb,ry⟩
theorem KT.keeps{H H':Hp}{kvs:List (List aP×V)}{xs:List (List aP×aa×ae)}(r:KT H kvs xs)(ht:∀b ys,H b=TL (.tup ys)->H' b=TL (.tup ys)):KT H' kvs xs:=
 bK.mapP r fun _ _ z=>⟨z.1,ht _ _ z.2.1,z.2.2⟩
section
variable{P:aJ}{w:aH}{H:Hp}{h:aA}{a:aa}
theorem JJ{u:HO}(ok:cz P w H h)(e:Rd H a u):dS P w H h a u:=e.ok ok
theorem pU{kvs:List (aP×V)}(ok:cz P w H h)(e:Rd H a (.dK kvs)):kvs.length<=aZ/\(a==lW)=J2/\∃vs,KV kvs vs/\h.DictOf (gS P w) a vs:=
 show dS P w H h a (.dK kvs)from JJ ok e
theorem GH{kvs:List (aP×V)}(ok:cz P w H h)(e:H a=TL (.dK kvs)):kvs.length<=aZ/\(a==lW)=J2/\∃vs,KV kvs vs/\h.DictOf (gS P w) a vs:=pU ok (.inl e)
theorem rX{ks:List aP}(ok:cz P w H h)(e:H a=TL (.tup (ks.map kV))):(vD (gS P w)).is h ks a:=by
 obtain⟨_,its,r,o,h1,h2,n,h3⟩:=(show dS P w H h a (.tup (ks.map kV))from ok a _ e);exact⟨o,its.toArray,n,h1,h2,h3,by simpa using items_are r⟩
theorem pW{kvs:List (List aP×V)}(ok:cz P w H h)(e:Rd H a (.dT kvs)):kvs.length<=aZ/\(a==lW)=J2/\
  ∃xs,KT H kvs xs/\h.DictOfH (vD (gS P w)) a xs:=by
 obtain⟨z,y,xs,r,o,es,ep,h1,h2,h3,h4,h5⟩:=(show dS P w H h a (.dT kvs)from JJ ok e);refine⟨z,y,xs,r,o,es,ep,h1,h2,h3,h4,fun x hx=>?_,h5⟩
 have all:∀{l:List (List aP×V)}{m:List (List aP×aa×ae)},KT H l m->∀x∈m,(vD (gS P w)).is h x.1 x.2.1:=by
  intro l m q
  induction q with
  |nil=>intro x hx;exact nomatch hx
  | @cons p q ps qs hq t ih=>
   intro x hx;rcases bg.mp hx with e|hx
   .subst e;exact rX ok (by rw[<-hq.1];exact hq.2.1)
   .exact ih x hx
 exact all r x hx
theorem Pp{kvs:List (List aP×V)}(ok:cz P w H h)(e:H a=TL (.dT kvs)):kvs.length<=aZ/\(a==lW)=J2/\
  ∃xs,KT H kvs xs/\h.DictOfH (vD (gS P w)) a xs:=pW ok (.inl e)
end
def fw(H:Hp)(a:aa)(y:V)(r:Option V):Prop:=
 (∃kvs k,Rd H a (.dK kvs)/\y=kV k/\r=cj kvs k)\/∃kvs k b,Rd H a (.dT kvs)/\y=.ref b/\H b=TL (.tup (k.map kV))/\r=cj kvs k
def md(H:Hp)(a:aa)(y v:V)(H':Hp):Prop:=
 (∃kvs k,H a=TL (.dK kvs)/\y=kV k/\kvs.length<aZ/\H'=ah H a (.dK (dr kvs k v)))\/
 ∃kvs k b,H a=TL (.dT kvs)/\y=.ref b/\H b=TL (.tup (k.map kV))/\kvs.length<aZ/\H'=ah H a (.dT (dr kvs k v))
theorem fw.k{H:Hp}{a:aa}{kvs:List (aP×V)}{k:aP}(e:H a=TL (.dK kvs)):fw H a (kV k) (cj kvs k):=.inl ⟨kvs,k,.inl e,rfl,rfl⟩
theorem fw.t{H:Hp}{a b:aa}{kvs:List (List aP×V)}{k:List aP}(e:H a=TL (.dT kvs))(eb:H b=TL (.tup (k.map kV))):fw H a (.ref b) (cj kvs k):=.inr ⟨kvs,k,b,.inl e,rfl,eb,rfl⟩
theorem md.k{H:Hp}{a:aa}{kvs:List (aP×V)}{k:aP}{v:V}(e:H a=TL (.dK kvs))(hl:kvs.length<aZ):md H a (kV k) v (ah H a (.dK (dr kvs k v))):=.inl ⟨kvs,k,e,rfl,hl,rfl⟩
theorem md.t{H:Hp}{a b:aa}{kvs:List (List aP×V)}{k:List aP}{v:V}(e:H a=TL (.dT kvs))(eb:H b=TL (.tup (k.map kV)))(hl:kvs.length<aZ):
  md H a (.ref b) v (ah H a (.dT (dr kvs k v))):=.inr ⟨kvs,k,b,e,rfl,eb,hl,rfl⟩
section
variable{X:Cx}{pins:List (aa×Obj)}{σ:St}{H:Hp}{s:aj}{a:aa}{y v:V}{u r:ae}{o:Option V}{A:bM}{E:ae->aj->Prop}
theorem Inv.big(I:Inv X pins σ H s):lW<s.heap.objs.size:=by
 have h:fi<s.heap.objs.size:=(I.mod.glob.keeps I.bk).lt;exact qT (by decide) h
theorem OV{Q:ae->aj->Prop}(hu:A.units+1<gz)(I:Inv X pins σ H s)(g:fw H a y (TL v))(ry:RelV y u)(h:∀w' s',Inv X pins σ H s'->RelV v w'->Q w' s'):
  az (aC X.prog X.w) A (getItem (.ref a) u) Q E s:=by
 rcases g with⟨kvs,k,e,ey,l⟩|⟨kvs,k,b,e,ey,eb,l⟩
 .subst ey;obtain⟨z,hd,vs,rel,dd⟩:=pU I.hok e;obtain⟨w',hw,rw'⟩:=fV.some_of (v:=v) (o:=valueAt vs k) (by rw[l];exact rel.val k);exact wpAny_getItem_of (qa ry) dd.mapOf hw (h w' _ (I.tok _) rw')
 .subst ey;cases(show u=cO b from ry);obtain⟨z,hd,xs,rel,dd⟩:=pW I.hok e;obtain⟨w',hw,rw'⟩:=fV.some_of (v:=v) (o:=(atKey xs k).map (·.2)) (by rw[l];exact rel.val k);obtain⟨p,hp,hp2⟩:=wy.mp hw;refine wpAny_getItem_heap (yN hu) (rX I.hok eb) dd hp ?_;rw[hp2];exact h w' _ (I.tok _) rw'
theorem OW{Q:ae->aj->Prop}(hu:A.units+1<gz)(I:Inv X pins σ H s)(g:fw H a y o)(ry:RelV y u)(h:∀s',Inv X pins σ H s'->Q (.bool o.isSome) s'):
  az (aC X.prog X.w) A (fK .In u (.ref a)) Q E s:=by
 rcases g with⟨kvs,k,e,ey,l⟩|⟨kvs,k,b,e,ey,eb,l⟩
 .subst ey;obtain⟨z,hd,vs,rel,dd⟩:=pU I.hok e;refine wpAny_in_of (qa ry) hd dd.mapOf ?_;rw[<-(rel.val k).isSome_eq,<-l];exact h _ (I.tok _)
 .subst ey;cases(show u=cO b from ry);obtain⟨z,hd,xs,rel,dd⟩:=pW I.hok e;refine wpAny_in_heap (yN hu) (rX I.hok eb) hd dd ?_;have q:=(rel.val k).isSome_eq;rw[Fc]at q;rw[<-q,<-l];exact h _ (I.tok _)
theorem OX{Q:ae->aj->Prop}(hu:A.units+1<gz)(I:Inv X pins σ H s)(g:fw H a y o)(ry:RelV y u)(h:∀s',Inv X pins σ H s'->Q (.bool (!o.isSome)) s'):
  az (aC X.prog X.w) A (fK .NotIn u (.ref a)) Q E s:=by
 rcases g with⟨kvs,k,e,ey,l⟩|⟨kvs,k,b,e,ey,eb,l⟩
 .subst ey;obtain⟨z,hd,vs,rel,dd⟩:=pU I.hok e;refine wpAny_notIn_of (qa ry) hd dd.mapOf ?_;rw[<-(rel.val k).isSome_eq,<-l];exact h _ (I.tok _)
 .subst ey;cases(show u=cO b from ry);obtain⟨z,hd,xs,rel,dd⟩:=pW I.hok e;refine wpAny_notIn_heap (yN hu) (rX I.hok eb) hd dd ?_;have q:=(rel.val k).isSome_eq;rw[Fc]at q;rw[<-q,<-l];exact h _ (I.tok _)
theorem AL{h':aA}{t':Nat}{ob:HO}(I:Inv X pins σ H s)(mu:tH (H a))(hs:me a s.heap h')(he:∃q,h'.get? a=TL q)(new:dS X.prog X.w (ah H a ob) h' a ob):
  Inv X pins σ (ah H a ob) {s with heap:=h',toks:=t'}:=
 I.write (x:=a) (e:=a) mu (.inl rfl) (fun b q hb z=>(hs.2 b hb).trans z) he new
theorem GG{P:aJ}{w:aH}{H':Hp}{h':aA}{kvs:List (aP×V)}{vs:List (aP×ae)}(z:kvs.length<=aZ)(hd:(a==lW)=J2)(rel:KV kvs vs)(dd:h'.DictOf (gS P w) a vs):
  dS P w H' h' a (.dK kvs):=⟨z,hd,vs,rel,dd⟩
theorem OZ{H':Hp}{Q:Unit->aj->Prop}(hu:A.units+1<gz)(I:Inv X pins σ H s)(g:md H a y v H')(ry:RelV y u)(rv:RelV v r)(h:∀s',Inv X pins σ H' s'->Q () s'):
  az (aC X.prog X.w) A (setItem (.ref a) u r) Q E s:=by
 rcases g with⟨kvs,k,e,ey,l,eH⟩|⟨kvs,k,b,e,ey,eb,l,eH⟩
 .subst ey eH;obtain⟨z,hd,vs,rel,dd⟩:=GH I.hok e;have hz:vs.length<=aZ:=by rw[<-rel.length];exact z
  have hl:(dr kvs k v).length<=aZ:=by have:=Bl kvs k v;lia
  refine wpAny_setItem_pairs (hsz:=hz) (qa ry) dd fun h' dd' hs=>h _ ?_;have he:∃q,h'.get? a=TL q:=let⟨q,_,_,hq,_⟩:=dd';⟨q,hq⟩;exact AL I (by rw[e];exact lE) hs he (GG hl hd (rel.put k rv) dd')
 .subst ey eH;cases(show u=cO b from ry);obtain⟨z,hd,xs,rel,dd⟩:=Pp I.hok e;have hz:xs.length<=aZ:=by rw[<-bK.length rel];exact z
  have hl:(dr kvs k v).length<=aZ:=by have:=Bl kvs k v;lia
  refine wpAny_setItem_heap (hsz:=hz) (yN hu) (rX I.hok eb) dd fun h' dd' hs=>h _ ?_;obtain⟨q,es,ep,hq,h2,h3,h4,_,h5⟩:=dd';refine AL I (by rw[e];exact lE) hs ⟨q,hq⟩ ⟨hl,hd,_,(rel.put k eb rv).keeps fun c ys ec=>?_,q,es,ep,hq,h2,h3,h4,h5⟩;rw[aO (mS ec e (fun z=>nomatch z))];exact ec
end
def EX(i:aM):Prop:=∀ov iv,DK i J2 ov iv=operate [ov,iv] (getItem ov iv)
theorem Ye{prog:aJ}{w:aH}{A:bM}{E:ae->aj->Prop}{s:aj}{env:Env}{value slice:aM}{pos:Pos}{T id:String}{Q:ae->aj->Prop}
  (hl:typeLookup (.type T) "__getitem__"=pure (TL (.builtin id)))(hs:EX slice)
  (h:az (aC prog w) A (bF value env) (fun o s₁=>az (aC prog w) A (bF slice env) (fun i s₂=>s₂.TypeIs o T/\az (aC prog w) A (getItem o i) Q E s₂) E s₁) E s):
  az (aC prog w) A (bF (.Subscript value slice pos) env) Q E s:=by
 refine Subscript_ (iE h (fun o s₁ h₁=>iE h₁ (fun i s₂ h₂=>?_) fun _ _ x=>x) fun _ _ x=>x);obtain⟨hT,h₂⟩:=h₂;unfold subscriptTail;refine ay ?_;rw[getitemInPython_of_ne hT.not_modules];refine ay (wpAny_specialOf hT hl ?_)
 have fin:az (aC prog w) A (DK slice J2 o i) (fun r s₃=>az (aC prog w) A (letTemporaryGo value o r>>=fun _=>pure r) Q E s₃) E s₂:=by
  rw[hs o i];exact wpAny_operating (iE h₂ (fun r s₃ h₃=>ay (wpAny_letTemporaryGo (aT h₃))) fun _ _ x=>x)
 first
  |exact aT (ay fin)
  |exact ay (aT (ay fin))
  |exact ay fin
theorem Ph{X:Cx}{pins:List (aa×Obj)}{σ:St}{H:Hp}{s:aj}{a:aa}{y:V}{o:Option V}(I:Inv X pins σ H s)(g:fw H a y o):s.TypeIs (.ref a) "dict":=by
 rcases g with⟨kvs,k,e,_,_⟩|⟨kvs,k,b,e,_,_,_⟩
 .obtain⟨_,_,vs,_,dd⟩:=pU I.hok e;exact dd.typeIs
 .obtain⟨_,_,xs,_,dd⟩:=pW I.hok e;exact dd.typeIs
def LX(td ty:TE):TE:=fun σ H Q=>td σ H fun x H1=>ty σ H1 fun y H2=>∃a v,x=.ref a/\fw H2 a y (TL v)/\Q v H2
def DM(ty td:TE):TE:=fun σ H Q=>ty σ H fun y H1=>td σ H1 fun x H2=>∃a o,x=.ref a/\fw H2 a y o/\Q (.bl o.isSome) H2
def DN(ty td:TE):TE:=fun σ H Q=>ty σ H fun y H1=>td σ H1 fun x H2=>∃a o,x=.ref a/\fw H2 a y o/\Q (.bl (!o.isSome)) H2
def JP(td ty tv:TE):TS:=fun D σ H=>tv σ H fun v H1=>td σ H1 fun x H2=>ty σ H2 fun y H3=>∃a H4,x=.ref a/\md H3 a y v H4/\D.nx σ H4
section
variable{X:Cx}{o i e value:aM}{pos pos' tpos:Pos}{td ty tv:TE}
theorem mW(hu:X.A.units+1<gz)(ho:PE X o td)(hi:PE X i ty)(hs:EX i):PE X (.Subscript o i pos) (LX td ty):=by
 intro pins s σ H Q I h;refine Ye PySem.F.slot_dict_getitem.lookup hs (aR (ho pins s σ H _ I h) fun u s1⟨x,H1,I1,rx,q1⟩=>aR (hi pins s1 σ H1 _ I1 q1) fun iv s2⟨y,H2,I2,ry,a,v,ex,g,q2⟩=>?_);subst ex;obtain rfl:u=cO a:=rx;exact⟨Ph I2 g,OV hu I2 g ry fun w' s3 I3 rw'=>⟨v,H2,I3,rw',q2⟩⟩
theorem Cu(hu:X.A.units+1<gz)(hi:PE X i ty)(ho:PE X o td):PC X .In i o (DM ty td):=by
 intro pins s σ H Q I h;refine aR (hi pins s σ H _ I h) fun iv s1⟨y,H1,I1,ry,q1⟩=>aR (ho pins s1 σ H1 _ I1 q1) fun u s2⟨x,H2,I2,rx,a,ov,ex,g,q2⟩=>?_;subst ex;obtain rfl:u=cO a:=rx;exact OW hu I2 g ry fun s3 I3=>⟨.bl ov.isSome,H2,I3,rfl,q2⟩
theorem Cv(hu:X.A.units+1<gz)(hi:PE X i ty)(ho:PE X o td):PC X .NotIn i o (DN ty td):=by
 intro pins s σ H Q I h;refine aR (hi pins s σ H _ I h) fun iv s1⟨y,H1,I1,ry,q1⟩=>aR (ho pins s1 σ H1 _ I1 q1) fun u s2⟨x,H2,I2,rx,a,ov,ex,g,q2⟩=>?_;subst ex;obtain rfl:u=cO a:=rx;exact OX hu I2 g ry fun s3 I3=>⟨.bl (!ov.isSome),H2,I3,rfl,q2⟩
theorem yj(hu:X.A.units+1<gz)(ho:PE X o td)(hi:PE X i ty)(hv:PE X value tv)(hs:oE value (TL (.Subscript o i pos')) pos.line X.env=pure J2):
  PS X (.Assign [.Subscript o i pos'] value pos) (JP td ty tv):=by
 intro pins s σ H D I h;refine wpAny_Assign_Subscript (aR (hv pins s σ H _ I h) fun r s1⟨v,H1,I1,rv,q1⟩=>aR (ho pins s1 σ H1 _ I1 q1) fun u s2⟨x,H2,I2,rx,q2⟩=>aR (hi pins s2 σ H2 _ I2 q2) fun iv s3⟨y,H3,I3,ry,a,H4,ex,g,q3⟩=>?_) hs;subst ex;obtain rfl:u=cO a:=rx;exact OZ hu I3 g ry rv fun s4 I4=>⟨σ,H4,I4,q3⟩
end
theorem GF{P:aJ}{w:aH}{H:Hp}(h:aA)(hb:lW<h.objs.size):dS P w H (h.push {cls:=.type "dict",data:=.dict #[]}) h.objs.size (.dK []):=
 ⟨bI _,beq_eq_false_iff_ne.mpr (br (cJ hb)),[],.nil,aA.DictOf.new h⟩
theorem Po{P:aJ}{w:aH}{H:Hp}(h:aA)(hb:lW<h.objs.size):dS P w H (h.push {cls:=.type "dict",data:=.dict #[]}) h.objs.size (.dT []):=
 ⟨bI _,beq_eq_false_iff_ne.mpr (br (cJ hb)),[],.nil,_,#[],0,dD _ rfl,⟨rfl,rfl,rfl⟩,rfl,rfl,zI⟩
def LZ:TE:=fun _ H Q=>∀p,H p=J0->Q (.ref p) (ah H p (.dK []))
def Ma:TE:=fun _ H Q=>∀p,H p=J0->Q (.ref p) (ah H p (.dT []))
section
variable{X:Cx}{pos:Pos}
theorem Jv:PE X (.Dict [] [] pos) LZ:=fun pins s σ H Q I h=>
 wpAny_Dict_empty ⟨.ref s.heap.objs.size,_,I.laid (a:=s.heap.objs.size) (o:=.dK []) (t':=s.toks) (fun _ _ q=>bV _ q) (aF _) (GF s.heap I.big),rfl,h _ (I.hok.fresh (aF _))⟩
theorem Uh:PE X (.Dict [] [] pos) Ma:=fun pins s σ H Q I h=>
 wpAny_Dict_empty ⟨.ref s.heap.objs.size,_,I.laid (a:=s.heap.objs.size) (o:=.dT []) (t':=s.toks) (fun _ _ q=>bV _ q) (aF _) (Po s.heap I.big),rfl,h _ (I.hok.fresh (aF _))⟩
end
def yI:List (TE×TE)->St->Hp->(List (V×V)->Hp->Prop)->Prop
 | [],_,H,Q=>Q [] H
 |(tk,tv)::r,σ,H,Q=>tk σ H fun x H1=>tv σ H1 fun y H2=>yI r σ H2 fun ps H3=>Q ((x,y)::ps) H3
abbrev VV:List (V×V)->List (ae×ae)->Prop:=bK fun p q=>RelV p.1 q.1/\RelV p.2 q.2
def wz(X:Cx)(pos:Pos)(keys:List (Option aM))(values:List aM)(trs:List (TE×TE)):Prop:=
 ∀(pins:List (aa×Obj))(s:aj)(σ:St)(H:Hp)(Q:List (V×V)->Hp->Prop),Inv X pins σ H s->yI trs σ H Q->
  az (aC X.prog X.w) X.A (evalPairs (pairTrees keys values X.env pos)) (fun vs s'=>∃ps H',Inv X pins σ H' s'/\VV ps vs/\Q ps H') X.xe s
theorem Ux{X:Cx}{pos:Pos}:wz X pos [] [] []:=fun pins s σ H Q I h=>pairTrees_nil_walk ⟨[],H,I,.nil,h⟩
theorem Uw{X:Cx}{pos:Pos}{k v:aM}{ks:List (Option aM)}{vs:List aM}{tk tv:TE}{trs:List (TE×TE)}(hk:PE X k tk)(hv:PE X v tv)(hr:wz X pos ks vs trs):
  wz X pos (TL k::ks) (v::vs) ((tk,tv)::trs):=fun pins s σ H Q I h=>
 pairTrees_cons_walk (aR (hk pins s σ H _ I h) fun u s1⟨x,H1,I1,rx,q1⟩=>aR (hv pins s1 σ H1 _ I1 q1) fun w2 s2⟨y,H2,I2,ry,q2⟩=>
  aR (hr pins s2 σ H2 _ I2 q2) fun ws s3⟨ps,H3,I3,rel,q3⟩=>⟨(x,y)::ps,H3,I3,.cons ⟨rx,ry⟩ rel,q3⟩)
noncomputable def sr(kvs more:List (aP×V)):List (aP×V):=more.foldl (fun acc kv=>dr acc kv.1 kv.2) kvs
theorem KV.merge:∀{more:List (aP×V)}{rs:List (aP×ae)}{kvs:List (aP×V)}{vs:List (aP×ae)},KV more rs->KV kvs vs->KV (sr kvs more) (merged vs rs):=by
 intro more rs kvs vs r;unfold KV at r
 induction r generalizing kvs vs with
 |nil=>intro q;exact q
 | @cons p q ps qs h t ih=>
  intro r0
  have e:KV (dr kvs p.1 p.2) (stored vs q.1 q.2):=by
   have:=r0.put p.1 h.2;rw[<-h.1];exact this
  exact ih e
theorem Ic:∀(more kvs:List (aP×V)),(sr kvs more).length<=kvs.length+more.length
 | [],kvs=>by show kvs.length<=kvs.length+0;lia
 |p::r,kvs=>by
  have h1:=Ic r (dr kvs p.1 p.2);have h2:=Bl kvs p.1 p.2;show(sr (dr kvs p.1 p.2) r).length<=_;rw[bH];lia
theorem Gh{P:aJ}{w:aH}:∀{kvs:List (aP×V)}{ws:List (ae×ae)},VV (kvs.map fun kv=>(kV kv.1,kv.2)) ws->∃rs,Carries (gS P w) ws rs/\KV kvs rs
 | [],_,r=>by rw[tE]at r;cases r;exact⟨[],lE,.nil⟩
 |p::kvs,_,r=>by
  rw[cV]at r;cases r with
  | @cons a b as bs h t=>
   obtain⟨rs,c,q⟩:=Gh (P:=P) (w:=w) t;obtain⟨b1,b2⟩:=b;exact⟨(p.1,b2)::rs,⟨qa h.1,rfl,c⟩,.cons ⟨rfl,h.2⟩ q⟩
def Yj(trs:List (TE×TE)):TE:=fun σ H Q=>∀p,H p=J0->yI trs σ (ah H p (.dK [])) fun ps H2=>H2 p=TL (.dK [])/\∃kvs:List (aP×V),ps=kvs.map (fun kv=>(kV kv.1,kv.2))/\kvs.length<=15/\Q (.ref p) (ah H2 p (.dK (sr [] kvs)))
theorem Ug{X:Cx}{pos:Pos}{keys:List (Option aM)}{values:List aM}{trs:List (TE×TE)}(h:wz X pos keys values trs)(hall:keys.all (·.isSome)=J1)(hl:keys.length=values.length)(h0:keys≠[])
  (h15:keys.length<=15):PE X (.Dict keys values pos) (Yj trs):=by
 intro pins s σ H Q I q;have hn:=I.hok.fresh (aF s.heap.objs.size);have I1:=I.laid (a:=s.heap.objs.size) (o:=.dK []) (h':=s.heap.push {cls:=.type "dict",data:=.dict #[]}) (t':=s.toks) (fun _ _ q=>bV _ q) (aF _) (GF s.heap I.big);refine wpAny_Dict_walk (knd:=gS X.prog X.w) hall hl h0 h15 (aR (h pins _ σ _ _ I1 (q _ hn)) fun ws s2⟨ps,H2,I2,rel,e,kvs,ep,lk,q2⟩=>?_);subst ep;obtain⟨rs,c,rk⟩:=Gh (P:=X.prog) (w:=X.w) rel;obtain⟨z,hd,vs0,r0,dd⟩:=GH I2.hok e;cases r0;refine⟨rs,c,dd,fun h' dd' hs=>⟨.ref s.heap.objs.size,_,?_,rfl,q2⟩⟩
 have hz:(sr [] kvs).length<=aZ:=by
  have h1:=Ic kvs [];rw[vX]at h1;rw[sI];lia
 have he:∃q,h'.get? s.heap.objs.size=TL q:=let⟨q,_,_,hq,_⟩:=dd';⟨q,hq⟩;exact AL I2 (by rw[e];exact lE) hs he (GG hz hd (rk.merge .nil) dd')
structure M1(X:Cx)(o:aM)(m:Str)(apos:Pos)(e:aM)(cpos:Pos):Prop where
 base:tX o m X.env (bF o X.env)=bF o X.env
 few:((eV cpos (bQ [e] X.env)).all (fun x=>!x.1)&&(backToKw cpos (uA [] X.env)).all (fun x=>x.1.isSome)
  &&decide (([e]:List aM).length+([]:List Keyword).length+(if([]:List Keyword).isEmpty then 0 else 1)<30))=J1
 line:(apos.endLine==cpos.line)=J1
 trees:eV cpos (bQ [e] X.env)=[(J2,bF e X.env)]
def zt(H:Hp)(a:aa):Prop:=(∃kvs,Rd H a (.dK kvs))\/∃kvs,Rd H a (.dT kvs)
theorem Qt{X:Cx}{pins:List (aa×Obj)}{σ:St}{H:Hp}{s:aj}{a:aa}(I:Inv X pins σ H s)(d:zt H a):
  s.TypeIs (.ref a) "dict"/\(∀b,cO a=.ref b->∃ob,s.heap.get? b=TL ob/\ob.dict=J0)/\(a==lW)=false:=by
 rcases d with⟨kvs,e⟩|⟨kvs,e⟩
 .obtain⟨_,hd,vs,_,dd⟩:=pU I.hok e;refine⟨dd.typeIs,fun b q=>?_,hd⟩;cases q;obtain⟨ob,_,_,h1,h2,_⟩:=dd;exact⟨ob,h1,h2.2.1⟩
 .obtain⟨_,hd,xs,_,dd⟩:=pW I.hok e;refine⟨dd.typeIs,fun b q=>?_,hd⟩;cases q;obtain⟨ob,_,_,h1,h2,_⟩:=dd;exact⟨ob,h1,h2.2.1⟩
section
variable{X:Cx}{pins:List (aa×Obj)}{σ:St}{H:Hp}{s:aj}{a:aa}{y d:V}{u r:ae}{o:Option V}{A:bM}{E:ae->aj->Prop}
theorem OU{Q:ae->aj->Prop}(hu:A.units+1<gz)(I:Inv X pins σ H s)(g:fw H a y o)(ry:RelV y u)(h:∀w' s',Inv X pins σ H s'->RelV (o.getD .non) w'->Q w' s'):
  az (aC X.prog X.w) A (call (.builtin "dict.get") [.ref a,u]) Q E s:=by
 rcases g with⟨kvs,k,e,ey,l⟩|⟨kvs,k,b,e,ey,eb,l⟩
 .subst ey;obtain⟨z,hd,vs,rel,dd⟩:=pU I.hok e;refine call_meetsIn Ff dd.typeIs ND (NC _ _) (meets_dict_get (gS X.prog X.w) a (qa ry) hd) ⟨_,dd.mapOf,h _ _ (I.tok _) ?_⟩;rw[l];exact(rel.val k).getD rfl
 .subst ey;cases(show u=cO b from ry);obtain⟨z,hd,xs,rel,dd⟩:=pW I.hok e;refine call_meetsIn Ff dd.typeIs ND (NC _ _) (meetsH_dict_get (vD (gS X.prog X.w)) a b hd) ⟨yN hu,k,xs,rX I.hok eb,dd,h _ _ (I.tok _) ?_⟩;rw[l];exact(rel.val k).getD rfl
end
def LY(td ty:TE):TE:=fun σ H Q=>td σ H fun x H1=>∃a,x=.ref a/\zt H1 a/\ty σ H1 fun y H2=>∃o,fw H2 a y o/\Q (o.getD .non) H2
section
variable{X:Cx}{o e f:aM}{apos cpos:Pos}{td ty tx:TE}
theorem Ue(hu:X.A.units+1<gz)(ho:PE X o td)(he:PE X e ty)(m:M1 X o "get" apos e cpos):PE X (.Call (.Attribute o "get" apos) [e] [] cpos) (LY td ty):=by
 intro pins s σ H Q I h;refine wpAny_Call_method m.base m.few m.line PySem.F.plainAttrs_dict Ff PySem.F.type_dict_get (aR (ho pins s σ H _ I h) fun u s1⟨x,H1,I1,rx,a,ex,d,q1⟩=>?_);subst ex;obtain rfl:u=cO a:=rx;obtain⟨t1,t2,_⟩:=Qt I1 d;refine⟨t1,t2,?_⟩;rw[m.trees];refine Et rfl (Eu (zg (aR (he pins s1 σ H1 _ I1 q1) fun iv s2⟨y,H2,I2,ry,ov,g,q2⟩=>zh ?_)));exact OU hu I2 g ry fun w' s3 I3 rw'=>⟨_,H2,I3,rw',q2⟩
end
section
variable{X:Cx}{pins:List (aa×Obj)}{σ:St}{H:Hp}{s:aj}{h':aA}
theorem Inv.turnedNew{t':Nat}{ch:List aa}{T:aa}{ob:HO}(I:Inv X pins σ H s)(k:∀b o,b∉ch->s.heap.get? b=TL o->h'.get? b=TL o)(hf:∀b∈ch,iu X pins H b)(hT:s.heap.objs.size<=T)
  (new:dS X.prog X.w (ah H T ob) h' T ob):Inv X pins σ (ah H T ob) {s with heap:=h',toks:=t'}:=by
 have hn:H T=none:=I.hok.fresh hT
 have nit:∀b u,H b=TL u->b∉ch:=fun b u e z=>by
  have q:=(hf b z).1;rw[q]at e;cases e
 refine I.step (g':=s.gens) (d':=s.drawn) (ch:=ch) (fun b hb=>⟨(hf b hb).2.2.2.1,(hf b hb).2.1,(hf b hb).2.2.2.2.1,(hf b hb).2.2.2.2.2⟩) (fun b o _ _ hc e _=>k b o hc e) (fun b o _ _ hc e _=>⟨o.slots,k b o hc e⟩)
  (fun b o _ e n=>?_) (fun b o hc e=>⟨o,k b o hc e⟩) (fun b xs e=>?_) (fun b o u e=>?_) (fun b ps e=>⟨#[],?_⟩) (fun m hm=>?_) (fun b u e=>?_) I.bare
 .rw[aO (cJ (cR (bR e) hT))];exact n
 .rw[aO (dq e hn)];exact e
 .rw[aO (dq e hn)];exact e
 .rw[aO (dq e hn),e];simp
 .obtain⟨o,es,ep,ho,r⟩:=hm;exact⟨o,es,ep,k _ o (fun z=>(hf _ z).2.1 rfl) ho,r⟩
 .by_cases hb:b=T
  .subst hb;rw[ax]at e;cases e;exact new
  .rw[aO hb]at e;refine(I.hok b u e).stay (fun c v hc q=>k c v ?_ q) (fun c q=>by rw[aO (dq q hn)];exact q) fun c xs q=>by rw[aO (dq q hn)];exact q
   rcases hc with z|z
   .rw[z];exact nit b u e
   .exact nit c _ z
end
def zu(K:aw)(a:aa):It:=
 ⟨fun i H=>∃(xs:List V)(x:V),ak K H a xs/\xs[i]?=TL x,fun i H v H'=>∃T x,v=.ref T/\H T=J0/\H'=ah H T (.tup [.int (i:Nat),x])/\∀xs,ak K H a xs->xs[i]?=TL x,fun i H=>∃xs:List V,ak K H a xs/\xs.length<=i⟩
theorem Yt{P:aJ}{w:aH}{K:aw}{elts:List aM}{kk:Nat}{tpos:Pos}(a e it:aa):
  wL P w K (.Tuple elts kk tpos) (zu K a) [e,it] e (fun i h=>(∃old,IsEnum h e it ((i:Nat):Int) old)/\h.IsListIter it a i/\e≠it) where
 mem:=by simp
 obj:=fun i h st b hb=>by
  obtain⟨⟨old,he⟩,⟨o,ho,hc,hd⟩,_⟩:=st;have e':b=e\/b=it:=by simpa using hb
  rcases e' with z|z
  .rw[z];exact⟨_,he,fun v q=>nomatch q⟩
  .rw[z];exact⟨o,ho,fun v q=>by rw[hd]at q;cases q⟩
 keep:=fun i h h' st k=>let⟨⟨old,he⟩,hi,hne⟩:=st;⟨⟨old,k e (by simp) _ he⟩,hi.at fun o q=>k it (by simp) o q,hne⟩
 item:=by
  intro X hP hw hK hc i pins s σ H E I hf st hg;subst hP hw hK;obtain⟨⟨old,he⟩,hit,hne⟩:=st;obtain⟨xs,x,hq,hx⟩:=hg;obtain⟨its,rv,p,hz⟩:=I.list hq;obtain⟨u,hu,ru⟩:=rv.get hx;have hel:e<s.heap.objs.size:=bR he;have hil:it<s.heap.objs.size:=by obtain⟨_,q,_⟩:=hit;exact bR q
  refine wpAny_pyNext_enum_item he hit p.isList (x:=u) (by simpa using hu) hne fun h' ho hit' hT hsz hk=>?_;refine⟨_,rfl,wpAny_letOwnedTupleGo_enum (s:={s with heap:=h',toks:=s.toks+1}) ho fun h'' he' sb=>?_⟩;have hT2:h''.get? s.heap.objs.size=TL {cls:=.type "tuple",data:=.seq #[.int i s.toks,u]}:=(sb.2 _ (qV hel)).trans hT
  have new:dS X.prog X.w (ah H s.heap.objs.size (.tup [.int (i:Nat),x])) h'' s.heap.objs.size (.tup [.int (i:Nat),x]):=
   ⟨by show 2<=aZ;decide,[.int i s.toks,u],.cons ⟨_,rfl⟩ (.cons ru .nil),⟨_,hT2,rfl,_,rfl⟩⟩
  have I1:Inv X pins σ (ah H s.heap.objs.size (.tup [.int (i:Nat),x])) {s with heap:=h'',toks:=s.toks+1}:=
   I.turnedNew (ch:=[e,it]) (fun b ob hb q=>(sb.2 b (fun z=>hb (by simp[z]))).trans (hk b ob (fun z=>hb (by simp[z])) (fun z=>hb (by simp[z])) q)) hf (aF _) new
  refine⟨.ref s.heap.objs.size,_,I1,rfl,⟨_,x,rfl,I.hok.fresh (aF _),rfl,fun ys hy=>by rw[I.list_inj hy hq];exact hx⟩,⟨⟨u,?_⟩,hit'.at fun o q=>(sb.2 it (br hne)).trans q,hne⟩,fun b hb=>?_⟩
  .have e1:((i+1:Nat):Int)=(i:Int)+1:=by lia
   rw[e1];exact he'
  .have hb':b<s.heap.objs.size:=by
    have e':b=e\/b=it:=by simpa using hb
    rcases e' with z|z
    .rw[z];exact hel
    .rw[z];exact hil
   rw[aO (cJ hb')];exact(hf b hb).1
 done:=by
  intro X hP hw hK hc i pins s σ H E I hf st hg;subst hP hw hK;obtain⟨⟨old,he⟩,hit,hne⟩:=st;obtain⟨xs,hq,hx⟩:=hg;obtain⟨its,rv,p,hz⟩:=I.list hq;obtain⟨f0,f1,f2,f3,f4,f5⟩:=hf it (by simp);have hl:=rv.length;exact wpAny_pyNext_enum_end (I.ok.hd hc) he hit p.isList (by simp;lia) fun h' eb=>⟨rfl,I.turned (t':=s.toks) (fun b o hb q=>eb b o hb q) f0 f1 f3 f4 f5⟩
 self:=fun A i s Q E st h=>let⟨⟨_,he⟩,_⟩:=st;wpAny_pyIter_enum he h
def Hv(K:aw)(ta:TA):TI:=fun σ H R=>ta σ H fun vs H1=>∃a xs,vs=[.ref a]/\ak K H1 a xs/\R (zu K a) H1
theorem oy{X:Cx}{e:aM}{ta:TA}{p pos tpos:Pos}{elts:List aM}{kk:Nat}(hg:Gl X "enumerate")(hm:X.mg "enumerate"=J0)(ha:PA X [e] ta)(hs:autoParam (bQ [e] X.env=[(J2,bF e X.env)]) J7):
  PI X (.Tuple elts kk tpos) (.Call (.Name "enumerate" p) [e] [] pos) (Hv X.K ta):=by
 intro pins s σ H R I h;refine Call_ (rY I hg hm boot_enumerate (zY (aR (ha pos pins s σ H _ I h) fun us s1⟨vs,H1,I1,r1,q1⟩=>?_) hs rfl));obtain⟨a,xs,ex,hq,q⟩:=q1;subst ex;cases r1 with
 |cons r rr=>
  cases rr;cases r;obtain⟨its,rv,p',hz⟩:=I1.list hq;refine call_enumerate_list p'.isList fun h' he hit hsz hk=>wpAny_pyIter_enum he ?_;have I2:Inv X pins σ H1 {s1 with heap:=h'}:=I1.kept (t':=s1.toks) hk;refine⟨s1.heap.objs.size+1,[s1.heap.objs.size+1,s1.heap.objs.size],_,_,H1,rfl,I2,Yt a (s1.heap.objs.size+1) s1.heap.objs.size,⟨⟨.none,he⟩,hit,Nat.succ_ne_self _⟩,fun b hb=>?_,q⟩;have e':b=s1.heap.objs.size+1\/b=s1.heap.objs.size:=by simpa using hb
  have hle:s1.heap.objs.size<=b:=by
   rcases e' with z|z
   .rw[z];exact Nat.le_add_right _ _
   .rw[z];exact aF _
  exact I1.fpOk hle (I1.hok.fresh hle)
end L2
section
end
section
end
namespace L2
open PySem PySem.Spec PyProof.Rows
abbrev aW:jA:=fun _ _ _ _ _ _=>False
abbrev E0:XK:=fun _ _ _=>False
theorem bB{X:Cx}:gJ aW X E0:=fun _ _ _ _ _ _ _ h=>h.elim
structure km(K:aw)(x qual:Str)(st:aI)(f:aa)(fd:kn):Prop where
 ex:∃(oc:ae)(od:Option aa)(kV doc pm:ae)(an:Option aa)(cdv ct:ae)(osl:Array (Option ae)),
  fd=rj x qual (rP st) (jq st) (aN st) .none kV doc pm an cdv ct/\K.lookup f=TL ⟨oc,od,.func fd,osl⟩/\Fi K cdv qual=J1
 kp:pH K (.ref f)=J1
section
variable{P:aJ}{w:aH}{K:aw}{mg:Str->Option ae}{base:aA}
theorem km.ok{x qual:Str}{st:aI}{f:aa}{fd:kn}{N ps:List Str}{k:Nat}{sp:Sp}(F:km K x qual st f fd)(S:aV N ps (aN st))(len:∀vs H Q E,sp vs H Q E->vs.length=ps.length)
  (hbody:∀(cdv:ae)(A:bM)(outer:List Env)(s:aj)(H:Hp)(vs:List V)(Q:VK)(E:XK),cA k (A.deeper (iS qual (aN st) s.heap.objs.size f cdv))->sp vs H Q E->
   ∃t,fA (iQ aW P w K mg base N qual (aN st) f cdv A outer s H E).nox (jq st) t/\t {nx:=fun _ H'=>Q .non H',rt:=Q} (start N vs) H):gi P w K mg base aW (k+1) f fd ps sp:=by
 obtain⟨oc,od,kV,doc,pm,an,cdv,ct,osl,rfl,lk,hcd⟩:=F.ex;refine AU lk hcd S len fun A outer s H vs Q E hr hsp=>?_;obtain⟨t,h,q⟩:=hbody cdv A outer s H vs Q E hr hsp;exact⟨t,h.nox,q⟩
theorem km.binds{x qual:Str}{st:aI}{f:aa}{fd:kn}{ps:List Str}(F:km K x qual st f fd)
  (h:∀(kV doc pm:ae)(an:Option aa)(cdv ct:ae)(us:List ae),us.length=ps.length->bindArgs (rj x qual (rP st) (jq st) (aN st) .none kV doc pm an cdv ct) ⟨us,[]⟩=pure (ps.zip us)):Binds K fd ps []:=by
 obtain⟨oc,od,kV,doc,pm,an,cdv,ct,osl,rfl,lk,hcd⟩:=F.ex;exact .all (h kV doc pm an cdv ct)
theorem PX{x qual:Str}{st:aI}{f:aa}{oc:ae}{od an:Option aa}{osl:Array (Option ae)}{kV doc pm cdv ct:ae}(l:K.lookup f=TL ⟨oc,od,.func (rj x qual (rP st) (jq st) (aN st) .none kV doc pm an cdv ct),osl⟩)
  (c:Fi K cdv qual=J1)(k:pH K (.ref f)=J1):km K x qual st f (rj x qual (rP st) (jq st) (aN st) .none kV doc pm an cdv ct):=⟨⟨oc,od,kV,doc,pm,an,cdv,ct,osl,rfl,l,c⟩,k⟩
end
theorem mL{A:bM}{k:Nat}(hr:cA k A):A.units+1<gz:=tL (Nat.add_le_add_left (by decide:1<=64) _) hr.units
section
variable{X:Cx}
theorem pv(i:Nat){x:Str}{pos:Pos}(hN:autoParam (X.N[i]?=TL x) J7)(hv:rB X.env.scope x:=by k_is)(hd:autoParam ((x==("__debug__":Str))=false) J9)
  (hcd:autoParam ((x==("__classdict__":Str))=false) J9):PE X (.Name x pos) (kf i):=Uq hN hv hd hcd
end
def bh(H H':Hp):Prop:=∀b o,H b=TL o->H' b=TL o
theorem bh.refl(H:Hp):bh H H:=fun _ _ h=>h
theorem bh.trans{H H1 H2:Hp}(a:bh H H1)(b:bh H1 H2):bh H H2:=fun c o h=>b c o (a c o h)
theorem bh.free{H H':Hp}(e:bh H H'){l:aa}(h:H' l=Option.none):H l=Option.none:=by
 cases q:H l with
 |none=>rfl
 |some o=>
  rw[e l o q]at h;cases h
theorem bh.seq{K:aw}{H H':Hp}{a:aa}{xs:List V}(e:bh H H')(h:ak K H a xs):ak K H' a xs:=by
 rcases h with(h|⟨o,h⟩)|h
 .exact .inl (.inl (e _ _ h))
 .exact .inl (.inr ⟨o,e _ _ h⟩)
 .exact .inr h
section
variable{κ:Type} [DecidableEq κ]
theorem Ec{kvs:List (κ×V)}{k:κ}(h:cj kvs k=J0): ¬k∈kvs.map (·.1):=by
 intro m;obtain⟨p,hp,e⟩:=bS.mp m;have q:(kvs.any fun kv=>decide (kv.1=k))=true:=oY.mpr ⟨p,hp,dT e⟩;rw[oH,h]at q;exact J5 q (by simp)
theorem YE{kvs:List (κ×V)}{k:κ}{v:V}(h:cj kvs k=TL v):k∈kvs.map (·.1):=by
 have q:(kvs.any fun kv=>decide (kv.1=k))=true:=by
  rw[oH,h]
  all_goals rfl
 obtain⟨p,hp,e⟩:=oY.mp q;exact bS.mpr ⟨p,hp,of_decide_eq_true e⟩
theorem II:∀{l:List κ}{k:κ},l.Nodup-> ¬k∈l->(l++[k]).Nodup
 | [],k,_,_=>by simp
 |a::r,k,h,hk=>by
  obtain⟨h1,h2⟩:=jG.mp h;show(a::(r++[k])).Nodup;refine jG.mpr ⟨fun m=>?_,II h2 fun m=>hk (bg.mpr (lz m))⟩;rcases cn.mp m with q|q
  .exact h1 q
  .exact hk (bg.mpr (Or.inl (cE.mp q).symm))
theorem RP{kvs:List (κ×V)}{k:κ}(v:V)(hn:(kvs.map (·.1)).Nodup)(h:cj kvs k=J0):((dr kvs k v).map (·.1)).Nodup:=by
 rw[CG v h,cx];exact II hn (Ec h)
end
end L2
namespace L2
open PySem PySem.Spec PyProof.Rows
open PySem.W (hideAll hideAll_get hideAll_none of_hideAll funFrames_hide excIn)
section
variable{P:aJ}{w:aH}
theorem dS.isThere{H:Hp}{h:aA}{a:aa}{o:HO}(x:dS P w H h a o):∃u,h.get? a=TL u:=by
 cases o with
 |lst xs=>obtain⟨_,_,_,_,e⟩:=x;exact⟨_,e⟩
 |tup xs=>obtain⟨_,_,_,ob,e,_⟩:=x;exact⟨_,e⟩
 |dK kvs=>obtain⟨_,_,_,_,o,_,_,e,_⟩:=x;exact⟨_,e⟩
 |dT kvs=>obtain⟨_,_,_,_,o,_,_,e,_⟩:=x;exact⟨_,e⟩
 |set S n=>obtain⟨o,_,_,_,e,_⟩:=x;exact⟨_,e⟩
 |ins C dx fs=>obtain⟨_,_,_,e,_⟩:=x;exact⟨_,e⟩
 |own y=>exact x
 |xd fs=>obtain⟨_,⟨_,_,_,e,_⟩,_⟩:=x;exact⟨_,e⟩
 |rng lo hi=>obtain⟨_,_,_,e⟩:=x;exact⟨_,e⟩
 |frz ob u=>obtain⟨e,_⟩:=x;exact⟨_,e⟩
 |tbl ps=>exact⟨_,show h.get? a=TL _ from x⟩
 |met f y=>exact⟨_,show h.get? a=TL _ from x⟩
 |ext φ=>obtain⟨_,e,_⟩:=x;exact e
theorem cz.untracked{H:Hp}{h:aA}{a:aa}(x:cz P w H h)(e:h.get? a=J0):H a=none:=by
 cases q:H a with
 |none=>rfl
 |some o=>
  obtain⟨u,z⟩:=(x a o q).isThere;rw[e]at z;cases z
structure MW(C:aa)(h₀:aA)(H:Hp)(h:aA)(a T:aa):Prop where
 ex:∃oe vs a0,h.get? a=TL oe/\(oe.cls=.ref C/\vs[0]?=TL a0)/\oe.data=.fields vs/\vs[1]?=TL (.ref T)
 tb:∃oT ts,h.get? T=TL oT/\oT.data=.fields ts/\ts[3]?=TL .none
 ne:T≠a
 na:h₀.get? a=J0
 nT:h₀.get? T=J0
 fa:H a=J0
 fT:H T=J0
def dz(P:aJ)(w:aH)(C:aa):jA:=fun outer H s E e s'=>
 ∃a T H',e=.ref a/\s'.os=s.os/\nq s'.gens/\Un (cq outer) [] H H' s.heap s'.heap/\cz P w H' s'.heap/\MW C s.heap H' s'.heap a T/\E (.ref C) J0 H'
theorem Bf{fs hid:List aa}{H H':Hp}{h h1 h2:aA}(u:Un fs [] H H' h h1)(hok:cz P w H' h1)(hh:∀b∈hid,b∈fs\/(h.get? b=J0/\H' b=J0))
  (hfs:∀b∈fs,H' b=J0/\∃o,h1.get? b=TL o/\∀vs,o.data≠.fields vs)(st:(gQ h1 hid).StaysIn h2)(up:h1.UpToSlots h2):Un fs [] H H' h h2/\cz P w H' h2:=by
 have kp:∀b o,b∉hid->h1.get? b=TL o->h2.get? b=TL o:=fun b o nb e=>st b o (uy hid e nb)
 have sl:∀b o,b∈fs->h1.get? b=TL o->∃z,h2.get? b=TL {o with slots:=z}:=fun b o hb e=>by
  obtain⟨_,o',e',hn⟩:=hfs b hb;rw[e]at e';cases e';exact up b o e hn
 have nh:∀b o,h.get? b=TL o->b∉fs->b∉hid:=fun b o e nb hb=>by
  rcases hh b hb with z|⟨z,_⟩
  .exact nb z
  .rw[e]at z;cases z
 refine⟨⟨fun b o q n hb hx=>kp b o (nh b o q hb) (u.keep b o q n hb hx),fun b o q n hb hx=>?_,u.free,fun b o q hx=>?_,u.tups,u.frzs,u.tbls⟩,fun b ob e=>(hok b ob e).stay (fun c v hc q=>kp c v (fun z=>?_) q) (fun _ q=>q) fun _ _ q=>q⟩
 .obtain⟨z,e⟩:=u.slot b o q n hb hx;obtain⟨z',e'⟩:=sl b _ hb e;exact⟨z',e'⟩
 .obtain⟨o',e⟩:=u.there b o q hx;by_cases hb:b∈fs
  .obtain⟨z',e'⟩:=sl b _ hb e;exact⟨_,e'⟩
  .exact⟨o',kp b o' (nh b o q hb) e⟩
 .have tr:∃k,H' c=TL k:=by
   rcases hc with rfl|hc
   .exact⟨_,e⟩
   .exact⟨_,hc⟩
  obtain⟨k,tr⟩:=tr;rcases hh c z with y|⟨_,y⟩
  .rw[(hfs c y).1]at tr;cases tr
  .rw[y]at tr;cases tr
end
section
variable{X:Cx}{pins:List (aa×Obj)}{σ:St}{H H':Hp}{s:aj}{C:aa}{E:XK}
theorem Mw{h':aA}(I:Inv X pins σ H s)(hex:X.ex=[])(u:Un (cq X.stack) [] H H' s.heap h'):Un X.fs [] X.H_0 H' X.s_0.heap h':=by
 have nex:∀b:aa,b∉X.ex:=fun b z=>by rw[hex]at z;cases z
 have nl:∀b o,X.s_0.heap.get? b=TL o->b∉X.fs->b∉cq X.stack:=fun b o e nb z=>by
  rcases bg.mp (I.stkSub b z)with y|y
  .exact J5 (bR e) (by rw[y];exact Nat.not_lt.mpr I.ok.above)
  .exact nb y
 refine⟨fun b o q n hb _=>?_,fun b o q n hb _=>?_,fun b o q n _=>?_,fun b o q _=>?_,fun b xs q=>u.tups b xs (I.base.tups b xs q),fun b o v q=>u.frzs b o v (I.base.frzs b o v q),fun b ps q=>?_⟩
 .exact u.keep b o (I.base.keep b o q n hb (nex b)) (I.base.free b o q n (nex b)) (nl b o q hb) (by simp)
 .obtain⟨z,e⟩:=I.base.slot b o q n hb (nex b);obtain⟨z',e'⟩:=u.any e (I.base.free b o q n (nex b)) (by simp);exact⟨z',e'⟩
 .obtain⟨o',e⟩:=I.base.there b o q (nex b);exact u.free b o' e (I.base.free b o q n (nex b)) (by simp)
 .obtain⟨o',e⟩:=I.base.there b o q (nex b);exact u.there b o' e (by simp)
 .obtain⟨m1,e1⟩:=I.base.tbls b ps q;obtain⟨m2,e2⟩:=u.tbls b _ e1;exact⟨m1++m2,by rw[e2,Array.append_assoc]⟩
theorem qe(I:Inv X pins σ H s)(hex:X.ex=[]){a:aa}(e:s.heap.get? a=J0):X.s_0.heap.get? a=none:=by
 cases q:X.s_0.heap.get? a with
 |none=>rfl
 |some o=>
  obtain⟨o',z⟩:=I.base.there a o q (by rw[hex];simp);rw[e]at z;cases z
theorem kd(I:Inv X pins σ H s):∀b∈cq X.stack,H b=J0/\∃o,s.heap.get? b=TL o/\∀vs,o.data≠.fields vs:=fun b hb=>⟨I.stkFree b hb,(I.stack.mem hb).2⟩
theorem xC{hid fs:List aa}{h1 h2:aA}{a T:aa}{oT:Obj}{ts:Array ae}(hB:(gQ h1 hid).get? T=J0)(hT:h2.get? T=TL oT)(hd:oT.data=.fields ts)
  (hfs:∀b∈fs,∃o,h1.get? b=TL o/\∀vs,o.data≠.fields vs)(up:h1.UpToSlots h2):T∉fs/\(T∈hid\/h1.get? T=J0):=by
 refine⟨fun z=>?_,?_⟩
 .obtain⟨o,e,hn⟩:=hfs T z;obtain⟨sl,e'⟩:=up T o e hn;rw[hT]at e';have e':=dN e';rw[e']at hd;exact hn ts hd
 .by_cases z:T∈hid
  .exact .inl z
  .refine .inr ?_;cases q:h1.get? T with
   |none=>rfl
   |some o=>rw[uy hid q z]at hB;cases hB
theorem QR{F:ae->aj->Prop}{e:ae}{s':aj}(hex:X.ex=[])(hst:X.stack=X.env::X.outer)(hf:X.env.frame=TL X.env.locals)(I:Inv X pins σ H s)(hC:dz X.prog X.w C X.stack H s E e s'):
  az (aC X.prog X.w) X.A (leaving X.env e) (fun _ s''=>dz X.prog X.w C X.outer X.H_0 X.s_0 E e s'') F s':=by
 obtain⟨a,T,H',rfl,os,bare,u,hok,fl,hE⟩:=hC;have I':Inv X pins σ H' s':=I.call' os u hok bare (fun b z=>by cases z);obtain⟨oe,vs,a0,he,hc,hd,h1⟩:=fl.ex;obtain⟨oT,ts,hT,hdT,h3⟩:=fl.tb
 have hfr:s'.heap.FunFrames (gQ s'.heap (cq X.stack++[a,T])) (X.env::X.outer):=by
  rw[<-hst];exact rS I'.stack fun env he b hb=>cW _ (lg.mpr ⟨env,he,hb⟩)
 refine wpAny_leaves_onW (base:=gQ s'.heap (cq X.stack++[a,T])) (outer:=X.outer) (L:=X.env.locals) (cls:=.ref C) (a0:=a0) (by rw[I'.ok.frames,hst]) hf
  ⟨fun b o q=>qh _ q,lM _ (by simp),hfr,oe,vs,T,oT,ts,he,hc,hd,h1,lM _ (by simp),fl.ne,hT,hdT,h3⟩ fun h' x1 x2=>?_
 obtain⟨y1,y2,y3,oe',vs',T',oT',ts',z1,z2,z3,z4,z5,z6,z7,z8,z9⟩:=x1
 have hhid:∀b∈cq X.stack++[a,T],b∈cq X.stack\/(s.heap.get? b=J0/\H' b=J0):=fun b hb=>by
  rcases cn.mp hb with z|z
  .exact .inl z
  .rcases bg.mp z with z|z
   .rw[z];exact .inr ⟨fl.na,fl.fa⟩
   .have:b=T:=by simpa using z
    rw[this];exact .inr ⟨fl.nT,fl.fT⟩
 obtain⟨u2,hok2⟩:=Bf u hok hhid (kd I') y1 x2;obtain⟨t1,t2⟩:=xC (fs:=cq X.stack) (a:=a) z5 z7 z8 (fun b hb=>(kd I' b hb).2) x2
 have t3:s.heap.get? T'=J0/\H' T'=none:=by
  rcases t2 with z|z
  .rcases hhid T' z with y|y
   .exact J5 y t1
   .exact y
  .refine⟨?_,hok.untracked z⟩;cases q:s.heap.get? T' with
   |none=>rfl
   |some o=>
    obtain⟨o',y⟩:=u.there T' o q (by simp);rw[z]at y;cases y
 exact⟨a,T',H',rfl,os.trans I.os,bare,Mw I hex u2,hok2,⟨⟨oe',vs',a0,z1,z2,z3,z4⟩,⟨oT',ts',z7,z8,z9⟩,z6,qe I hex fl.na,qe I hex t3.1,fl.fa,t3.2⟩,hE⟩
theorem QS{F:ae->aj->Prop}{e:aa}{s':aj}{args:List ae}(hex:X.ex=[])(hst:X.stack=X.env::X.outer)(hf:X.env.frame=TL X.env.locals)(I:Inv X pins σ H s)
  (hx:aA.MadeExcOf s.heap s'.heap e (.ref C) args)(ho:s'.os=s.os)(hg:s'.gens=s.gens)(hE:E (.ref C) J0 H):
  az (aC X.prog X.w) X.A (leaving X.env (.ref e)) (fun _ s''=>dz X.prog X.w C X.outer X.H_0 X.s_0 E (.ref e) s'') F s':=by
 have hfr:s.heap.FunFrames (gQ s.heap (cq X.stack)) (X.env::X.outer):=by
  rw[<-hst];exact rS I.stack fun env he b hb=>lg.mpr ⟨env,he,hb⟩
 refine wpAny_leaves_madeW (base:=gQ s.heap (cq X.stack)) (h:=s.heap) (outer:=X.outer) (L:=X.env.locals) (by rw[I.ok.frames,hst]) hf (fun b o q=>qh _ q) hfr hx fun h' t x1 _ _ x4=>?_;have up:s.heap.UpToSlots h':=(aA.UpToSlots.of_keeps hx.keeps).trans x4;obtain⟨y1,y2,y3,oe',vs',T',oT',ts',z1,z2,z3,z4,z5,z6,z7,z8,z9⟩:=x1;obtain⟨u2,hok2⟩:=Bf (Un.refl (fs:=cq X.stack) (ex:=[]) (H:=H) (h:=s.heap)) I.hok (fun b hb=>.inl hb) (kd I) y1 up;obtain⟨t1,t2⟩:=xC (fs:=cq X.stack) (a:=e) z5 z7 z8 (fun b hb=>(kd I b hb).2) up
 have t3:s.heap.get? T'=none:=by
  rcases t2 with z|z
  .exact J5 z t1
  .exact z
 exact⟨e,T',H,rfl,ho.trans I.os,by show nq s'.gens;rw[hg];exact I.bare,Mw I hex u2,hok2,⟨⟨oe',vs',_,z1,z2,z3,z4⟩,⟨oT',ts',z7,z8,z9⟩,z6,qe I hex hx.new,qe I hex t3,I.hok.untracked hx.new,I.hok.untracked t3⟩,hE⟩
structure qL(X:Cx)(C:aa)(E:XK):Prop where
 ex:X.ex=[]
 stk:X.stack=X.env::X.outer
 fr:X.env.frame=TL X.env.locals
 go:∀e s',az (aC X.prog X.w) X.A (leaving X.env e) (fun _ s''=>dz X.prog X.w C X.outer X.H_0 X.s_0 E e s'') (fun e' s''=>dz X.prog X.w C X.outer X.H_0 X.s_0 E e' s'') s'->X.xe e s'
theorem fY{P:aJ}{w:aH}{K:aw}{mg:Str->Option ae}{base:aA}{N:List Str}{qual:Str}{scope:cN}{f:aa}{cd:ae}{A:bM}{outer:List Env}:
  qL (iQ (dz P w C) P w K mg base N qual scope f cd A outer s H E) C E:=⟨rfl,rfl,rfl,fun _ _ h=>h⟩
theorem jv(L:qL X C E):gJ (dz X.prog X.w C) X E:=fun _ _ _ _ e s' I h=>L.go e s' (QR L.ex L.stk L.fr I h)
theorem GT{K:aw}{h:aA}{bmB:List ae}{newId:String}(KX:K.In h)(q:excIn K C bmB newId=J1):
  ∃bm N nm qn bs hdct sn sub ab col dd k0 k1 k2 k3 k5 mN,h.get? C=TL (excClassObj nm qn C N bs bm hdct sn sub ab col dd k0 k1 k2 k3 k5 newId)/\h.Ns N mN/\mN "__init__"=J0/\OwnTail h bmB bm:=by
 unfold excIn at q;split at q
 .next dd cd sl ho=>
  split at q
  .next C' bm k0 k1 k2 k3 n k5 hm hs=>
   rw[bD,bD,bD,bD,bD,beq_iff_eq,beq_iff_eq,beq_iff_eq,vK]at q;obtain⟨⟨⟨⟨⟨e1,e2⟩,e3⟩,e4⟩,e5⟩,e6⟩:=q;subst e1 e2;obtain⟨nm,bs,mro,ns,qn,hd,sn,sub,ab,col,del⟩:=cd;have hm:mro=_:=hm;have e3:del=false:=e3;subst hm e3;have e7:sl= #[k0,k1,k2,k3,TL (.builtin n),k5]:=Array.toList_inj.mp hs;subst e7;exact⟨bm,ns,nm,qn,bs,hd,sn,sub,ab,col,dd,k0,k1,k2,k3,k5,_,KX _ _ ho,.of_isNs (PySem.W.isNs_of_in KX e5),PySem.W.nsMap_none_of_in KX e5 e6,PySem.W.tail_of_in KX e4⟩
  .cases q
 .cases q
def Mm(C:aa)(E:XK)(t:TA):TS:=fun _ σ H=>t σ H fun vs H1=>vs.length<=aZ/\E (.ref C) J0 H1
theorem uY(L:qL X C E)(hc:X.calm=J1){x:Str}{np cpos pos:Pos}{e₀:aM}{es:List aM}{t:TA}{B newId initId:String}{bmB:List ae}(hg:Gl X x)(hm:X.mg x=TL (.ref C))(hK:excIn X.K C bmB newId=J1)
  (FB:ExcBaseFacts B newId initId bmB)(ha:PA X (e₀::es) t)(hdb:autoParam ((x==("__debug__":Str))=false) J9)
  (he:autoParam (bQ (e₀::es) X.env=(J2,bF e₀ X.env)::bQ es X.env) J7)(hpl:autoParam ((eV cpos (bQ es X.env)).any (·.1)=false) J7):
  PS X (.Raise (TL (.Call (.Name x np) (e₀::es) [] cpos)) J0 pos) (Mm C E t):=by
 intro pins s σ H D I h;obtain⟨bm,N,nm,qn,bs,hdct,sn,sub,ab,col,dd,k0,k1,k2,k3,k5,mN,hC,hN,hni,OT⟩:=GT I.mod.kin hK
 refine wpAny_Raise_call_subT (C:=C) (nm:=nm) (q:=qn) (N:=N) (bs:=bs) (bm:=bm) (hdct:=hdct) (sn:=sn) (sub:=sub) (ab:=ab) (col:=col) (dd:=dd) (k0:=k0) (k1:=k1) (k2:=k2) (k3:=k3) (k5:=k5) FB (mN:=mN)
  (OT.hasType FB.hasBase) (I.ok.hd hc) (by rw[he];show(J2||(eV cpos (bQ es X.env)).any (·.1))=J2;rw[hpl];rfl) hni (oi I hg hm ⟨rfl,?_⟩ hdb)
 have q:=ha cpos pins s σ H _ I h;rw[he]at q⊢;refine Eu (aR q fun us s1⟨vs,H1,I1,r,hl,hE⟩=>?_);refine⟨rfl,by rw[<-r.length];exact hl,I1.bk _ _ hC,hN.keeps I1.bk,OT.keeps I1.bk,fun h' e hx=>?_⟩;exact L.go _ _ (QS L.ex L.stk L.fr I1 hx rfl rfl hE)
def Cx.tried(X:Cx)(C:aa)(pins:List (aa×Obj))(σ:St)(R:Hp->Prop):Cx:=
 {X with pn:=X.pn++pins,xe:=fun e s₁=>∃H s,Inv X pins σ H s/\dz X.prog X.w C X.stack H s (fun _ _ H'=>R H') e s₁}
def Cx.marked(X:Cx)(a:aa):Cx:={X with A:=X.A.mark (TL (.ref a)),calm:=J2,xe:=fun _ _=>False}
theorem Inv.tried{R:Hp->Prop}{σ':St}(I:Inv X pins σ H s):Inv (X.tried C pins σ' R) [] σ H s:=
 ⟨⟨I.ok.mod,I.ok.kind,I.ok.glob,I.ok.blt,I.ok.above,I.ok.inj,I.ok.has,I.ok.cab,I.ok.hd,I.ok.frames,I.ok.stk,I.ok.exf,I.ok.bs,I.ok.bsz,I.ok.noex,I.ok.exfs,I.ok.funs,I.ok.frf⟩,I.os,I.bare,I.base,I.loc,I.cell,I.free,I.freeC,
  fun p hp=>I.pin p (by rw[cD]at hp;exact hp),I.hok,I.len⟩
theorem Inv.untried{R:Hp->Prop}{σ':St}{pins':List (aa×Obj)}(I:Inv (X.tried C pins σ' R) pins' σ H s):Inv X pins σ H s:=
 ⟨⟨I.ok.mod,I.ok.kind,I.ok.glob,I.ok.blt,I.ok.above,I.ok.inj,I.ok.has,I.ok.cab,I.ok.hd,I.ok.frames,I.ok.stk,I.ok.exf,I.ok.bs,I.ok.bsz,I.ok.noex,I.ok.exfs,I.ok.funs,I.ok.frf⟩,I.os,I.bare,I.base,I.loc,I.cell,I.free,I.freeC,
  fun p hp=>I.pin p (cW _ hp),I.hok,I.len⟩
theorem SP.untried{R:Hp->Prop}{σ':St}{D:ja}{f:Flow}(h:SP (X.tried C pins σ' R) [] D f s):SP X pins D f s:=by
 cases f with
 |next=>obtain⟨σ',H',I,q⟩:=h;exact⟨σ',H',I.untried,q⟩
 |brk=>obtain⟨σ',H',I,q⟩:=h;exact⟨σ',H',I.untried,q⟩
 |cont=>obtain⟨σ',H',I,q⟩:=h;exact⟨σ',H',I.untried,q⟩
 |ret u=>obtain⟨v,σ',H',I,r,q⟩:=h;exact⟨v,σ',H',I.untried,r,q⟩
theorem Inv.marked{a:aa}(I:Inv X pins σ H s):Inv (X.marked a) pins σ H s:=
 ⟨⟨I.ok.mod,I.ok.kind,I.ok.glob,I.ok.blt,I.ok.above,I.ok.inj,I.ok.has,I.ok.cab,fun z=>Em (show J2=J1 from z),I.ok.frames,I.ok.stk,I.ok.exf,I.ok.bs,I.ok.bsz,I.ok.noex,I.ok.exfs,I.ok.funs,I.ok.frf⟩,I.os,I.bare,I.base,I.loc,I.cell,I.free,I.freeC,I.pin,I.hok,I.len⟩
theorem Inv.unmarked{a:aa}(hd:X.calm=J1->X.A.handled=J0)(I:Inv (X.marked a) pins σ H s):Inv X pins σ H s:=
 ⟨⟨I.ok.mod,I.ok.kind,I.ok.glob,I.ok.blt,I.ok.above,I.ok.inj,I.ok.has,I.ok.cab,hd,I.ok.frames,I.ok.stk,I.ok.exf,I.ok.bs,I.ok.bsz,I.ok.noex,I.ok.exfs,I.ok.funs,I.ok.frf⟩,I.os,I.bare,I.base,I.loc,I.cell,I.free,I.freeC,I.pin,I.hok,I.len⟩
theorem SP.unmarked{a:aa}{D:ja}{f:Flow}(hd:X.calm=J1->X.A.handled=J0)(h:SP (X.marked a) pins D f s):SP X pins D f s:=by
 cases f with
 |next=>obtain⟨σ',H',I,q⟩:=h;exact⟨σ',H',I.unmarked hd,q⟩
 |brk=>obtain⟨σ',H',I,q⟩:=h;exact⟨σ',H',I.unmarked hd,q⟩
 |cont=>obtain⟨σ',H',I,q⟩:=h;exact⟨σ',H',I.unmarked hd,q⟩
 |ret u=>obtain⟨v,σ',H',I,r,q⟩:=h;exact⟨v,σ',H',I.unmarked hd,r,q⟩
theorem Uc{R:Hp->Prop}{k:Nat}{f:aa}{fd:kn}{ps:List Str}{sp:Sp}{x:Str}{p pos:Pos}{e:aM}{es:List aM}{t:TA}(F:gi X.prog X.w X.K X.mg X.base (dz X.prog X.w C) k f fd ps sp)(hr:cA k X.A)(hg:Gl X x)(hm:X.mg x=TL (.ref f))
  (hk:pH X.K (.ref f)=J1)(hb:Binds X.K fd ps [])(ha:PA (X.tried C pins σ R) (e::es) t)(hdb:autoParam ((x==("__debug__":Str))=false) J9)
  (he:autoParam (bQ (e::es) X.env=(J2,bF e X.env)::bQ es X.env) J7)(hpl:autoParam ((eV pos (bQ es X.env)).any (·.1)=false) J7):
  PE (X.tried C pins σ R) (.Call (.Name x p) (e::es) [] pos) (fun σ' H Q=>σ'=σ/\t σ' H fun vs H1=>sp vs H1 Q fun _ _ H'=>R H'):=by
 intro pins' s σ' H Q I h;obtain⟨rfl,h⟩:=h;refine oI (oi I hg hm ?_ hdb);refine Ac (h₀:=X.base) I.ok.mod.kin hk (aR (ha pos pins' s σ' H _ I h) fun us s1⟨vs,H1,I1,r,q⟩=>⟨I1.kIn,?_⟩) he hpl;have hl:(us++[]).length=ps.length:=by rw[cD,<-r.length];exact F.len _ _ _ _ q
 have hb1:=hb s1 us I1.kIn hl;rw[cD]at hb1;refine yU (rL (F.run X.A X.stack s1 H1 ⟨us,[]⟩ us vs Q (fun _ _ H'=>R H') hr I1.untried.env0 hb1 r q) fun rr s' hq=>?_);cases rr with
 |error e=>exact⟨H1,s1,I1.untried,hq⟩
 |ok fl=>
  cases fl with
  |ret u=>exact I1.after hq
  |next=>exact fP hq
  |brk=>exact fP hq
  |cont=>exact fP hq
def Mo(tb:St->(Hp->Prop)->TS)(ts:TS):TS:=fun D σ H=>tb σ (fun H'=>ts D σ H') D σ H
theorem CF{body:List aI}{b₀:aI}{suite:List aI}{x:Str}{np hp pos:Pos}{tb:St->(Hp->Prop)->TS}{ts:TS}{newId:String}{bmB:List ae}(hst:X.stack=X.env::X.outer)(hf:X.env.frame=TL X.env.locals)
  (hg:Gl X x)(hm:X.mg x=TL (.ref C))(hK:excIn X.K C bmB newId=J1)(hB:bmB.contains (.type "BaseException")=J1)
  (hb:∀(pins:List (aa×Obj))(σ:St)(R:Hp->Prop),fA (X.tried C pins σ R) body (tb σ R))(hs:∀a:aa,fA (X.marked a) (b₀::suite) ts)(hdb:autoParam ((x==("__debug__":Str))=false) J9):
  PS X (.Try body [.ExceptHandler (TL (.Name x np)) J0 (b₀::suite) hp] [] [] pos) (Mo tb ts):=by
 intro pins s σ H D I h;refine wpAny_Try_except (iE (hb pins σ (fun H'=>ts D σ H') [] s σ H D I.tried h) (fun f s₁ q=>?_) fun e s₁ q=>?_)
 .have q:=q.untried;cases f with
  |next=>exact yV q
  |brk=>exact q
  |cont=>exact q
  |ret u=>exact q
 .obtain⟨H1,s1,I1,a,T,H',rfl,os,bare,u,hok,fl,hR⟩:=q;have I':Inv X pins σ H' s₁:=I1.call' os u hok bare (fun b z=>by cases z);obtain⟨oe,vs,a0,he,hc,hd,h1⟩:=fl.ex;obtain⟨oT,ts',hT,hdT,h3⟩:=fl.tb
  have hfr:s₁.heap.FunFrames (gQ s₁.heap (cq X.stack++[a,T])) (X.env::X.outer):=by
   rw[<-hst];exact rS I'.stack fun env he b hb=>cW _ (lg.mpr ⟨env,he,hb⟩)
  have hhid:∀b∈cq X.stack++[a,T],b∈cq X.stack\/(s1.heap.get? b=J0/\H' b=J0):=fun b hb=>by
   rcases cn.mp hb with z|z
   .exact .inl z
   .rcases bg.mp z with z|z
    .rw[z];exact .inr ⟨fl.na,fl.fa⟩
    .have:b=T:=by simpa using z
     rw[this];exact .inr ⟨fl.nT,fl.fT⟩
  have back:∀h':aA,(gQ s₁.heap (cq X.stack++[a,T])).StaysIn h'->s₁.heap.UpToSlots h'->Inv X pins σ H' {s₁ with heap:=h'}:=fun h' st up=>by
   obtain⟨u2,hok2⟩:=Bf u hok hhid (kd I') st up;exact I1.call' (s':={s₁ with heap:=h'}) os u2 hok2 bare (fun b z=>by cases z)
  refine wpAny_looks_onW (base:=gQ s₁.heap (cq X.stack++[a,T])) (outer:=X.outer) (L:=X.env.locals) (cls:=.ref C) (a0:=a0) (by rw[I'.ok.frames,hst]) hf
   ⟨fun b o q=>qh _ q,lM _ (by simp),hfr,oe,vs,T,oT,ts',he,hc,hd,h1,lM _ (by simp),fl.ne,hT,hdT,h3⟩ fun h₄ y4 up4=>?_
  refine wpAny_landsW y4 fun h₅ y5 up5=>?_;have I5:=back h₅ y5.1 (up4.trans up5);obtain⟨bm,N,nm,qn,bs,hdct,sn,sub,ab,col,dd,k0,k1,k2,k3,k5,mN,hC,hN,hni,OT⟩:=GT I.mod.kin hK;refine wpAny_handleBy_cons (codeAny_handlers_test ?_) (by intro q;cases q);refine oi (X:=X.marked a) (H:=H') (σ:=σ) (pins:=pins) I5.marked hg hm ?_ hdb;obtain⟨oe5,he5,hc5⟩:=y5.there;refine wpAny_excMatches_sub_self (I5.bk _ _ hC) he5 hc5 (OT.hasType hB) (codeAny_handlers_suite ?_);obtain⟨f1,f2,f3,f4⟩:=y5;refine wpAny_setFlight_noneW f1 f3 f4.at fun h₆ k1' k2' k3' k4'=>?_;have I6:=back h₆ k1' ((up4.trans up5).trans fun b o hb hn=>⟨o.slots,k4' b o hb hn⟩);exact iE (hs a pins {s₁ with heap:=h₆} σ H' D I6.marked hR) (fun f s₂ q=>q.unmarked I.ok.hd) fun _ _ z=>fP z
end
section
variable{P:aJ}{w:aH}{K:aw}{mg:Str->Option ae}{base:aA}{C:aa}
theorem km.okF{x qual:Str}{st:aI}{f:aa}{fd:kn}{N ps:List Str}{k:Nat}{sp:Sp}(F:km K x qual st f fd)(S:aV N ps (aN st))(len:∀vs H Q E,sp vs H Q E->vs.length=ps.length)
  (hbody:∀(cdv:ae)(A:bM)(outer:List Env)(s:aj)(H:Hp)(vs:List V)(Q:VK)(E:XK),cA k (A.deeper (iS qual (aN st) s.heap.objs.size f cdv))->sp vs H Q E->
   ∃t,fA (iQ (dz P w C) P w K mg base N qual (aN st) f cdv A outer s H E) (jq st) t/\t {nx:=fun _ H'=>Q .non H',rt:=Q} (start N vs) H):gi P w K mg base (dz P w C) (k+1) f fd ps sp:=by
 obtain⟨oc,od,kV,doc,pm,an,cdv,ct,osl,rfl,lk,hcd⟩:=F.ex;exact AU lk hcd S len fun A outer s H vs Q E hr hsp=>hbody cdv A outer s H vs Q E hr hsp
end
section
variable{P:aJ}{w:aH}
theorem Ht{fs ex hid:List aa}{H H':Hp}{h h1 h2:aA}(u:Un fs ex H H' h h1)(hok:cz P w H' h1)(hh:∀b∈hid,b∈fs\/(h.get? b=J0/\H' b=J0))
  (hfs:∀b∈fs,H' b=J0)(st:(gQ h1 hid).StaysIn h2)(sl:∀b o,b∈fs->h1.get? b=TL o->∃z,h2.get? b=TL {o with slots:=z}):Un fs ex H H' h h2/\cz P w H' h2:=by
 have kp:∀b o,b∉hid->h1.get? b=TL o->h2.get? b=TL o:=fun b o nb e=>st b o (uy hid e nb)
 have nh:∀b o,h.get? b=TL o->b∉fs->b∉hid:=fun b o e nb hb=>by
  rcases hh b hb with z|⟨z,_⟩
  .exact nb z
  .rw[e]at z;cases z
 refine⟨⟨fun b o q n hb hx=>kp b o (nh b o q hb) (u.keep b o q n hb hx),fun b o q n hb hx=>?_,u.free,fun b o q hx=>?_,u.tups,u.frzs,u.tbls⟩,fun b ob e=>(hok b ob e).stay (fun c v hc q=>kp c v (fun z=>?_) q) (fun _ q=>q) fun _ _ q=>q⟩
 .obtain⟨z,e⟩:=u.slot b o q n hb hx;obtain⟨z',e'⟩:=sl b _ hb e;exact⟨z',e'⟩
 .obtain⟨o',e⟩:=u.there b o q hx;by_cases hb:b∈fs
  .obtain⟨z',e'⟩:=sl b _ hb e;exact⟨_,e'⟩
  .exact⟨o',kp b o' (nh b o q hb) e⟩
 .have tr:∃k,H' c=TL k:=by
   rcases hc with rfl|hc
   .exact⟨_,e⟩
   .exact⟨_,hc⟩
  obtain⟨k,tr⟩:=tr;rcases hh c z with y|⟨_,y⟩
  .rw[hfs c y]at tr;cases tr
  .rw[y]at tr;cases tr
end
theorem Sk{e:ae}{env env':Env}(h:env.frame=env'.frame):uO e env=uO e env':=by
 unfold uO PySem.frameOf;rw[h]
section
variable{M:Model}{A:bM}{F:ae->aj->Prop}{s:aj}
theorem IQ{base:aA}{env:Env}{outer:List Env}{L e:aa}{cls a0 fl:ae}{Q:Unit->aj->Prop}
  (hfr:A.frames=TL (env::outer))(hf:env.frame=TL L)(hkb:base.StaysIn s.heap)(hen:base.get? e=J0)(hl:s.heap.FunFrames base (env::outer))(ht:s.heap.TracedAtW base e cls a0 fl)
  (hQ:∀h',aA.HeldW base (env::outer) e cls a0 L h'->s.heap.UpToSlots h'->Q () {s with heap:=h'}):az M A (uO (.ref e) env) Q F s:=by
 by_cases hz:fl=cg L
 .subst hz;refine wpAny_noteFrame_againW hf ht ?_;have:=hQ s.heap ⟨hkb,hen,hl,ht⟩ (aA.UpToSlots.refl _);cases s;exact this
 .obtain⟨oe,vs,T,oT,ts,he,⟨hcls,h0⟩,hd,h1,hnT,hTe,hT,hdT,h3⟩:=ht;subst hcls;unfold uO;simp only[hf];refine ay (Eg he hd h1 ?_);rw[J4 (show(cO T != iP)=J1 from by simp)];refine ay (Eg hT hdT h3 ?_);rw[J3 (show¬((fl==cg L)=J1)from fun z=>hz (eq_of_beq z))];refine ay (qz hT hdT (zc.mp h3).1 ?_);have other:∀b,b≠T->(s.heap.update T (wu (·.setIfInBounds 3 iP))).get? b=s.heap.get? b:=fun b hb=>kY _ _ (br hb)
  have noRecord:∀b o,s.heap.get? b=TL o->(∀vs,o.data≠.fields vs)->b≠T:=fun b o hb hnf q=>by
   rw[q,hT]at hb;injection hb with hb;subst hb;exact hnf ts hdT
  refine wpAny_entryW hfr (hl.of_keeps fun b o hb hnf=>⟨o,(other b (noRecord b o hb hnf)).trans hb,rfl⟩) hf ((other e (br hTe)).trans he)
   (fun b o hbo=>(other b fun q=>by rw[q,hnT]at hbo;cases hbo).trans (hkb b o hbo)) hen hd (zc.mp h1).1 h0
   fun h'⟨x1,x2,x3,x4⟩=>hQ h' ⟨x1,hen,x2,x3⟩ fun b o hb hnf=>x4 b o ((other b (noRecord b o hb hnf)).trans hb) hnf
end
structure MX(C:aa)(h₀:aA)(H:Hp)(h:aA)(a T:aa):Prop where
 ex:∃oe vs a0,h.get? a=TL oe/\(oe.cls=.ref C/\vs[0]?=TL a0)/\oe.data=.fields vs/\vs[1]?=TL (.ref T)
 tb:∃oT ts fl,h.get? T=TL oT/\oT.data=.fields ts/\ts[3]?=TL fl
 ne:T≠a
 na:h₀.get? a=J0
 nT:h₀.get? T=J0
 fa:H a=J0
 fT:H T=J0
section
variable{X:Cx}{pins:List (aa×Obj)}{σ:St}{H H':Hp}{s:aj}{C:aa}{E:XK}
theorem QQ{F:ae->aj->Prop}{a T:aa}(hex:X.ex=[])(hst:X.stack=X.env::X.outer)(hf:X.env.frame=TL X.env.locals)(I:Inv X pins σ H s)(fl:MX C X.s_0.heap H s.heap a T)(hE:E (.ref C) J0 H):
  az (aC X.prog X.w) X.A (leaving X.env (.ref a)) (fun _ s''=>dz X.prog X.w C X.outer X.H_0 X.s_0 E (.ref a) s'') F s:=by
 obtain⟨oe,vs,a0,he,hc,hd,h1⟩:=fl.ex;obtain⟨oT,ts,fv,hT,hdT,h3⟩:=fl.tb
 have hfr:s.heap.FunFrames (gQ s.heap (cq X.stack++[a,T])) (X.env::X.outer):=by
  rw[<-hst];exact rS I.stack fun env he b hb=>cW _ (lg.mpr ⟨env,he,hb⟩)
 unfold leaving
 refine ay (IQ (base:=gQ s.heap (cq X.stack++[a,T])) (outer:=X.outer) (L:=X.env.locals) (cls:=.ref C) (a0:=a0) (fl:=fv) (by rw[I.ok.frames,hst]) hf
  (fun b o q=>qh _ q) (lM _ (by simp)) hfr ⟨oe,vs,T,oT,ts,he,hc,hd,h1,lM _ (by simp),fl.ne,hT,hdT,h3⟩ fun h2 y2 up2=>?_)
 refine wpAny_landsW y2 fun h' y up3=>?_;have up:=up2.trans up3;obtain⟨y1,y2,y3,oe',vs',T',oT',ts',z1,z2,z3,z4,z5,z6,z7,z8,z9⟩:=y;have hfs:∀b∈X.fs,b∈cq X.stack:=fun b hb=>by rw[hst];unfold cq;simp only[tq,hf];exact bX _ hb
 have hhid:∀b∈cq X.stack++[a,T],b∈X.fs\/(X.s_0.heap.get? b=J0/\H b=J0):=fun b hb=>by
  rcases cn.mp hb with z|z
  .rcases bg.mp (I.stkSub b z)with y|y
   .refine .inr ⟨?_,by rw[y];exact I.free⟩;rw[y];cases q:X.s_0.heap.get? X.env.locals with
    |none=>rfl
    |some o=>exact J5 (bR q) (Nat.not_lt.mpr I.ok.above)
   .exact .inl y
  .rcases bg.mp z with z|z
   .rw[z];exact .inr ⟨fl.na,fl.fa⟩
   .have:b=T:=by simpa using z
    rw[this];exact .inr ⟨fl.nT,fl.fT⟩
 have hb:=I.base;rw[hex]at hb
 obtain⟨u2,hok2⟩:=Ht hb I.hok hhid (fun b hb=>(kd I b (hfs b hb)).1) y1 (fun b o hb e=>by
  obtain⟨_,o',e',hn⟩:=kd I b (hfs b hb);rw[e]at e';cases e';exact up b o e hn)
 obtain⟨t1,t2⟩:=xC (fs:=cq X.stack) (a:=a) z5 z7 z8 (fun b hb=>(kd I b hb).2) up
 have t3:X.s_0.heap.get? T'=J0/\H T'=none:=by
  rcases t2 with z|z
  .rcases hhid T' z with y|y
   .exact J5 (hfs _ y) t1
   .exact y
  .refine⟨qe I hex z,I.hok.untracked z⟩
 exact⟨a,T',H,rfl,I.os,I.bare,u2,hok2,⟨⟨oe',vs',a0,z1,z2,z3,z4⟩,⟨oT',ts',z7,z8,z9⟩,z6,fl.na,t3.1,fl.fa,t3.2⟩,hE⟩
end
section
variable{X:Cx}
def Cx.blkF(X:Cx)(Cl:aa)(E:XK)(s:aj)(H:Hp)(scope:cN)(cenv:Env)(fp:List aa)(pn:List (aa×Obj)):Cx:=
 {X.blk s H scope cenv fp with pn:=pn,xe:=fun e s1=>∃pins σ H' s',Inv (X.blk s H scope cenv fp) (pn++pins) σ H' s'/\dz X.prog X.w Cl X.stack H' s' E e s1}
section
variable{Cl:aa}{E:XK}{s s':aj}{H H':Hp}{scope:cN}{cenv:Env}{fp:List aa}{pn pins:List (aa×Obj)}{σ:St}
theorem Inv.toF(I:Inv (X.blk s H scope cenv fp) ([]++pn) σ H' s'):Inv (X.blkF Cl E s H scope cenv fp pn) [] σ H' s':=
 ⟨⟨I.ok.mod,I.ok.kind,I.ok.glob,I.ok.blt,I.ok.above,I.ok.inj,I.ok.has,I.ok.cab,I.ok.hd,I.ok.frames,I.ok.stk,I.ok.exf,I.ok.bs,I.ok.bsz,I.ok.noex,I.ok.exfs,I.ok.funs,I.ok.frf⟩,I.os,I.bare,I.base,I.loc,I.cell,I.free,I.freeC,
  fun p hp=>I.pin p (by have hp:p∈pn++[]:=hp;simpa using hp),I.hok,I.len⟩
theorem Inv.ofF(I:Inv (X.blkF Cl E s H scope cenv fp pn) pins σ H' s'):Inv (X.blk s H scope cenv fp) (pn++pins) σ H' s':=
 ⟨⟨I.ok.mod,I.ok.kind,I.ok.glob,I.ok.blt,I.ok.above,I.ok.inj,I.ok.has,I.ok.cab,I.ok.hd,I.ok.frames,I.ok.stk,I.ok.exf,I.ok.bs,I.ok.bsz,I.ok.noex,I.ok.exfs,I.ok.funs,I.ok.frf⟩,I.os,I.bare,I.base,I.loc,I.cell,I.free,I.freeC,
  fun p hp=>I.pin p (by show p∈pn++pins;simpa using hp),I.hok,I.len⟩
theorem TK:gJ (dz X.prog X.w Cl) (X.blkF Cl E s H scope cenv fp pn) E:=fun pins σ H s e s' I h=>⟨pins,σ,H,s,I.ofF,h⟩
end
theorem OL{Cl:aa}{E:XK}(L:qL X Cl E){pins pn:List (aa×Obj)}{σ:St}{H3:Hp}{s3 s10:aj}{scope:cN}{ce:Env}{fp:List aa}{e D:ae}{use:Option (ae->Sem Unit)}{Qf:ae->aj->Prop}(I3:Inv X pins σ H3 s3)
  (cL:ce.locals=s3.heap.objs.size)(cF:ce.frame=X.env.frame)(f3:∀b∈fp,iu X pins H3 b)(hfp:∀b∈fp,∃o,(b,o)∈pn)
  (hx:∃pins' σ' H' s',Inv (X.blk s3 H3 scope ce fp) (pn++pins') σ' H' s'/\dz X.prog X.w Cl X.stack H' s' E e s10):
  qg (aC X.prog X.w) X.A ce (fun e s'=>rN (aC X.prog X.w) X.A X.xe use Qf D s3.heap.objs.size (.error e) s') e s10:=by
 obtain⟨pins',σ',H',s',Ib,a,T,H10,rfl,os,bare,u,hok,fl,hE⟩:=hx;have Ib10:Inv (X.blk s3 H3 scope ce fp) (pn++pins') σ' H10 s10:=Ib.call' os u hok bare (fun b z=>by cases z);have I10:Inv X pins σ H10 s10:=I3.call' (ch:=fp) Ib10.os Ib10.base Ib10.hok Ib10.bare fun b hb=>⟨(f3 b hb).2.2.2.1,(f3 b hb).2.1,(f3 b hb).2.2.2.2.1,(f3 b hb).2.2.2.2.2⟩
 have fpb:∀b∈fp,(∃o,s'.heap.get? b=TL o)/\∃o,s10.heap.get? b=TL o:=fun b hb=>by
  obtain⟨o,ho⟩:=hfp b hb;exact⟨⟨o,(Ib.pin (b,o) (dA _ (cW _ ho))).1⟩,⟨o,(Ib10.pin (b,o) (dA _ (cW _ ho))).1⟩⟩
 have new3:∀b,s'.heap.get? b=J0->s3.heap.get? b=none:=fun b hb=>by
  cases q:s3.heap.get? b with
  |none=>rfl
  |some o=>
   have nb:b∉fp:=fun z=>by
    obtain⟨o',h⟩:=(fpb b z).1;rw[hb]at h;cases h
   obtain⟨o',h⟩:=Ib.base.there b o q nb;rw[hb]at h;cases h
 have new310:∀b,s10.heap.get? b=J0->s3.heap.get? b=none:=fun b hb=>by
  cases q:s3.heap.get? b with
  |none=>rfl
  |some o=>
   have nb:b∉fp:=fun z=>by
    obtain⟨o',h⟩:=(fpb b z).2;rw[hb]at h;cases h
   obtain⟨o',h⟩:=Ib10.base.there b o q nb;rw[hb]at h;cases h
 have hC3:s3.heap.get? s3.heap.objs.size=none:=by
  cases q:s3.heap.get? s3.heap.objs.size with
  |none=>rfl
  |some o=>exact J5 (bR q) (gI _)
 obtain⟨mC,hnC,_⟩:=Ib10.loc;have hnC:s10.heap.Ns ce.locals mC:=hnC;obtain⟨mC',hnC',_⟩:=Ib.loc;have hnC':s'.heap.Ns ce.locals mC':=hnC'
 have HC:H10 s3.heap.objs.size=none:=by
  have z:H10 ce.locals=none:=Ib10.free;rw[cL]at z;exact z
 rw[cL]at hnC hnC'
 have haC:a≠s3.heap.objs.size:=fun z=>by
  obtain⟨o,_,_,h,_⟩:=hnC';rw[<-z,fl.na]at h;cases h
 have hTC:T≠s3.heap.objs.size:=fun z=>by
  obtain⟨o,_,_,h,_⟩:=hnC';rw[<-z,fl.nT]at h;cases h
 obtain⟨oe,vs,a0,he,hc,hd,h1⟩:=fl.ex;obtain⟨oT,ts,hT,hdT,h3⟩:=fl.tb
 have hfr:s10.heap.FunFrames (gQ s10.heap (cq X.stack++[a,T])) (X.env::X.outer):=by
  rw[<-L.stk];exact rS I10.stack fun env he b hb=>cW _ (lg.mpr ⟨env,he,hb⟩)
 unfold qg;rw[Sk cF]
 refine IQ (base:=gQ s10.heap (cq X.stack++[a,T])) (outer:=X.outer) (L:=X.env.locals) (cls:=.ref Cl) (a0:=a0) (fl:=.none) (by rw[I10.ok.frames,L.stk]) L.fr
  (fun b o q=>qh _ q) (lM _ (by simp)) hfr ⟨oe,vs,T,oT,ts,he,hc,hd,h1,lM _ (by simp),fl.ne,hT,hdT,h3⟩ fun g1 y1 up1=>?_
 obtain⟨k1,_,k3,oe',vs',T',oT',ts',z1,z2,z3,z4,z5,z6,z7,z8,z9⟩:=y1;have hnC1:=up1.ns hnC;refine⟨mC,hnC1,fun g2 sb2 cenv hcenv=>?_⟩
 have hTC':T'≠s3.heap.objs.size:=fun z=>by
  obtain⟨o,_,_,h,hdd,_⟩:=hnC1;rw[<-z,z7]at h;cases h;rw[z8]at hdd;cases hdd
 have za:g2.get? a=TL oe':=by rw[sb2.2 a haC];exact z1
 have zT:g2.get? T'=TL oT':=by rw[sb2.2 T' hTC'];exact z7
 unfold PySem.passOn setFlight;refine ay (Eg za z3 z4 ?_);rw[J3 (show¬((cO T'==iP)=J1)from by simp)];refine ay (ay (Eg za z3 z4 ?_));rw[J4 (show(cO T' != iP)=J1 from by simp)];refine qz zT z8 (zc.mp z9).1 (wpAny_throw ?_);generalize hg3:g2.update T' (wu (·.setIfInBounds 3 (cenv.frame.elim iP fun f=>cg f)))=g3;have oth:∀b,b≠T'->g3.get? b=g2.get? b:=fun b hb=>by rw[<-hg3];exact kY _ _ (br hb)
 have hT3:g3.get? T'=TL (wu (·.setIfInBounds 3 (cenv.frame.elim iP fun f=>cg f)) oT'):=by
  rw[<-hg3];exact mf _ zT (wq (kA z8 _))
 obtain⟨t1,t2⟩:=xC (fs:=cq X.stack) (a:=a) z5 z7 z8 (fun b hb=>(kd I10 b hb).2) up1
 have t3:s3.heap.get? T'=J0/\H10 T'=none:=by
  rcases t2 with z|z
  .rcases cn.mp z with z|z
   .exact J5 z t1
   .rcases bg.mp z with z|z
    .exact J5 z z6
    .have:T'=T:=by simpa using z
     rw[this];exact⟨new3 _ fl.nT,fl.fT⟩
  .exact⟨new310 _ z,I10.hok.untracked z⟩
 have hh:∀b∈cq X.stack++[a,T,s3.heap.objs.size],b∈cq X.stack\/(s3.heap.get? b=J0/\H10 b=J0):=fun b hb=>by
  rcases cn.mp hb with z|z
  .exact .inl z
  .simp only[bg,jg,or_false]at z;rcases z with rfl|rfl|rfl
   .exact .inr ⟨new3 _ fl.na,fl.fa⟩
   .exact .inr ⟨new3 _ fl.nT,fl.fT⟩
   .exact .inr ⟨hC3,HC⟩
 have notIn:∀b o,(gQ s10.heap (cq X.stack++[a,T,s3.heap.objs.size])).get? b=TL o->b∉cq X.stack++[a,T,s3.heap.objs.size]:=fun b o q z=>by
  rw[lM _ z]at q;cases q
 obtain⟨u2,hok2⟩:=Ht (hid:=cq X.stack++[a,T,s3.heap.objs.size]) (h2:=g3) Ib10.base Ib10.hok hh (fun b hb=>(kd I10 b hb).1) (fun b o q=>by
   have nb:=notIn b o q;have e10:=qh _ q;simp only[cn,bg,jg,or_false,not_or]at nb;have hb1:(gQ s10.heap (cq X.stack++[a,T])).get? b=TL o:=uy _ e10 (by simp only[cn,bg,jg,or_false,not_or];exact⟨nb.1,nb.2.1,nb.2.2.1⟩);have hbT:b≠T':=fun z=>by rw[z,z5]at hb1;cases hb1
   rw[oth b hbT,sb2.2 b nb.2.2.2];exact k1 b o hb1) (fun b o hb e=>by
   obtain⟨_,o',e',hn⟩:=kd I10 b hb;rw[e]at e';cases e';obtain⟨sl,hs⟩:=up1 b o e hn
   have hbC:b≠s3.heap.objs.size:=fun z=>by
    obtain⟨_,o3,e3,_⟩:=kd I3 b hb;rw[z,hC3]at e3;cases e3
   have hbT:b≠T':=fun z=>t1 (z▸hb);exact⟨sl,by rw[oth b hbT,sb2.2 b hbC];exact hs⟩)
 have I11:Inv X pins σ H10 {s10 with heap:=g3}:=I3.call' (ch:=fp) (s':={s10 with heap:=g3}) Ib10.os u2 hok2 Ib10.bare fun b hb=>⟨(f3 b hb).2.2.2.1,(f3 b hb).2.1,(f3 b hb).2.2.2.2.1,(f3 b hb).2.2.2.2.2⟩;refine L.go _ _ (QQ (T:=T') L.ex L.stk L.fr I11 ⟨⟨oe',vs',a0,?_,z2,z3,z4⟩,⟨_,_,_,hT3,kA z8 _,Array.getElem?_setIfInBounds_self_of_lt (zc.mp z9).1⟩,z6,qe I3 L.ex (new3 _ fl.na),qe I3 L.ex t3.1,fl.fa,t3.2⟩ hE);show g3.get? a=TL oe';rw[oth a (br z6)];exact za
theorem QJ{Cl:aa}{E:XK}(L:qL X Cl E){pins:List (aa×Obj)}{s:aj}{σ:St}{H:Hp}{Q:VK}{elt tg iter:aM}{ifs:List aM}{scope:cN}{own:List (Str×Nat)}{pos pos':Pos}{wi:TI}{g:TG}{tt:TT}{te:TE}{use:Option (ae->Sem Unit)}{Qf:ae->aj->Prop}
  (hc:X.calm=J1)(hN:X.N.Nodup)(I:Inv X pins σ H s)(hi:PI X tg iter wi)(ok:oM X.N X.env.scope scope own)
  (hg:∀(s:aj)(H:Hp)(C:aa)(cl:List (Str×aa))(fp:List aa),PG (X.blk s H scope (fJ scope cl C X.env) fp) tg g)(ht:∀(s:aj)(H:Hp)(C:aa)(cl:List (Str×aa))(fp:List aa),pD (X.blk s H scope (fJ scope cl C X.env) fp) ifs tt)
  (he:∀(s:aj)(H:Hp)(C:aa)(cl:List (Str×aa))(fp:List aa)(pn:List (aa×Obj)),PE (X.blkF Cl E s H scope (fJ scope cl C X.env) fp pn) elt te)(hs:∀x,uq iter X.env x=pure x)
  (h:oF wi g tt te (own.map (·.2)) σ H Q)
  (hRR:∀D C s' m H',Inv X pins σ H' s'->Q (.ref D) H'->s'.heap.Ns C m->iu X pins H' C->rN (aC X.prog X.w) X.A X.xe use Qf (.ref D) C (.ok .next) s'):
  az (aC X.prog X.w) X.A (AJ (.ListComp elt [⟨tg,iter,ifs,0⟩] scope pos) scope X.env pos' (newList []) J2 (bF iter X.env) use) Qf X.xe s:=by
 have hfree:∀y∈scope.names,y.2=.free->∃c,X.env.cells.lookup y.1=TL c:=fun y hy e=>by
  rcases ok.free y hy e with k|k
  .exact I.ok.has _ (.inl k)
  .exact I.ok.has _ (.inr k)
 refine YH (use:=use) rfl hs (AI hfree) ok.kind (fun y hy e=>by rw[ok.uniq y hy,e])
  (aR (hi pins s σ H _ I h) fun xv s1 hx=>aR hx fun itv s2 h2=>?_)
 obtain⟨it,fp,tn,J,H2,e,I2,T,st2,f2,q⟩:=h2;subst e;refine ni (IJ ?_) (by show 0<=aZ;decide);generalize hD:s2.heap.objs.size=D;have ia:H2 D=none:=I2.hok.fresh (tJ hD);obtain⟨W,⟨m0,w0⟩,turn⟩:=q D ia;generalize hs3:({s2 with heap:=s2.heap.push {cls:=.type "list",data:=.seq ([]:List ae).toArray}}:aj)=s3
 have I3:Inv X pins σ (ah H2 D (.lst [])) s3:=by
  rw[<-hs3];refine I2.laid (t':=s2.toks) (fun b o e=>bV _ e) (tJ hD) ⟨bI _,[],0,.nil,?_⟩;rw[<-hD];exact dD _ rfl
 have h3:s3.heap=s2.heap.push {cls:=.type "list",data:=.seq ([]:List ae).toArray}:=by rw[<-hs3]
 have sz:∀b∈fp,b<s2.heap.objs.size:=fun b hb=>by
  obtain⟨o,e,_⟩:=T.obj _ _ st2 b hb;exact bR e
 have f3:∀b∈fp,iu X pins (ah H2 D (.lst [])) b/\b<s3.heap.objs.size:=fun b hb=>by
  have hlt:=sz b hb;refine⟨⟨?_,(f2 b hb).2⟩,by rw[h3,fQ];exact nF hlt⟩;rw[aO (by rw[<-hD];exact cJ hlt)];exact(f2 b hb).1
 have st3:tn 0 s3.heap:=T.keep _ _ _ st2 fun b _ o e=>by rw[h3];exact bV _ e
 have I4:=Gc I3 ok hN f3;have pg:=hg s3 (ah H2 D (.lst [])) s3.heap.objs.size (eA (s3.heap.objs.size+1) scope.names (dj X.env.cells scope.names [])) fp;have pt:=ht s3 (ah H2 D (.lst [])) s3.heap.objs.size (eA (s3.heap.objs.size+1) scope.names (dj X.env.cells scope.names [])) fp;have pe:=he s3 (ah H2 D (.lst [])) s3.heap.objs.size (eA (s3.heap.objs.size+1) scope.names (dj X.env.cells scope.names [])) fp;show hX _ _ (.compStart (.ListComp elt [⟨tg,iter,ifs,0⟩] scope pos) 0 (.ref it) (.ref D) (fJ scope (eA (s3.heap.objs.size+1) scope.names (dj X.env.cells scope.names [])) s3.heap.objs.size X.env)) (rN (aC X.prog X.w) X.A X.xe use Qf (.ref D) s3.heap.objs.size) {s3 with heap:=mY (s3.heap.push {cls:=.type "dict",data:=.dict #[]}) scope.names};have nfp:∀b∈fp,(ah H2 D (.lst [])) b=none:=fun b hb=>(f3 b hb).1.1;generalize hce:fJ scope (eA (s3.heap.objs.size+1) scope.names (dj X.env.cells scope.names [])) s3.heap.objs.size X.env=ce at I4 pg pt pe⊢;have cL:ce.locals=s3.heap.objs.size:=by subst hce;rfl
 generalize hH3:ah H2 D (.lst [])=H3 at I3 I4 pg pt pe w0 nfp f3;generalize hs4:({s3 with heap:=mY (s3.heap.push {cls:=.type "dict",data:=.dict #[]}) scope.names}:aj)=s4 at I4⊢;have st4:tn 0 s4.heap:=T.keep _ _ _ st3 fun b _ o e=>by rw[<-hs4];exact yk _ _ _ _ (bV _ e)
 have stat:∀{σ':St}{H':Hp}{s':aj},Inv (X.blk s3 H3 scope ce fp) [] σ' H' s'->(∀b∈fp,H' b=J0)->∀b∈fp,iu (X.blk s3 H3 scope ce fp) [] H' b:=fun{σ' H' s'} I' hn b hb=>
  ⟨hn b hb,(I'.ok.exf b hb).1,I'.ok.exfs b hb,.inl hb,fun x c e=>(I'.ok.exf b hb).2 x c e,fun p hp=>J5 (show p∈([]:List (aa×Obj))++[]from hp) (by simp)⟩
 have loop:hX (aC X.prog X.w) X.A (.compLoop (.ListComp elt [⟨tg,iter,ifs,0⟩] scope pos) 0 (.ref it) (.ref D) ce) (rN (aC X.prog X.w) X.A X.xe use Qf (.ref D) s3.heap.objs.size) s4:=by
  refine Gq (fun n s'=>∃i H',Inv (X.blk s3 H3 scope ce fp) [] (cu σ (own.map (·.2))) H' s'/\tn i s'.heap/\(∀b∈fp,H' b=J0)/\W i n H') ?_ m0 ⟨0,H3,I4,st4,nfp,w0⟩;rintro n s5 ⟨i,H5,I5,st5,n5,w5⟩;rcases turn i n H5 w5 with⟨stop,qq⟩|⟨go,Nx,hNx,step⟩
  .have td:=T.done (X.blk s3 H3 scope ce fp) rfl rfl rfl hc i [] s5 _ H5 (fun _ _=>False) I5 (stat I5 n5) st5 stop;refine kS td fun r s6⟨hr,I6⟩=>?_;subst hr;have I7:Inv X pins σ H5 s6:=I3.call' (ch:=fp) I6.os I6.base I6.hok I6.bare fun b hb=>⟨(f3 b hb).1.2.2.2.1,(f3 b hb).1.2.1,(f3 b hb).1.2.2.2.2.1,(f3 b hb).1.2.2.2.2.2⟩
   have nC:H5 s3.heap.objs.size=none:=by
    have z:H5 ce.locals=none:=I6.free;rw[cL]at z;exact z
   obtain⟨m,hn,_⟩:=I6.loc;have hn:s6.heap.Ns ce.locals m:=hn;rw[cL]at hn;exact hRR D s3.heap.objs.size s6 m H5 I7 qq hn (I3.fpOk (aF _) nC)
  .have ti:=T.item (X.blk s3 H3 scope ce fp) rfl rfl rfl hc i [] s5 _ H5 (fun _ _=>False) I5 (stat I5 n5) st5 go;refine kS ti fun r s6⟨u,hr,h6⟩=>?_;subst hr;refine kS h6 fun _ s7⟨x,H7,I7,r7,y7,st7,n7⟩=>?_;have I7':=I7.pinned (stat I7 n7) (T.obj _ _ st7);refine kS (pg _ s7 _ H7 x u _ I7' r7 (step x H7 y7)) fun _ s8⟨σ8,H8,I8,hw8,q8⟩=>?_;refine kS (pt _ s8 σ8 H8 _ I8 q8) fun b s9⟨H9,I9,q9⟩=>?_
   have fin:∀{s':aj}{H':Hp},Inv (X.blk s3 H3 scope ce fp) ([]++oz fp s7.heap) σ8 H' s'->Nx H'->∃m,m<n/\∃i H',Inv (X.blk s3 H3 scope ce fp) [] (cu σ (own.map (·.2))) H' s'/\tn i s'.heap/\(∀b∈fp,H' b=J0)/\W i m H':=fun{s' H'} I' nx=>by
    obtain⟨m',hm,w'⟩:=hNx H' nx
    have pin':∀b∈fp,∀o,s7.heap.get? b=TL o->s'.heap.get? b=TL o/\H' b=none:=fun b hb o e=>
     let z:=I'.pin (b,o) (dA _ (dA _ (uM hb e)))
     ⟨z.1,z.2.1⟩
    have hl:(cu σ (own.map (·.2))).length=σ8.length:=by rw[<-hw8,yR]
    refine⟨m',hm,i+1,H',(I'.unpinned (pins:=[])).weak hl (fun j v e=>?_),T.keep _ _ _ st7 fun b hb o e=>(pin' b hb o e).1,fun b hb=>?_,w'⟩
    .rw[<-hw8]at e;exact(yS e).1
    .obtain⟨o,e,_⟩:=T.obj _ _ st7 b hb;exact(pin' b hb o e).2
   cases b with
   |false=>
    simp only[aU,if_false]at q9⊢;exact fin I9 q9
   |true=>
    simp only[if_true]at q9⊢;have pe:=pe (oz fp s7.heap);have I9F:Inv (X.blkF Cl E s3 H3 scope ce fp (oz fp s7.heap)) [] σ8 H9 s9:=I9.toF;refine iE (pe [] s9 σ8 H9 _ I9F q9) (fun z s10⟨yv,H10,I10,r10,acc,hD10,hz10,nx⟩=>?_) (fun e s10 hx=>?_)
    .exact FI (X:=X.blk s3 H3 scope ce fp) I10.ofF hD10 hz10 r10 fun s11 I11=>fin (by rw[cD]at I11;rw[nD];exact I11) nx
    .exact OL L I3 cL (by subst hce;rfl) (fun b hb=>(f3 b hb).1) (fun b hb=>by
      obtain⟨o,e,_⟩:=T.obj _ _ st7 b hb;exact⟨o,uM hb e⟩) hx
 exact OI loop (T.self X.A 0 _ _ _ st4 loop)
theorem UA{Cl:aa}{E:XK}(L:qL X Cl E){i:Nat}{y:Str}{py:Pos}{elt tg iter:aM}{ifs:List aM}{scope:cN}{own:List (Str×Nat)}{pos spos:Pos}{wi:TI}{g:TG}{tt:TT}{te:TE}(hc:X.calm=J1)(hN:X.N.Nodup)(hy:X.N[i]?=TL y)(hyl:X.env.scope.names.lookup y=TL .local)
  (hsw:oE (.ListComp elt [⟨tg,iter,ifs,0⟩] scope pos) (TL (.Name y py)) spos.line X.env=pure J1)(hi:PI X tg iter wi)(ok:oM X.N X.env.scope scope own)
  (hg:∀(s:aj)(H:Hp)(C:aa)(cl:List (Str×aa))(fp:List aa),PG (X.blk s H scope (fJ scope cl C X.env) fp) tg g)(ht:∀(s:aj)(H:Hp)(C:aa)(cl:List (Str×aa))(fp:List aa),pD (X.blk s H scope (fJ scope cl C X.env) fp) ifs tt)
  (he:∀(s:aj)(H:Hp)(C:aa)(cl:List (Str×aa))(fp:List aa)(pn:List (aa×Obj)),PE (X.blkF Cl E s H scope (fJ scope cl C X.env) fp pn) elt te)(hs:∀x,uq iter X.env x=pure x:=by intro _;rfl):
  PS X (.Assign [.Name y py] (.ListComp elt [⟨tg,iter,ifs,0⟩] scope pos) spos) (vv (oF wi g tt te (own.map (·.2))) (lJ i)):=by
 intro pins s σ H D I h;rw[Pz _ _ _ _ hsw];refine ay (wpAny_standAt (ay ?_));show az _ X.A (do let _<-AJ (.ListComp elt [⟨tg,iter,ifs,0⟩] scope pos) scope X.env (firstIterPos [⟨tg,iter,ifs,0⟩] pos) (newList []) J2 (bF iter X.env) (TL (assign (.Name y py) X.env))) _ _ s;have h:oF wi g tt te (own.map (·.2)) σ H (fun x H1=>lJ i x σ H1 D.nx):=h;refine ay (aR (QJ L (Qf:=fun _ s'=>SP X pins D .next s') hc hN I hi ok hg ht he hs h fun Ls C s' m H' I' q hn f=>?_) fun _ s' hq=>aT (aT hq));show az _ _ (assign (.Name y py) X.env (.ref Ls)) _ _ _;refine MD (DI (v:=V.ref Ls) I' hN hy (.inl hyl) rfl (fun s2 I2⟨a,sb,ha⟩=>?_) (.inr hyl));obtain⟨f0,f1,f2,f3,f4,f5⟩:=f
 have haC:C≠a:=by
  rcases ha with z|z
  .rw[z];exact f1
  .exact fun e=>f4 y a z e.symm
 refine⟨m,hn.sameBut sb haC,fun h3 sb3=>?_⟩;exact⟨_,H',I2.turned (t':=s2.toks) (fun b o hb e=>(sb3.2 b hb).trans e) f0 f1 f3 f4 f5,q⟩
end
end L2
namespace PP
open PySem PySem.Spec L2
open PyProof.Rows hiding St
open Pg PM
noncomputable def bv(s:ag):List V:=s.map fun c=>V.int (c.toNat:Int)
theorem cY(s:ag):(bv s).length=s.length:=aE _
theorem Ax{s:ag}{i:Nat}{v:V}(h:(bv s)[i]?=TL v):∃c,s[i]?=TL c/\v=.int (c.toNat:Int):=by
 unfold bv at h;rw[cI]at h;cases e:s[i]? with
 |none=>rw[e]at h;cases h
 |some c=>rw[e]at h;exact⟨c,rfl,(dN h).symm⟩
theorem nW{s:ag}{i:Nat}{c:UInt8}(h:s[i]?=TL c):(bv s)[i]?=TL (.int (c.toNat:Int)):=by
 unfold bv;rw[cI,h];rfl
theorem xc(s:ag)(i j:Nat):((bv s).drop i).take j=bv ((s.drop i).take j):=by
 unfold bv;rw[<-zF,<-vZ]
theorem Ov(s t:ag):bv s++bv t=bv (s++t):=by
 unfold bv;rw[cx]
def BL(K:aw)(G:Hp)(a:aa)(s:ag):Prop:=ak K G a (bv s)
theorem ak.mono{K:aw}{G G':Hp}{a:aa}{xs:List V}(e:bh G G')(h:ak K G a xs):ak K G' a xs:=e.seq h
theorem BL.mono{K:aw}{G G':Hp}{a:aa}{s:ag}(e:bh G G')(h:BL K G a s):BL K G' a s:=e.seq h
theorem bU{α β:Type}{F:α->β->Prop}:∀{as:List α}{bs:List β},bK F as bs->as.length=bs.length
 |_,_,.nil=>rfl
 |_,_,.cons _ t=>by rw[bH,bH,bU t]
theorem dP{α β:Type}{F:α->β->Prop}:∀{as:List α}{bs:List β}{i:Nat}{a:α},bK F as bs->as[i]?=TL a->∃b,bs[i]?=TL b/\F a b
 |_,_,i,_,.nil,h=>by simp at h
 |_,_,0,_,.cons r _,h=>by cases h;exact⟨_,rfl,r⟩
 |_,_,i+1,_,.cons _ t,h=>dP (i:=i) t h
theorem jW{α β:Type}{F:α->β->Prop}:∀{as:List α}{bs:List β}{i:Nat}{b:β},bK F as bs->bs[i]?=TL b->∃a,as[i]?=TL a/\F a b
 |_,_,i,_,.nil,h=>by simp at h
 |_,_,0,_,.cons r _,h=>by cases h;exact⟨_,rfl,r⟩
 |_,_,i+1,_,.cons _ t,h=>jW (i:=i) t h
theorem cP{α β:Type}{F F':α->β->Prop}(hF:∀a b,F a b->F' a b):∀{as:List α}{bs:List β},bK F as bs->bK F' as bs
 |_,_,.nil=>.nil
 |_,_,.cons r t=>.cons (hF _ _ r) (cP hF t)
theorem jV{α β:Type}{F:α->β->Prop}:∀{as as':List α}{bs bs':List β},bK F as bs->bK F as' bs'->bK F (as++as') (bs++bs')
 |_,_,_,_,.nil,s=>s
 |_,_,_,_,.cons r t,s=>.cons r (jV t s)
theorem eM{α β:Type}{f:α->β}{l:List α}{i:Nat}{y:β}(h:(l.map f)[i]?=TL y):∃x,l[i]?=TL x/\y=f x:=by
 rw[cI]at h;cases e:l[i]? with
 |none=>rw[e]at h;cases h
 |some c=>rw[e]at h;exact⟨c,rfl,(dN h).symm⟩
def Fs(K:aw)(G:Hp)(a:aa)(rs:List ag):Prop:=∃as:List aa,G a=TL (.lst (as.map V.ref))/\bK (fun p s=>BL K G p s) as rs
noncomputable def jO(c:MC):List (Str×V):=[("stays",.int c.stays),("moves",.int c.moves),("optional",.bl c.opt)]
noncomputable def dC(lc:aa)(opt:Nat)(dd:aa):List (Str×V):=[("cells",.ref lc),("optional",.int opt),("steps",.ref dd)]
structure Cn where
 cell:aa
 mat:aa
 tab:aa
 lp:Pos
 lq:Str
def CellAt(A:Cn)(G:Hp)(a:aa)(c:MC):Prop:=∃dx,G a=TL (.ins A.cell dx (jO c))
def gZ(A:Cn)(G:Hp)(a:aa)(cs:List MC):Prop:=∃as:List aa,G a=TL (.lst (as.map V.ref))/\bK (fun p c=>CellAt A G p c) as cs
theorem CellAt.mono{A:Cn}{G G':Hp}{a:aa}{c:MC}(e:bh G G')(h:CellAt A G a c):CellAt A G' a c:=by
 obtain⟨dx,h⟩:=h;exact⟨dx,e _ _ h⟩
theorem gZ.mono{A:Cn}{G G':Hp}{a:aa}{cs:List MC}(e:bh G G')(h:gZ A G a cs):gZ A G' a cs:=by
 obtain⟨as,h1,h2⟩:=h;exact⟨as,e _ _ h1,cP (fun _ _ q=>q.mono e) h2⟩
theorem OD{c d:MC}(h:jO c=jO d):c=d:=by
 obtain⟨a1,b1,o1⟩:=c;obtain⟨a2,b2,o2⟩:=d;unfold jO at h;simp only[zy,rf,V.int.injEq,V.bl.injEq,true_and,and_true,EA]at h;obtain⟨rfl,rfl,rfl⟩:=h;rfl
theorem gZ.inj{A:Cn}{G:Hp}{a:aa}{cs ds:List MC}(h:gZ A G a cs)(h':gZ A G a ds):cs=ds:=by
 obtain⟨as,e,p⟩:=h;obtain⟨bs,e',q⟩:=h';rw[e]at e';have e':as.map V.ref=bs.map V.ref:=by injection e' with e';injection e'
 have:as=bs:=(List.map_inj_right (fun _ _ z=>by cases z;rfl)).mp e';subst this;clear e e'
 induction p generalizing ds with
 |nil=>cases q;rfl
 |cons r t ih=>
  cases q with
  |cons r' t'=>
   obtain⟨dx,r⟩:=r;obtain⟨dx',r'⟩:=r';rw[r]at r';have:=OD (show jO _=jO _ by injection r' with r';injection r');rw[this,ih rfl t']
structure lF(G:Hp)(cs:List MC)(kvs:List (aP×V)):Prop where
 nd:(kvs.map (·.1)).Nodup
 at_:∀k v,cj kvs k=TL v->∃(c:UInt8)(t:aa)(sm mm:Nat),k=bZ (c.toNat:Int)/\v=.ref t/\G t=TL (.tup [.int sm,.int mm])/\iw cs (fun x=>bJ x.stays c) sm/\iw cs (fun x=>bJ x.moves c) mm
theorem lF.mono{G G':Hp}{cs:List MC}{kvs:List (aP×V)}(e:bh G G')(h:lF G cs kvs):lF G' cs kvs:=
 ⟨h.nd,fun k v q=>by
  obtain⟨c,t,sm,mm,h1,h2,h3,h4⟩:=h.at_ k v q;exact⟨c,t,sm,mm,h1,h2,e _ _ h3,h4⟩⟩
def rM(q:Str)(c:aa):HO:=HO.ext fun h=>h.CodeRec (.ref c) q
def tT(A:Cn)(G:Hp)(ps:Array ae):Prop:=ps= #[]\/∃c,ps= #[cg A.lp.line,cg A.lp.col,.ref c]/\G c=TL (rM A.lq c)
theorem tT.mono{A:Cn}{G G':Hp}{ps:Array ae}(e:bh G G')(h:tT A G ps):tT A G' ps:=by
 rcases h with h|⟨c,h,g⟩
 .exact .inl h
 .exact .inr ⟨c,h,e _ _ g⟩
def iI(A:Cn)(G:Hp)(b:aa):Prop:=b=A.tab\/∃m dx lc opt,G m=TL (.ins A.mat dx (dC lc opt b))
structure Wd(A:Cn)(G H:Hp):Prop where
 sub:bh G H
 cach:∀m dx lc opt dd,G m=TL (.ins A.mat dx (dC lc opt dd))->G dd=J0/\∃kvs cs,H dd=TL (.dK kvs)/\gZ A G lc cs/\lF G cs kvs
 inj:∀m dx lc opt m' dx' lc' opt' dd,G m=TL (.ins A.mat dx (dC lc opt dd))->G m'=TL (.ins A.mat dx' (dC lc' opt' dd))->m=m'
 tab:G A.tab=J0/\∃ps,H A.tab=TL (.tbl ps)/\tT A G ps
theorem Wd.there{A:Cn}{G H:Hp}(w:Wd A G H){b:aa}(h:iI A G b):(∃kvs,H b=TL (.dK kvs))\/∃ps,H b=TL (.tbl ps):=by
 rcases h with rfl|⟨m,dx,lc,opt,e⟩
 .obtain⟨_,ps,h,_⟩:=w.tab;exact .inr ⟨ps,h⟩
 .obtain⟨_,kvs,_,h,_⟩:=w.cach _ _ _ _ _ e;exact .inl ⟨kvs,h⟩
theorem Wd.notL{A:Cn}{G H:Hp}(wd:Wd A G H){a:aa}{o:HO}(h:H a=TL o)(hn:∀kvs,o≠.dK kvs)(hn2:∀ps,o≠.tbl ps:=by intro _ z;cases z): ¬iI A G a:=fun z=>by
 rcases wd.there z with⟨kvs,e⟩|⟨ps,e⟩
 .rw[h]at e;cases e;exact hn _ rfl
 .rw[h]at e;cases e;exact hn2 _ rfl
theorem Wd.nocache{A:Cn}{G H:Hp}(w:Wd A G H){b:aa}(h:H b=J0): ¬iI A G b:=fun q=>by
 rcases w.there q with⟨_,e⟩|⟨_,e⟩<;>·rw[h]at e;cases e
theorem Wd.noG{A:Cn}{G H:Hp}(w:Wd A G H){b:aa}(h:H b=J0):G b=none:=w.sub.free h
structure Step(A:Cn)(G H G' H':Hp):Prop where
 wd:Wd A G' H'
 grow:∀b,H b≠J0->G' b=G b
 keep:∀b o,H b=TL o-> ¬iI A G b->H' b=TL o
 newc:∀b,iI A G' b->iI A G b\/H b=J0
section
variable{A:Cn}{G H G1 H1 G2 H2:Hp}
theorem Step.refl(w:Wd A G H):Step A G H G H:=⟨w,fun _ _=>rfl,fun _ _ h _=>h,fun _ h=>.inl h⟩
theorem Step.same(w:Wd A G H)(s:Step A G H G1 H1):bh G G1:=fun b o e=>by
 rw[s.grow b (by rw[w.sub b o e];simp)];exact e
theorem Step.cache(w:Wd A G H)(s:Step A G H G1 H1){b:aa}(h:iI A G b):iI A G1 b:=by
 rcases h with h|⟨m,dx,lc,opt,e⟩
 .exact .inl h
 .exact .inr ⟨m,dx,lc,opt,s.same w _ _ e⟩
theorem Step.there(w:Wd A G H)(s:Step A G H G1 H1){b:aa}(h:H b≠J0):H1 b≠none:=by
 by_cases q:iI A G b
 .rcases s.wd.there (s.cache w q)with⟨_,e⟩|⟨_,e⟩<;>·rw[e];simp
 .cases e:H b with
  |none=>exact J5 e h
  |some o=>rw[s.keep b o e q];simp
theorem Step.free(w:Wd A G H)(s:Step A G H G1 H1){b:aa}(h:H1 b=J0):H b=none:=by
 cases e:H b with
 |none=>rfl
 |some o=>exact J5 h (s.there w (by rw[e];simp))
theorem Step.trans(w:Wd A G H)(s:Step A G H G1 H1)(t:Step A G1 H1 G2 H2):Step A G H G2 H2 where
 wd:=t.wd
 grow b h:=by rw[t.grow b (s.there w h),s.grow b h]
 keep b o h q:=t.keep b o (s.keep b o h q) fun z=>by
  rcases s.newc b z with z|z
  .exact q z
  .rw[h]at z;cases z
 newc b h:=by
  rcases t.newc b h with z|z
  .exact s.newc b z
  .exact .inr (s.free w z)
def fU(A:Cn)(o:HO):Prop:=∀dx lc opt dd,o≠.ins A.mat dx (dC lc opt dd)
theorem aS{xs:List V}:fU A (.lst xs):=fun _ _ _ _ z=>by cases z
theorem dh{xs:List V}:fU A (.tup xs):=fun _ _ _ _ z=>by cases z
theorem uN{C dx:aa}{fs:List (Str×V)}(h:fs.head?.map (·.1)≠TL "cells"):fU A (.ins C dx fs):=fun _ _ _ _ z=>by
 cases z;exact h rfl
theorem Step.new(w:Wd A G H)(s:Step A G H G1 H1){p:aa}{o:HO}(hp:H1 p=J0):Step A G H G1 (ah H1 p o) where
 wd:=⟨fun b o' e=>by
   have:=s.wd.sub b o' e;rw[aO (dq this hp)];exact this,fun m dx lc opt dd e=>by
   obtain⟨h1,kvs,cs,h2,h3,h4⟩:=s.wd.cach m dx lc opt dd e;exact⟨h1,kvs,cs,by rw[aO (dq h2 hp)];exact h2,h3,h4⟩,s.wd.inj,by
   obtain⟨h1,ps,h2,h3⟩:=s.wd.tab;exact⟨h1,ps,by rw[aO (dq h2 hp)];exact h2,h3⟩⟩
 grow:=s.grow
 keep b o' h q:=by
  have:=s.keep b o' h q;rw[aO (dq this hp)];exact this
 newc:=s.newc
theorem Eb{p:aa}{o:HO}(hp:G p=J0)(nm:fU A o){b:aa}:iI A (ah G p o) b↔iI A G b:=by
 constructor
 .rintro(h|⟨m,dx,lc,opt,e⟩)
  .exact .inl h
  by_cases q:m=p
  .subst q;rw[ax]at e;cases e;exact J5 rfl (nm _ _ _ _)
  .rw[aO q]at e;exact .inr ⟨m,dx,lc,opt,e⟩
 .rintro(h|⟨m,dx,lc,opt,e⟩)
  .exact .inl h
  .exact .inr ⟨m,dx,lc,opt,by rw[aO (dq e hp)];exact e⟩
theorem bx{p:aa}{o:HO}(hp:G p=J0):bh G (ah G p o):=fun b o' e=>by rw[aO (dq e hp)];exact e
theorem BA{p m dx lc dd:aa}{opt:Nat}{o:HO}(nm:fU A o)(e:ah G p o m=TL (.ins A.mat dx (dC lc opt dd))):m≠p/\G m=TL (.ins A.mat dx (dC lc opt dd)):=by
 by_cases q:m=p
 .subst q;rw[ax]at e;cases e;exact J5 rfl (nm _ _ _ _)
 .rw[aO q]at e;exact⟨q,e⟩
theorem Wd.seal(w:Wd A G H){q:aa}{o:HO}(hq:H q=TL o)(g:G q=J0)(nc: ¬iI A G q)(nm:fU A o):Wd A (ah G q o) H where
 sub b o' e:=by
  by_cases z:b=q
  .subst z;rw[ax]at e;cases e;exact hq
  .rw[aO z]at e;exact w.sub b o' e
 cach m dx lc opt dd e:=by
  obtain⟨_,e⟩:=BA nm e;obtain⟨h1,kvs,cs,h2,h3,h4⟩:=w.cach m dx lc opt dd e;have:dd≠q:=fun z=>nc (.inr ⟨m,dx,lc,opt,by rw[<-z];exact e⟩);exact⟨by rw[aO this];exact h1,kvs,cs,h2,h3.mono (bx g),h4.mono (bx g)⟩
 tab:=by
  obtain⟨h1,ps,h2,h3⟩:=w.tab;exact⟨by rw[aO (fun z=>nc (.inl z.symm))];exact h1,ps,h2,h3.mono (bx g)⟩
 inj m dx lc opt m' dx' lc' opt' dd e e':=w.inj m dx lc opt m' dx' lc' opt' dd (BA nm e).2 (BA nm e').2
theorem Step.seal(w:Wd A G H)(s:Step A G H G1 H1){q:aa}{o:HO}(h0:H q=J0)(hq:H1 q=TL o)(g:G1 q=J0)(nc: ¬iI A G1 q)(nm:fU A o):Step A G H (ah G1 q o) H1 where
 wd:=s.wd.seal hq g nc nm
 grow b h:=by
  have:b≠q:=fun z=>h (by rw[z];exact h0);rw[aO this];exact s.grow b h
 keep:=s.keep
 newc b h:=s.newc b ((Eb g nm).mp h)
theorem Step.newI(w:Wd A G H)(s:Step A G H G1 H1){p:aa}{o:HO}(hp:H1 p=J0)(nm:fU A o):Step A G H (ah G1 p o) (ah H1 p o):=
 (s.new w hp).seal w (s.free w hp) ax (s.wd.noG hp) (s.wd.nocache hp) nm
structure ar(A:Cn)(H0 G H:Hp)(q:aa)(o:HO):Prop where
 new:H0 q=J0
 g:G q=J0
 nc: ¬iI A G q
 at_:H q=TL o
theorem ar.make(w:Wd A G H)(s:Step A G H G1 H1){p:aa}{o:HO}(hp:H1 p=J0):ar A H G1 (ah H1 p o) p o:=⟨s.free w hp,s.wd.noG hp,s.wd.nocache hp,ax⟩
theorem ar.call{H0:Hp}{q:aa}{o:HO}(x:ar A H0 G1 H1 q o)(t:Step A G1 H1 G2 H2):ar A H0 G2 H2 q o:=
 ⟨x.new,by rw[t.grow q (by rw[x.at_];simp)];exact x.g,(fun z=>by
  rcases t.newc q z with z|z
  .exact x.nc z
  .rw[x.at_]at z;cases z),t.keep q o x.at_ x.nc⟩
theorem ar.new_{H0:Hp}{q p:aa}{o o':HO}(x:ar A H0 G1 H1 q o)(hp:H1 p=J0):ar A H0 G1 (ah H1 p o') q o:=
 ⟨x.new,x.g,x.nc,by rw[aO (dq x.at_ hp)];exact x.at_⟩
theorem ar.newI{H0:Hp}{q p:aa}{o o':HO}(w:Wd A G1 H1)(x:ar A H0 G1 H1 q o)(hp:H1 p=J0)(nm:fU A o'):ar A H0 (ah G1 p o') (ah H1 p o') q o:=
 ⟨x.new,by rw[aO (dq x.at_ hp)];exact x.g,fun z=>x.nc ((Eb (w.noG hp) nm).mp z),by rw[aO (dq x.at_ hp)];exact x.at_⟩
theorem ar.other{H0:Hp}{q p:aa}{o o':HO}(x:ar A H0 G1 H1 q o)(hp:q≠p):ar A H0 G1 (ah H1 p o') q o:=
 ⟨x.new,x.g,x.nc,by rw[aO hp];exact x.at_⟩
theorem ar.put_{H0:Hp}{q:aa}{o o':HO}(x:ar A H0 G1 H1 q o):ar A H0 G1 (ah H1 q o') q o':=⟨x.new,x.g,x.nc,ax⟩
theorem Step.put(w:Wd A G H)(s:Step A G H G1 H1){q:aa}{o o':HO}(x:ar A H G1 H1 q o):Step A G H G1 (ah H1 q o') where
 wd:=⟨fun b u e=>by
   have:b≠q:=fun z=>by rw[z,x.g]at e;cases e
   rw[aO this];exact s.wd.sub b u e,fun m dx lc opt dd e=>by
   obtain⟨h1,kvs,cs,h2,h3,h4⟩:=s.wd.cach m dx lc opt dd e;have:dd≠q:=fun z=>x.nc (.inr ⟨m,dx,lc,opt,by rw[<-z];exact e⟩);exact⟨h1,kvs,cs,by rw[aO this];exact h2,h3,h4⟩,s.wd.inj,by
   obtain⟨h1,ps,h2,h3⟩:=s.wd.tab;exact⟨h1,ps,by rw[aO (fun z=>x.nc (.inl z.symm))];exact h2,h3⟩⟩
 grow:=s.grow
 keep b u h z:=by
  have:b≠q:=fun y=>by rw[y,x.new]at h;cases h
  rw[aO this];exact s.keep b u h z
 newc:=s.newc
theorem Step.sealO(w:Wd A G H)(s:Step A G H G1 H1){q:aa}{o:HO}(x:ar A H G1 H1 q o)(nm:fU A o):Step A G H (ah G1 q o) H1:=s.seal w x.new x.at_ x.g x.nc nm
theorem ar.seal_{H0:Hp}{q p:aa}{o o':HO}(x:ar A H0 G1 H1 q o)(y:ar A H0 G1 H1 p o')(hne:q≠p)(nm:fU A o'):ar A H0 (ah G1 p o') H1 q o:=
 ⟨x.new,by rw[aO hne];exact x.g,fun z=>x.nc ((Eb y.g nm).mp z),x.at_⟩
end
end PP
namespace PP
open PySem PySem.Spec L2
open PyProof.Rows hiding St
section
variable{σ:St}{H:Hp}{Q:VK}{D:ja}{ta tb tc te:TE}{tA tB':TT}{t u:TS}{K:aw}{v x y:V}{i j:Int}
theorem VL:DS t u D σ H=t {D with nx:=u D} σ H:=rfl
theorem UU{g:TG}:vv te g D σ H=te σ H fun x H1=>g x σ H1 D.nx:=rfl
theorem Vi:DO te D σ H=te σ H fun _ H1=>D.nx σ H1:=rfl
theorem VJ:vA te D σ H=te σ H D.rt:=rfl
theorem VA:DR D σ H=D.nx σ H:=rfl
theorem Vq{c:TT}:DQ c t u D σ H=c σ H fun b H1=>if b=J1 then t D σ H1 else u D σ H1:=rfl
theorem Vz:Mf D σ H=False:=rfl
theorem VS:kf 0 (TL v::σ) H Q=Q v H:=propext ⟨fun⟨_,e,q⟩=>by cases e;exact q,fun q=>⟨v,rfl,q⟩⟩
theorem VT{n:Nat}{o:Option V}:kf (n+1) (o::σ) H Q=kf n σ H Q:=rfl
theorem UO:tC v σ H Q=Q v H:=rfl
theorem VE{r:R2}:vz r ta tb σ H Q=ta σ H fun x H1=>tb σ H1 fun y H2=>r x y H2 Q:=rfl
theorem VR{r:V->Hp->VK->Prop}:Mq r ta σ H Q=ta σ H fun x H1=>r x H1 Q:=rfl
theorem UR{g:Int->V}:rU g (.int i) H Q=Q (g i) H:=propext ⟨fun⟨_,e,q⟩=>by cases e;exact q,fun q=>⟨i,rfl,q⟩⟩
theorem UQ{g:Int->Int->V}:kb g (.int i) (.int j) H Q=Q (g i j) H:=propext ⟨fun⟨_,_,e,e',q⟩=>by cases e;cases e';exact q,fun q=>⟨i,j,rfl,rfl,q⟩⟩
theorem UP{C:Int->Int->Prop}{g:Int->Int->V}:rI C g (.int i) (.int j) H Q=(C i j/\Q (g i j) H):=propext ⟨fun⟨_,_,e,e',q⟩=>by cases e;cases e';exact q,fun q=>⟨i,j,rfl,rfl,q⟩⟩
theorem GB:decide (V.int i=V.int j)=decide (i=j):=by
 by_cases h:i=j
 .subst h;simp
 .rw[dF h,dF (fun z=>h (by cases z;rfl))]
theorem JG:oB (.int i) (.int j) H Q=Q (.bl (decide (i=j))) H:=by
 unfold oB;rw[GB];exact propext ⟨fun h=>h.2,fun h=>⟨rfl,h⟩⟩
theorem Vj:oB .non (.int j) H Q=Q (.bl J2) H:=by
 unfold oB;rw[dF (fun z=>by cases z)];exact propext ⟨fun h=>h.2,fun h=>⟨rfl,h⟩⟩
theorem Vy:CJ (.int i) (.int j) H Q=Q (.bl (!decide (i=j))) H:=by
 unfold CJ;rw[GB];exact propext ⟨fun h=>h.2,fun h=>⟨rfl,h⟩⟩
theorem VP{t:TE}{Q:Bool->Hp->Prop}:DT t σ H Q=t σ H fun x H'=>∃k,x=.bl k/\Q k H':=rfl
theorem VO{t:TE}{Q:Bool->Hp->Prop}:tB t σ H Q=t σ H fun x H'=>∃k,x=.bl k/\Q k H':=rfl
theorem UV{b:Bool}{P:Bool->Prop}:(∃k,V.bl b=V.bl k/\P k)=P b:=propext ⟨fun⟨_,e,q⟩=>by cases e;exact q,fun q=>⟨b,rfl,q⟩⟩
theorem US{Q:Bool->Hp->Prop}:LU tA tB' σ H Q=tA σ H fun c H1=>if c=J1 then tB' σ H1 Q else Q J2 H1:=rfl
theorem VF{Q:Bool->Hp->Prop}:Mi tA tB' σ H Q=tA σ H fun c H1=>if c=J1 then Q J1 H1 else tB' σ H1 Q:=rfl
theorem VD{Q:Bool->Hp->Prop}:Mh tA σ H Q=tA σ H fun c H1=>Q (!c) H1:=rfl
theorem UT:LV ta tb σ H Q=ta σ H fun x H1=>∃c,x=.bl c/\if c=J1 then tb σ H1 Q else Q (.bl J2) H1:=rfl
theorem VG:Mj ta tb σ H Q=ta σ H fun x H1=>∃c,x=.bl c/\if c=J1 then Q (.bl J1) H1 else tb σ H1 Q:=rfl
theorem Vp:Mc tA ta tb σ H Q=tA σ H fun c H1=>if c=J1 then ta σ H1 Q else tb σ H1 Q:=rfl
theorem JH{n:Nat}{R:St->Hp->Prop}:lJ n v σ H R=R (σ.set n (TL v)) H:=rfl
theorem Vn{R:St->Hp->Prop}:Hd [] σ H R=R σ H:=propext ⟨fun h=>h.2,fun h=>⟨rfl,h⟩⟩
theorem Vm{g:TG}{gs:kE}{vs:List V}{R:St->Hp->Prop}:Hc g gs (v::vs) σ H R=g v σ H fun σ' H'=>gs vs σ' H' R:=propext ⟨fun⟨_,_,e,q⟩=>by cases e;exact q,fun q=>⟨_,_,rfl,q⟩⟩
theorem VB{R:List V->Hp->Prop}:kQ σ H R=R [] H:=rfl
theorem Va{tr:TA}{R:List V->Hp->Prop}:vw ta tr σ H R=ta σ H fun x H1=>tr σ H1 fun xs H2=>R (x::xs) H2:=rfl
theorem VQ{t:TA}:Mp t σ H Q=t σ H fun xs H1=>xs.length<=aZ/\∀p,H1 p=J0->Q (.ref p) (ah H1 p (.tup xs)):=rfl
theorem Vv{t:TA}:Me t σ H Q=t σ H fun xs H1=>xs.length<=aZ/\∀p,H1 p=J0->Q (.ref p) (ah H1 p (.lst xs)):=rfl
theorem UY{sp:Sp}{E:XK}{t:TA}:sN sp [] E t σ H Q=t σ H fun vs H1=>sp (vs++[]) H1 Q E:=rfl
theorem Vw{C:aa}{sp:Sp}{E:XK}{t:TA}:vx C sp [] E t σ H Q=t σ H fun vs H1=>∀x dx,H1 x=J0->H1 dx=J0->dx≠x->sp (.ref x::(vs++[])) (ah (ah H1 dx (.own x)) x (.ins C dx [])) (fun v H2=>v=.non/\Q (.ref x) H2) E:=rfl
theorem UZ{r:List V->Hp->VK->Prop}{t:TA}:yG r t σ H Q=t σ H fun vs H1=>r vs H1 Q:=rfl
theorem VC{R:Option Int->Hp->Prop}:Mg σ H R=R J0 H:=rfl
theorem VH{R:Option Int->Hp->Prop}:Ml te σ H R=te σ H fun x H1=>∃i,x=.int i/\R (TL i) H1:=rfl
theorem Vr{P:Int->Prop}:(∃k,V.int i=V.int k/\P k)=P i:=propext ⟨fun⟨_,e,q⟩=>by cases e;exact q,fun q=>⟨i,rfl,q⟩⟩
theorem VN{r:V->Option Int->Option Int->Hp->VK->Prop}{tl th:TO}:Mn r te tl th σ H Q=te σ H fun x H1=>tl σ H1 fun l H2=>th σ H2 fun u H3=>r x l u H3 Q:=rfl
theorem UW{T:String}{r:V->List V->Hp->VK->Prop}{t:TA}:DL K T r ta t σ H Q=ta σ H fun x H1=>sP K T x H1/\t σ H1 fun xs H2=>r x xs H2 Q:=rfl
theorem UX{T:String}{r:V->List V->Hp->VK->Prop}:LW K T r ta σ H Q=ta σ H fun x H1=>sP K T x H1/\r x [] H1 Q:=rfl
def sZ(K:aw)(f:Str)(x:V)(H:Hp)(Q:VK):Prop:=∃a C dx fs v,x=.ref a/\H a=TL (.ins C dx fs)/\dH K C/\cS K C f/\fs.lookup f=TL v/\Q v H
theorem Vk{f:Str}:yH K ta f σ H Q=ta σ H fun x H1=>sZ K f x H1 Q:=rfl
def Fu(K:aw)(f:Str)(x y:V)(H:Hp)(R:Hp->Prop):Prop:=∃a C dx fs,x=.ref a/\H a=TL (.ins C dx fs)/\dH K C/\cS K C f/\fs.length<1000/\R (ah H a (.ins C dx (bW f y fs)))
theorem VM{f:Str}{tv:TE}:JQ K ta tv f D σ H=tv σ H fun y H1=>ta σ H1 fun x H2=>Fu K f x y H2 fun H3=>D.nx σ H3:=rfl
def zL(J:It)(g:TG)(tb:TS)(D:ja)(σ:St)(H1:Hp):Prop:=∃W:Nat->Nat->St->Hp->Prop,(∃m,W 0 m σ H1)/\∀i m σ H,W i m σ H->
 (J.stop i H/\D.nx σ H)\/(J.go i H/\∃N:St->Hp->Prop,(∀σ' H',N σ' H'->∃m',m'<m/\W (i+1) m' σ' H')/\∀x H',J.yld i H x H'->g x σ H' fun σ2 H2=>tb {D with nx:=N,ct:=N,bk:=D.nx} σ2 H2)
theorem Vl{wi:TI}{g:TG}{tb:TS}:Mb wi g tb D σ H=wi σ H fun J H1=>zL J g tb D σ H1:=rfl
def FA(c:TT)(tb:TS)(D:ja)(σ:St)(H:Hp):Prop:=DU c tb D σ H
theorem VU{c:TT}{tb:TS}:DU c tb D σ H=FA c tb D σ H:=rfl
def vP(K:aw)(x:V)(H:Hp)(R:It->Hp->Prop):Prop:=∃a,x=.ref a/\(∃xs,ak K H a xs)/\R (mh K a) H
theorem Vs{R:It->Hp->Prop}:Hw K ta σ H R=ta σ H fun x H1=>vP K x H1 R:=rfl
def zp(K:aw)(vs:List V)(H:Hp)(R:It->Hp->Prop):Prop:=∃a xs,vs=[.ref a]/\ak K H a xs/\R (zu K a) H
theorem Vo{t:TA}{R:It->Hp->Prop}:Hv K t σ H R=t σ H fun vs H1=>zp K vs H1 R:=rfl
def Ey(vs:List V)(H:Hp)(R:It->Hp->Prop):Prop:=∃j:Int,vs=[.int j]/\ -(2^62)<=j/\j<2^62/\R (oX 0 j.toNat) H
theorem Vt{t:TA}{R:It->Hp->Prop}:Hx t σ H R=t σ H fun vs H1=>Ey vs H1 R:=rfl
def sX(J:It)(g:TG)(tt:TT)(te:TE)(vs:List Nat)(σ:St)(H1:Hp)(Q:VK):Prop:=∀D,H1 D=J0->∃W:Nat->Nat->Hp->Prop,(∃m,W 0 m (ah H1 D (.lst [])))/\∀i m H,W i m H->
 (J.stop i H/\Q (.ref D) H)\/(J.go i H/\∃Nx:Hp->Prop,(∀H',Nx H'->∃m',m'<m/\W (i+1) m' H')/\∀x H',J.yld i H x H'->g x (cu σ vs) H' fun σ2 H2=>cu σ2 vs=cu σ vs/\tt σ2 H2 fun b H3=>
  if b=J1 then te σ2 H3 fun y H4=>∃acc,H4 D=TL (.lst acc)/\acc.length<aZ/\Nx (ah H4 D (.lst (acc++[y])))else Nx H3)
theorem Vu{wi:TI}{g:TG}{tt:TT}{vs:List Nat}:oF wi g tt te vs σ H Q=wi σ H fun J H1=>sX J g tt te vs σ H1 Q:=rfl
theorem JI{R:Bool->Hp->Prop}:DV σ H R=R J1 H:=rfl
theorem VW:cu σ []=σ:=rfl
theorem VX{n:Nat}{vs:List Nat}:cu σ (n::vs)=(cu σ vs).set n none:=rfl
def zj(x y:V)(H:Hp)(Q:VK):Prop:=∃a v,x=.ref a/\fw H a y (TL v)/\Q v H
theorem Vb{td ty:TE}:LX td ty σ H Q=td σ H fun x H1=>ty σ H1 fun y H2=>zj x y H2 Q:=rfl
def qI(n:Bool)(x y:V)(H:Hp)(Q:VK):Prop:=∃a o,x=.ref a/\fw H a y o/\Q (.bl (n^^o.isSome)) H
theorem Vd{td ty:TE}:DM ty td σ H Q=ty σ H fun y H1=>td σ H1 fun x H2=>qI J2 x y H2 Q:=by
 unfold DM qI;simp only[qE]
theorem Vg{td ty:TE}:DN ty td σ H Q=ty σ H fun y H1=>td σ H1 fun x H2=>qI J1 x y H2 Q:=by
 unfold DN qI;simp only[qG]
def zk(x y v:V)(H:Hp)(R:Hp->Prop):Prop:=∃a H4,x=.ref a/\md H a y v H4/\R H4
theorem Vh{td ty tv:TE}:JP td ty tv D σ H=tv σ H fun v H1=>td σ H1 fun x H2=>ty σ H2 fun y H3=>zk x y v H3 fun H4=>D.nx σ H4:=rfl
theorem Ve:LZ σ H Q=∀p,H p=J0->Q (.ref p) (ah H p (.dK [])):=rfl
theorem Vf:Ma σ H Q=∀p,H p=J0->Q (.ref p) (ah H p (.dT [])):=rfl
theorem VI{C:aa}{E:XK}{t:TA}:Mm C E t D σ H=t σ H fun vs H1=>vs.length<=aZ/\E (.ref C) J0 H1:=rfl
variable{a p:aa}{xs ys:List V}
theorem bz{C dx:aa}{fs:List (Str×V)}{f:Str}(h:H a=TL (.ins C dx fs))(c:dH K C)(n:cS K C f)(l:fs.lookup f=TL v)(q:Q v H):sZ K f (.ref a) H Q:=⟨a,C,dx,fs,v,rfl,h,c,n,l,q⟩
theorem fq{C dx:aa}{fs:List (Str×V)}{f:Str}{R:Hp->Prop}(h:H a=TL (.ins C dx fs))(c:dH K C)(n:cS K C f)(l:fs.length<1000)(q:R (ah H a (.ins C dx (bW f y fs)))):Fu K f (.ref a) y H R:=⟨a,C,dx,fs,rfl,h,c,n,l,q⟩
theorem fB{k:Nat}(h:ak K H a xs)(e:xs[k]?=TL v)(q:Q v H):vc K (.ref a) (.int (k:Int)) H Q:=⟨a,xs,_,v,rfl,rfl,h,FK e,q⟩
theorem cH{k:Nat}(h:bT K H a xs)(e:xs[k]?=TL v)(q:Q v H):CI K (.ref a) (.int (k:Int)) H Q:=⟨a,xs,_,v,rfl,rfl,h,FK e,q⟩
theorem iX{lo hi:Option Int}(h:ak K H a xs)(q:∀p,H p=J0->Q (.ref p) (ah H p (.lst (eB xs lo hi)))):mZ K (.ref a) lo hi H Q:=⟨a,xs,rfl,h,q⟩
theorem eP(h:ak K H a xs):sP K "list" (.ref a) H:=.inl ⟨rfl,xs,h⟩
theorem gh(h:H a=TL (.lst xs))(l:xs.length<aZ)(q:Q .non (ah H a (.lst (xs++[y])))):CH (.ref a) [y] H Q:=⟨a,xs,y,rfl,rfl,h,l,q⟩
theorem yX{b:aa}(h:H a=TL (.lst xs))(hb:H b=TL (.lst ys))(l:xs.length+ys.length<=aZ)(q:Q .non (ah H a (.lst (xs++ys)))):JD (.ref a) [.ref b] H Q:=⟨a,b,xs,ys,rfl,rfl,h,hb,l,q⟩
theorem sU{b:aa}(h:H a=TL (.lst xs))(hb:H b=TL (.lst ys))(l:xs.length+ys.length<=aZ)(q:∀p,H p=J0->Q (.ref p) (ah H p (.lst (xs++ys)))):vb (.ref a) (.ref b) H Q:=⟨a,b,xs,ys,rfl,rfl,h,hb,l,q⟩
theorem nj{kvs:List (aP×V)}{k:aP}(h:H a=TL (.dK kvs))(e:cj kvs k=TL v)(q:Q v H):zj (.ref a) (kV k) H Q:=⟨a,v,rfl,by rw[<-e];exact fw.k h,q⟩
theorem vI{n:Bool}{kvs:List (aP×V)}{k:aP}(h:H a=TL (.dK kvs))(q:Q (.bl (n^^(cj kvs k).isSome)) H):qI n (.ref a) (kV k) H Q:=⟨a,_,rfl,fw.k h,q⟩
theorem Ek{kvs:List (aP×V)}{k:aP}{R:Hp->Prop}(h:H a=TL (.dK kvs))(l:kvs.length<aZ)(q:R (ah H a (.dK (dr kvs k v)))):zk (.ref a) (kV k) v H R:=⟨a,_,rfl,md.k h l,q⟩
theorem kh{g:TG}{tb:TS}(h:ak K H a xs)(Pv:Nat->St->Hp->Prop)(h0:Pv 0 σ H)(hl:∀i σ H,i<=xs.length->Pv i σ H->ak K H a xs)
  (hs:∀i x σ H,xs[i]?=TL x->Pv i σ H->g x σ H fun σ2 H2=>tb {D with nx:=Pv (i+1),ct:=Pv (i+1),bk:=D.nx} σ2 H2)(hd:∀σ H,Pv xs.length σ H->D.nx σ H):vP K (.ref a) H fun J H1=>zL J g tb D σ H1:=
 ⟨a,rfl,⟨xs,h⟩,PU Pv h0 hl hs hd⟩
theorem qB{gs:kE}{tb:TS}(h:ak K H a xs)(Pv:Nat->St->Hp->Prop)(h0:Pv 0 σ H)(hl:∀i σ H,i<=xs.length->Pv i σ H->ak K H a xs)
  (hs:∀i x σ H T,xs[i]?=TL x->Pv i σ H->H T=J0->gs [.int (i:Nat),x] σ (ah H T (.tup [.int (i:Nat),x])) fun σ2 H2=>tb {D with nx:=Pv (i+1),ct:=Pv (i+1),bk:=D.nx} σ2 H2)(hd:∀σ H,Pv xs.length σ H->D.nx σ H):
  zp K [.ref a] H fun J H1=>zL J (xx K 2 gs) tb D σ H1:=by
 refine⟨a,xs,rfl,h,fun i m σ H=>m=xs.length-i/\i<=xs.length/\Pv i σ H,⟨xs.length,by simp,bI _,h0⟩,?_⟩;rintro i m σ H ⟨rfl,hi,p⟩;have q:=hl i σ H hi p;by_cases hlt:i<xs.length
 .refine .inr ⟨⟨xs,xs[i],q,by simp[hlt]⟩,Pv (i+1),fun σ' H' p'=>⟨xs.length-(i+1),by lia,rfl,hlt,p'⟩,fun x H' y=>?_⟩;obtain⟨T,z,rfl,hT,rfl,e⟩:=y;exact⟨T,_,rfl,bT.of ax,rfl,hs i z σ H T (e xs q) p hT⟩
 .have e:i=xs.length:=by lia
  subst e;exact .inl ⟨⟨xs,q,aF _⟩,hd σ H p⟩
theorem qC{c:TT}{tb:TS}(Pv:Nat->St->Hp->Prop)(h0:∃m,Pv m σ H)
  (hs:∀m σ H,Pv m σ H->c σ H fun b H1=>if b=J1 then∃N:St->Hp->Prop,(∀σ' H',N σ' H'->∃m',m'<m/\Pv m' σ' H')/\tb {D with nx:=N,ct:=N,bk:=D.nx} σ H1 else D.nx σ H1):FA c tb D σ H:=⟨Pv,h0,hs⟩
theorem gY{g:TG}{tt:TT}{vs:List Nat}(h:ak K H a xs)(Pv:aa->Nat->Hp->Prop)(h0:∀D,H D=J0->Pv D 0 (ah H D (.lst [])))(hl:∀D i H,i<=xs.length->Pv D i H->ak K H a xs)
  (hs:∀D i x H,xs[i]?=TL x->Pv D i H->g x (cu σ vs) H fun σ2 H2=>cu σ2 vs=cu σ vs/\tt σ2 H2 fun b H3=>
   if b=J1 then te σ2 H3 fun y H4=>∃acc,H4 D=TL (.lst acc)/\acc.length<aZ/\Pv D (i+1) (ah H4 D (.lst (acc++[y])))else Pv D (i+1) H3)(hd:∀D H,Pv D xs.length H->Q (.ref D) H):
  vP K (.ref a) H fun J H1=>sX J g tt te vs σ H1 Q:=
 ⟨a,rfl,⟨xs,h⟩,fun D hD=>QK (Pv D) (h0 D hD) (hl D) (hs D) (hd D)⟩
theorem YQ{gs:kE}{tt:TT}{vs:List Nat}(h:ak K H a xs)(Pv:aa->Nat->Hp->Prop)(h0:∀D,H D=J0->Pv D 0 (ah H D (.lst [])))(hl:∀D i H,i<=xs.length->Pv D i H->ak K H a xs)
  (hs:∀D i x H T,xs[i]?=TL x->Pv D i H->H T=J0->gs [.int (i:Nat),x] (cu σ vs) (ah H T (.tup [.int (i:Nat),x])) fun σ2 H2=>cu σ2 vs=cu σ vs/\tt σ2 H2 fun b H3=>
   if b=J1 then te σ2 H3 fun y H4=>∃acc,H4 D=TL (.lst acc)/\acc.length<aZ/\Pv D (i+1) (ah H4 D (.lst (acc++[y])))else Pv D (i+1) H3)(hd:∀D H,Pv D xs.length H->Q (.ref D) H):
  zp K [.ref a] H fun J H1=>sX J (xx K 2 gs) tt te vs σ H1 Q:=by
 refine⟨a,xs,rfl,h,fun D hD=>⟨fun i m H=>m=xs.length-i/\i<=xs.length/\Pv D i H,⟨xs.length,by simp,bI _,h0 D hD⟩,?_⟩⟩;rintro i m H ⟨rfl,hi,p⟩;have q:=hl D i H hi p;by_cases hlt:i<xs.length
 .refine .inr ⟨⟨xs,xs[i],q,by simp[hlt]⟩,Pv D (i+1),fun H' p'=>⟨xs.length-(i+1),by lia,rfl,hlt,p'⟩,fun x H' y=>?_⟩;obtain⟨T,z,rfl,hT,rfl,e⟩:=y;exact⟨T,_,rfl,bT.of ax,rfl,hs D i z H T (e xs q) p hT⟩
 .have e:i=xs.length:=by lia
  subst e;exact .inl ⟨⟨xs,q,aF _⟩,hd D H p⟩
theorem YR{g:TG}{tt:TT}{vs:List Nat}{n:Nat}(hn:n<2^62)(Pv:aa->Nat->Hp->Prop)(h0:∀D,H D=J0->Pv D 0 (ah H D (.lst [])))
  (hs:∀D i H,i<n->Pv D i H->g (.int (i:Nat)) (cu σ vs) H fun σ2 H2=>cu σ2 vs=cu σ vs/\tt σ2 H2 fun b H3=>
   if b=J1 then te σ2 H3 fun y H4=>∃acc,H4 D=TL (.lst acc)/\acc.length<aZ/\Pv D (i+1) (ah H4 D (.lst (acc++[y])))else Pv D (i+1) H3)(hd:∀D H,Pv D n H->Q (.ref D) H):
  Ey [.int (n:Nat)] H fun J H1=>sX J g tt te vs σ H1 Q:=
 ⟨n,rfl,by lia,by lia,fun D hD=>by
  rw[fD];exact QL (Pv D) (h0 D hD) (fun i H hi p=>by rw[Int.zero_add];exact hs D i H hi p) (hd D)⟩
end
section
variable(P:aJ)(w:aH)(K:aw)(mg:Str->Option ae)(base:aA)(CX:jA)
def Kn(x:Str)(k:Nat)(ps:List Str)(sp:Sp):Prop:=∃f fd,gi P w K mg base CX k f fd ps sp/\mg x=TL (.ref f)/\pH K (.ref f)=J1/\Binds K fd ps []
def cK(C:aa)(m:Str)(k:Nat)(ps:List Str)(sp:Sp):Prop:=∃f fd,gi P w K mg base CX k f fd ps sp/\tG K C m f/\Binds K fd ps []
def fE(C:aa)(x:Str)(k:Nat)(ps:List Str)(sp:Sp):Prop:=∃f fd,gi P w K mg base CX k f fd ps sp/\Mk K C f/\mg x=TL (.ref C)/\Binds K fd ps []
end
def Df(K:aw)(mg:Str->Option ae)(x:Str)(st:aI)(ps:List Str):Prop:=∃f fd,km K x x st f fd/\mg x=TL (.ref f)/\Binds K fd ps []
def gF(K:aw)(C:aa)(m q:Str)(st:aI)(ps:List Str):Prop:=∃f fd,km K m q st f fd/\tG K C m f/\Binds K fd ps []
def kX(K:aw)(mg:Str->Option ae)(C:aa)(x q:Str)(st:aI)(ps:List Str):Prop:=∃f fd,km K "__init__" q st f fd/\Mk K C f/\mg x=TL (.ref C)/\Binds K fd ps []
def cX(mg:Str->Option ae)(x:Str)(i:Int):Prop:=∃u,mg x=TL u/\RelV (.int i) u
section
variable{X:Cx}{CX:jA}{x m:Str}{k:Nat}{ps:List Str}{sp:Sp}{E:XK}{p pos apos:Pos}{e o:aM}{es:List aM}{t:TA}{ta:TE}{C:aa}
theorem bC{i:Int}(h:cX X.mg x i)(hg:Gl X x)(hd:autoParam ((x==("__debug__":Str))=false) J9):PE X (.Name x pos) (tC (.int i)):=by
 obtain⟨u,h1,h2⟩:=h;exact Ui hg h1 h2 hd
theorem iC(F:Kn X.prog X.w X.K X.mg X.base CX x k ps sp)(hr:cA k X.A)(hx:gJ CX X E)(hg:Gl X x)(ha:PA X (e::es) t)(hdb:autoParam ((x==("__debug__":Str))=false) J9)
  (he:autoParam (bQ (e::es) X.env=(J2,bF e X.env)::bQ es X.env) J7)(hpl:autoParam ((eV pos (bQ es X.env)).any (·.1)=false) J7):
  PE X (.Call (.Name x p) (e::es) [] pos) (sN sp [] E t):=by
 obtain⟨f,fd,F,h1,h2,h3⟩:=F;exact Ua F hr hg h1 h2 h3 .nil hx ha hdb he hpl
theorem ig(F:Kn X.prog X.w X.K X.mg X.base CX x k ps sp)(hr:cA k X.A)(hx:gJ CX X E)(hg:Gl X x)(hdb:autoParam ((x==("__debug__":Str))=false) J9):PE X (.Call (.Name x p) [] [] pos) (sN sp [] E kQ):=by
 obtain⟨f,fd,F,h1,h2,h3⟩:=F;exact Ub F hr hg h1 h2 h3 .nil hx hdb
theorem jY(F:fE X.prog X.w X.K X.mg X.base CX C x k ps sp)(hr:cA (k+1) X.A)(hx:gJ CX X E)(hg:Gl X x)(ha:PA X (e::es) t)(hdb:autoParam ((x==("__debug__":Str))=false) J9)
  (he:autoParam (bQ (e::es) X.env=(J2,bF e X.env)::bQ es X.env) J7)(hpl:autoParam ((eV pos (bQ es X.env)).any (·.1)=false) J7):
  PE X (.Call (.Name x p) (e::es) [] pos) (vx C sp [] E t):=by
 obtain⟨f,fd,F,h1,h2,h3⟩:=F;exact Uk h1 F hr hg h2 h3 .nil hx ha hdb he hpl
theorem Jw(F:fE X.prog X.w X.K X.mg X.base CX C x k ps sp)(hr:cA (k+1) X.A)(hx:gJ CX X E)(hg:Gl X x)(hdb:autoParam ((x==("__debug__":Str))=false) J9):PE X (.Call (.Name x p) [] [] pos) (vx C sp [] E kQ):=by
 obtain⟨f,fd,F,h1,h2,h3⟩:=F;exact Ul h1 F hr hg h2 h3 .nil hx hdb
theorem ik{pl:Sem Bool}(he:PE X o ta)(c:dH X.K C)(F:cK X.prog X.w X.K X.mg X.base CX C m k ps sp)(hr:cA k X.A)(hx:gJ CX X E)(ha:PA X (e::es) t)
  (hst:autoParam (bQ (e::es) X.env=(J2,bF e X.env)::bQ es X.env) J7)(hpl:autoParam ((eV pos (bQ es X.env)).any (·.1)=false) J7)
  (ht:bF (.Call (.Attribute o m apos) (e::es) [] pos) X.env=(do
   let ov<-bF o X.env
   standAt apos.atName
   let(f,first)<-holding [ov] (uu ov m pl)
   callWith pos f first (eV pos (bQ (e::es) X.env)) (backToKw pos (uA [] X.env))):=by rfl):
  PE X (.Call (.Attribute o m apos) (e::es) [] pos) (vy C m sp [] E ta t):=by
 obtain⟨f,fd,F,h1,h2⟩:=F;exact Um he c h1 F hr h2 .nil hx ha hst hpl ht
theorem il{pl:Sem Bool}(he:PE X o ta)(c:dH X.K C)(F:cK X.prog X.w X.K X.mg X.base CX C m k ps sp)(hr:cA k X.A)(hx:gJ CX X E)
  (ht:bF (.Call (.Attribute o m apos) [] [] pos) X.env=(do
   let ov<-bF o X.env
   standAt apos.atName
   let(f,first)<-holding [ov] (uu ov m pl)
   callWith pos f first (eV pos (bQ [] X.env)) (backToKw pos (uA [] X.env))):=by rfl):
  PE X (.Call (.Attribute o m apos) [] [] pos) (vy C m sp [] E ta kQ):=by
 obtain⟨f,fd,F,h1,h2⟩:=F;exact Uo he c h1 F hr h2 .nil hx ht
def wc(C:aa)(m:Str)(x:V)(H:Hp)(R:Prop):Prop:=∃a dx fs,x=.ref a/\H a=TL (.ins C dx fs)/\fs.lookup m=J0/\R
theorem Vx{σ:St}{H:Hp}{Q:VK}:vy C m sp [] E ta t σ H Q=ta σ H fun x H1=>wc C m x H1 (t σ H1 fun vs H2=>sp (x::(vs++[])) H2 Q E):=rfl
theorem eO{H:Hp}{R:Prop}{a dx:aa}{fs:List (Str×V)}(h:H a=TL (.ins C dx fs))(l:fs.lookup m=J0)(q:R):wc C m (.ref a) H R:=⟨a,dx,fs,rfl,h,l,q⟩
end
section
variable{X:Cx}{x:Str}{e:aM}{es:List aM}{te:TE}{t:TA}{p pos pos':Pos}
theorem pS(i:Nat)(hN:X.N.Nodup)(he:PE X e te)(hi:autoParam (X.N[i]?=TL x) J7)(hx:Loc X.env.scope x:=by k_is)(hs:autoParam (oE e (TL (.Name x pos')) pos.line X.env=pure false) J7)(hf:X.fn x=J1\/X.env.scope.names.lookup x=TL .local:=by k_is):PS X (.Assign [.Name x pos'] e pos) (vv te (lJ i)):=Uz hN hi hx he hs hf
theorem gN(i:Nat)(hN:X.N.Nodup)(hi:autoParam (X.N[i]?=TL x) J7)(hx:Loc X.env.scope x:=by k_is)(hf:X.fn x=J1\/X.env.scope.names.lookup x=TL .local:=by k_is):PG X (.Name x pos) (lJ i):=Ur hN hi hx hf
theorem cF{j k:Nat}{ps:List Str}{sp:Sp}(F:Kn X.prog X.w X.K X.mg X.base aW x j ps sp)(hr:cA k X.A)(ha:PA X (e::es) t)(hk:autoParam (j<=k) J9)(hg:autoParam (Gl X x) J7)(hdb:autoParam ((x==("__debug__":Str))=false) J9)(he:autoParam (bQ (e::es) X.env=(J2,bF e X.env)::bQ es X.env) J7)(hpl:autoParam ((eV pos (bQ es X.env)).any (·.1)=false) J7):PE X (.Call (.Name x p) (e::es) [] pos) (sN sp [] E0 t):=iC F (hr.mono hk) bB hg ha hdb he hpl
theorem bp{N P:List Str}{sc:cN}(a:autoParam (sc.kind=.function) J7)(b:autoParam (sc.isCoroutine=false) J7)(c:autoParam (sc.isGenerator=false) J7)(d:N.Nodup:=by decide +kernel)(f:autoParam (N.take P.length=P) J7)(g:∀x∈P,sc.names.lookup x=TL .local\/sc.names.lookup x=TL .cell:=by decide +kernel)(h:∀y∈sc.names,y.2≠.free:=by decide +kernel):aV N P sc:=⟨a,b,c,d,f,g,h⟩
end
theorem BG(x:Nat):x%2=(x.testBit 0).toNat:=by
 rw[Nat.testBit_zero];by_cases h:x%2=1
 .rw[h];rfl
 .have:x%2=0:=by lia
  rw[this];rfl
theorem TC:∀(m n:Nat),(m|||n)=(m^^^n)+(m&&&n):=by
 intro m
 induction m using Nat.strongRecOn with
 |_ m ih=>
  intro n;by_cases hm:m=0
  .subst hm;simp
  .have h:=ih (m / 2) (by lia) (n / 2);rw[<-Nat.or_div_two,<-Nat.xor_div_two,<-Nat.and_div_two]at h;have e1:=BG (m|||n);have e2:=BG (m^^^n);have e3:=BG (m&&&n);rw[zR]at e1;rw[zS]at e2;rw[my]at e3
   have f:(m.testBit 0||n.testBit 0).toNat=(m.testBit 0^^n.testBit 0).toNat+(m.testBit 0&&n.testBit 0).toNat:=by
    cases m.testBit 0<;>cases n.testBit 0<;>rfl
   lia
theorem nS(m n:Nat):vN (m:Int) (n:Int)=((m&&&n:Nat):Int):=by
 rw[bitAnd_pp (by lia) (by lia)];rfl
theorem ub(m n:Nat):Builtin.bitOr (m:Int) (n:Int)=((m|||n:Nat):Int):=by
 unfold Builtin.bitOr Eo;rw[bitAnd_nn (by lia) (by lia)];unfold Eo;rw[show(-(-(m:Int)-1)-1).toNat=m by lia,show(-(-(n:Int)-1)-1).toNat=n by lia];lia
theorem Ay(m n:Nat):Ep (m:Int) (n:Int)=((m^^^n:Nat):Int):=by
 unfold Ep;rw[ub,nS,TC];lia
theorem Wt(m k:Nat):(m:Int) / 2^k=((m>>>k:Nat):Int):=by
 rw[Nat.shiftRight_eq_div_pow];have:((2:Int)^k)=((2^k:Nat):Int):=by rw[EB];rfl
 rw[this];rfl
theorem yx(m k:Nat):(m:Int)*2^k=((m<<<k:Nat):Int):=by
 rw[EV];have:((2:Int)^k)=((2^k:Nat):Int):=by rw[EB];rfl
 rw[this];rfl
theorem Om(m k:Nat):decide (((m>>>k&&&1:Nat):Int)=1)=m.testBit k:=by
 rw[Nat.testBit];have:1&&&m>>>k=m>>>k&&&1:=Nat.and_comm _ _;rw[this,Nat.and_one_is_mod];by_cases h:(m>>>k)%2=1
 .rw[h];rfl
 .have:(m>>>k)%2=0:=by lia
  rw[this];rfl
section
variable{X:Cx}
def Er(i j:Int):Prop:=0<=j/\(lZ i:Int)+j<=2^27
theorem ju:dv X (nU .LShift) (rI Er fun i j=>.int (i*2^j.toNat)):=Jg fun _ _ _ _ _ _ _ hc q=>lshift_int hc.1 hc.2 q
theorem jo{m k n:Nat}(h:m<2^n)(hk:n+k<=2^27):Er (m:Int) (k:Int):=by
 have:lZ (m:Int)<=n:=wG.mpr (by rw[zq];exact h);exact⟨by lia,by lia⟩
def JC:V->List V->Hp->VK->Prop:=fun x xs H Q=>∃i,x=.int i/\xs=[]/\Q (.int (lZ i:Nat)) H
theorem IF:zN X "int.bit_length" JC:=by
 intro pins s σ H x xs v us Q I rx rs h;obtain⟨i,rfl,rfl,q⟩:=h;obtain⟨t,rfl⟩:=rx;cases rs;exact call_int_bit_length ⟨.int _,H,I.tok _,⟨_,rfl⟩,q⟩
def fX(ns:List Int):jJ:=.list (ns.map tQ)
theorem GK{K:aw}{H:Hp}:∀(ns:List Int),ny K H (ns.map V.int) (ns.map tQ)
 | []=>.nil
 |n::ns=>.cons (.int n) (GK ns)
theorem rQ{K:aw}{H:Hp}{a:aa}{ns:List Int}(h:ak K H a (ns.map V.int)):Dp K H (.ref a) (fX ns):=.lst h (GK ns)
theorem HU:∀(ns:List Int),tP (ns.map tQ)=J1
 | []=>by simp[tP]
 |n::ns=>by simp[tP,jJ.canLay0,HU ns]
theorem GD:∀(ns:List Int),zW (ns.map tQ)=0
 | []=>by simp[zW]
 |n::ns=>by simp[zW,jJ.depth,GD ns]
theorem Bj(ns:List Int):(fX ns).canLay0=true:=by
 unfold fX jJ.canLay0;exact HU ns
theorem GC(ns:List Int):(fX ns).depth=1:=by
 unfold fX jJ.depth;rw[GD]
theorem yu(ns:List Int):tS (fX ns)=true:=by
 unfold tS;rw[Bj,GC];rfl
theorem GS:∀(ns ms:List Int),wB (ns.map tQ) (ms.map tQ)=decide (ns=ms)
 | [],[]=>by simp[wB]
 | [],_::_=>by simp[wB]
 |_::_,[]=>by simp[wB]
 |n::ns,m::ms=>by
  rw[cV,cV];simp only[wB,pF];rw[GS ns ms];by_cases h1:n=m
  .by_cases h2:ns=ms
   .subst h1 h2;simp
   .simp[h1,h2]
  .simp[h1]
theorem xt(ns ms:List Int):pF (fX ns) (fX ms)=decide (ns=ms):=by
 unfold fX;simp only[pF];exact GS ns ms
def yn(K:aw):R2:=fun x y H Q=>∃(a b:aa)(ns ms:List Int),x=.ref a/\y=.ref b/\ak K H a (ns.map V.int)/\ak K H b (ms.map V.int)/\Q (.bl (decide (ns=ms))) H
def JE(K:aw):R2:=fun x y H Q=>∃(a b:aa)(ns ms:List Int),x=.ref a/\y=.ref b/\ak K H a (ns.map V.int)/\ak K H b (ms.map V.int)/\Q (.bl (!decide (ns=ms))) H
theorem mU(hu:X.A.units+64<gz):dv X (fK .Eq) (yn X.K):=by
 intro pins s σ H x y v u Q I rx ry h;obtain⟨a,b,ns,ms,rfl,rfl,h1,h2,q⟩:=h;rw[<-xt]at q;exact Tv hu pins s σ H _ _ v u Q I rx ry ⟨_,_,rQ h1,rQ h2,yu _,yu _,q⟩
theorem Cc(hu:X.A.units+64<gz):dv X (fK .NotEq) (JE X.K):=by
 intro pins s σ H x y v u Q I rx ry h;obtain⟨a,b,ns,ms,rfl,rfl,h1,h2,q⟩:=h;rw[<-xt]at q;exact Tw hu pins s σ H _ _ v u Q I rx ry ⟨_,_,rQ h1,rQ h2,yu _,yu _,q⟩
theorem GL{K:aw}{H:Hp}:∀{as:List aa}{rows:List (List Int)},bK (fun p r=>ak K H p (r.map V.int)) as rows->ny K H (as.map V.ref) (rows.map fX)
 |_,_,.nil=>.nil
 |_,_,.cons h t=>.cons (rQ h) (GL t)
theorem HV:∀(rows:List (List Int)),tP (rows.map fX)=J1
 | []=>by simp[tP]
 |r::rows=>by simp[tP,Bj,HV rows]
def JF(K:aw):R2:=fun x y H Q=>∃(a p:aa)(ns:List Int)(as:List aa)(rows:List (List Int)),x=.ref a/\y=.ref p/\ak K H a (ns.map V.int)/\bT K H p (as.map V.ref)/\bK (fun p r=>ak K H p (r.map V.int)) as rows/\Q (.bl (!decide (ns∈rows))) H
theorem Tz(hu:X.A.units+64<gz):dv X (fK .NotIn) (JF X.K):=by
 intro pins s σ H x y v u Q I rx ry h;obtain⟨a,p,ns,as,rows,rfl,rfl,h1,h2,h3,q⟩:=h;obtain⟨a1,r1⟩:=Dp.reads I _ _ v (rQ h1) rx;obtain⟨a2,r2⟩:=Dp.reads I (.tuple (rows.map fX)) _ u (.tup h2 (GL h3)) ry;refine SeqAt.notIn_tuple_reads r2 r1 (HV rows) (Bj ns) ?_ ⟨.bl _,H,I,rfl,?_⟩
 .rw[GC];have:=Nat.min_le_right (zW (rows.map fX)) 1;lia
 .have e:((rows.map fX).any fun y=>pF y (fX ns))=decide (ns∈rows):=by
   rw[vV];by_cases hm:ns∈rows
   .rw[dT hm,oY];exact⟨ns,hm,by show pF (fX ns) (fX ns)=J1;rw[xt];simp⟩
   .rw[dF hm,vU];intro r hr z;have z:pF (fX r) (fX ns)=true:=z;rw[xt,decide_eq_true_iff]at z;exact hm (z▸hr)
  rw[e];exact q
def UF(K:aw):R2:=fun x y H Q=>∃a b xs,x=.ref a/\y=.ref b/\ak K H a xs/\ak K H b []/\Q (.bl (decide (xs=[]))) H
theorem Tu(hu:X.A.units+64<gz):dv X (fK .Eq) (UF X.K):=by
 intro pins s σ H x y v u Q I rx ry h;obtain⟨a,b,xs,rfl,rfl,h1,h2,q⟩:=h;cases rx;cases ry;obtain⟨its,r,pl,hz⟩:=I.list h1;obtain⟨its2,r2,pl2,hz2⟩:=I.list h2;cases r2;by_cases e:xs=[]
 .subst e;cases r;refine SeqAt.eq_listAt (e:=fun _=>J1) pl.isList pl2.isList rfl (by lia) (fun j h1 h2=>J5 h1 (Nat.not_lt_zero _)) ?_
  .exact⟨.bl _,H,I,rfl,by simpa using q⟩
 .refine SeqAt.eq_list_lengthsAt pl.isList pl2.isList ?_ (by lia) ⟨.bl _,H,I,rfl,?_⟩
  .have:=r.length;have h3:its.length≠0:=fun z=>e (nA.mp (by lia));simpa using h3
  .rw[dF e]at q;exact q
def vR(K:aw)(vs:List V)(H:Hp)(Q:VK):Prop:=∃p ys,vs=[.ref p]/\(ak K H p ys\/bT K H p ys)/\Q (.int ys.length) H
theorem Gr:jB X (.builtin "len") (vR X.K):=OA
end
section
variable{K:aw}{H:Hp}{Q:VK}{a b:aa}{xs:List V}
theorem cy(h:ak K H a xs)(q:Q (.int (xs.length:Nat)) H):vR K [.ref a] H Q:=⟨a,xs,rfl,.inl h,q⟩
theorem nk{ns ms:List Int}(h1:ak K H a (ns.map V.int))(h2:ak K H b (ms.map V.int))(q:Q (.bl (decide (ns=ms))) H):yn K (.ref a) (.ref b) H Q:=⟨a,b,ns,ms,rfl,rfl,h1,h2,q⟩
theorem El{ns ms:List Int}(h1:ak K H a (ns.map V.int))(h2:ak K H b (ms.map V.int))(q:Q (.bl (!decide (ns=ms))) H):JE K (.ref a) (.ref b) H Q:=⟨a,b,ns,ms,rfl,rfl,h1,h2,q⟩
theorem yY{n:Bool}{x:V}(h:ak K H a xs)(f1:iT x=J1)(f2:xs.all iT=J1)(q:Q (.bl (if n then !gB x xs else gB x xs)) H):qt K n x (.ref a) H Q:=⟨a,xs,rfl,.inl h,f1,f2,q⟩
theorem YO{n:Bool}{x:V}(h:bT K H a xs)(f1:iT x=J1)(f2:xs.all iT=J1)(q:Q (.bl (if n then !gB x xs else gB x xs)) H):qt K n x (.ref a) H Q:=⟨a,xs,rfl,.inr h,f1,f2,q⟩
theorem MJ{i:Int}(q:Q (.int (lZ i:Nat)) H):JC (.int i) [] H Q:=⟨i,rfl,rfl,q⟩
end
section
variable{X:Cx}{e:aM}{te:TE}{p pos:Pos}
theorem cL(hm:X.mg "len"=J0)(he:PE X e te)(hg:autoParam (Gl X "len") J7)(h1:autoParam (bQ [e] X.env=[(J2,bF e X.env)]) J7):PE X (.Call (.Name "len" p) [e] [] pos) (yG (vR X.K) (vw te kQ)):=jX Gr hg hm Ai (af he ao h1) (by decide) (by decide) h1 rfl
end
structure Ad extends Cn where
 machine:aa
 pairs:aa
 pattern:aa
 plist:aa
 store:aa
 reader:aa
 fault:aa
structure aY(K:aw)(mg:Str->Option ae)(A:Ad):Prop where
 ZN:cX mg "LINE_FEED" 10
 ZW:cX mg "BANG" 33
 abu:cX mg "HASH" 35
 Zt:cX mg "STAR" 42
 ZY:cX mg "DASH" 45
 ZH:cX mg "DOT" 46
 Zk:cX mg "SLASH" 47
 abI:cX mg "QUESTION" 63
 abH:cX mg "OPEN_BRACKET" 91
 ZV:cX mg "BACKSLASH" 92
 ZX:cX mg "CLOSE_BRACKET" 93
 abD:cX mg "MOST_PATH_BYTES" 256
 ZZ:cX mg "PART_BEGINS" 0
 abG:cX mg "ONE_DOT" 1
 abK:cX mg "TWO_DOTS" 2
 ZC:cX mg "WITHIN_PART" 3
 aby:cX mg "MOST_FITS_BYTES" 128
 abz:cX mg "MOST_LEAST_BYTES" 64
 abA:cX mg "MOST_LEAST_LINE_BYTES" 24
 abB:cX mg "MOST_LEAST_PATTERNS" 2
 abF:cX mg "MOST_TEXT_BYTES" 512
 abC:cX mg "MOST_LISTS" 16
 abE:cX mg "MOST_PATTERNS" 64
 abx:cX mg "MOST_BYTES" 2048
 abp:cX mg "ADD" 0
 abr:cX mg "DROP" 1
 abw:cX mg "LISTS" 2
 abq:cX mg "BECOMES" 3
 abJ:cX mg "RULE" 4
 abt:cX mg "FITS" 5
 abv:cX mg "LEAST" 6
 Ze:mg "len"=J0
 Zo:mg "enumerate"=J0
 ZP:mg "range"=J0
 aaa:mg "all"=J0
 aab:mg "any"=J0
 ZR:mg "sum"=J0
 aac:mg "max"=J0
 ZO:mg "min"=J0
 ZQ:mg "sorted"=J0
 aad:mg "set"=J0
 Zp:dH K A.cell
 ZJ:cS K A.cell "stays"
 ZI:cS K A.cell "moves"
 ZS:cS K A.cell "optional"
 Zh:dH K A.machine
 Zx:cS K A.machine "starts"
 Zw:cS K A.machine "end"
 Zu:cS K A.machine "steps"
 Zj:dH K A.pairs
 Zz:cS K A.pairs "met"
 ZA:cS K A.pairs "numbers"
 Zg:dH K A.mat
 Zv:cS K A.mat "cells"
 ZK:cS K A.mat "optional"
 Zy:cS K A.mat "steps"
 Zl:dH K A.pattern
 ZF:cS K A.pattern "keeps"
 ZL:cS K A.pattern "for_directories"
 ZU:cS K A.pattern "anchored"
 ZM:cS K A.pattern "matcher"
 Zm:dH K A.plist
 ZD:cS K A.plist "directory"
 ZT:cS K A.plist "size"
 ZE:cS K A.plist "lines"
 Zi:dH K A.store
 Zn:cS K A.store "lists"
 Zf:dH K A.reader
 ZG:cS K A.reader "calls"
 Zs:cS K A.reader "place"
 Zq:mg "LineFault"=TL (.ref A.fault)
 Zr:PySem.W.excIn K A.fault [.type "ValueError",.type "Exception",.type "BaseException",.type "object"] "ValueError.__new__"=J1
 aaF:Df K mg "parted" Kt ["row","sign"]
 aas:Df K mg "is_part" Kg ["part"]
 aat:Df K mg "is_path" Kh ["row"]
 aal:Df K mg "entry_ends" JZ ["path"]
 aay:Df K mg "lies_below" Km ["path","directory"]
 aaB:Df K mg "matched_ends" Kp ["pattern","is_directory","rest"]
 aaC:Df K mg "matches" Kq ["pattern","is_directory","path"]
 aak:Df K mg "choose_lines" JY ["chosen","number","pattern_list","is_directory","path"]
 aaz:Df K mg "lines_that_count" Du ["lists","is_directory","path"]
 aam:Df K mg "fate" Ka ["lists","is_directory","path"]
 aaj:Df K mg "bytes_between" JX ["low","high"]
 aaG:Df K mg "path_bytes" Ku []
 aaD:Df K mg "part_bytes" Kr []
 aai:Df K mg "byte_cell" JW ["byte_set"]
 aa0:Df K mg "star_cell" KP []
 aaZ:Df K mg "slash_cell" KO []
 aag:Df K mg "any_parts_cell" JU []
 aau:Df K mg "last_parts_cell" Ki []
 aaH:Df K mg "path_machine" Kv []
 aaM:Df K mg "places_in" KA ["places"]
 aaJ:Df K mg "pattern_machine" Kx ["matcher"]
 aaY:Df K mg "shared_steps" KN ["first_steps","second_steps","pairs"]
 aah:Df K mg "both" JV ["first","second"]
 aaR:Df K mg "read_escaped" KF ["part","place"]
 aaQ:Df K mg "read_class_byte" KE ["part","place"]
 aaU:Df K mg "read_stretch" KI ["part","place"]
 aaV:Df K mg "read_stretches" KJ ["part","place"]
 aaP:Df K mg "read_class" KD ["part","place"]
 aaN:Df K mg "places_of" KB ["marks"]
 aaO:Df K mg "read_cell" KC ["part","place"]
 aaE:Df K mg "part_cells" Ks ["part"]
 aar:Df K mg "is_many_parts" Kf ["part"]
 aaI:Df K mg "pattern_cells" Kw ["parts"]
 aaX:Df K mg "says_nothing" KM ["line"]
 aaT:Df K mg "read_pattern" KH ["line"]
 aaS:Df K mg "read_line" KG ["line"]
 aaL:Df K mg "places_before" Kz ["machine"]
 aan:Df K mg "fewest_bytes_left" Kb ["machine"]
 aaA:Df K mg "lowest_byte" Ko ["byte_set"]
 aa1:Df K mg "steps_to" KQ ["machine","places","left","many"]
 aax:Df K mg "least_row" Kl ["machine"]
 aap:Df K mg "fits_pattern" Kd ["line"]
 aao:Df K mg "fits" Kc ["is_directory","line","path"]
 aaK:Df K mg "patterns_of" Ky ["lines"]
 aaw:Df K mg "least_patterns" Kk ["text"]
 aav:Df K mg "least" Kj ["text"]
 aaW:Df K mg "rule_number" KL ["pattern"]
 aaq:Df K mg "have_room" Ke ["lists"]
 aae:Df K mg "answer" JS ["store","reader"]
 aaf:Df K mg "answers" JT ["calls"]
 abf:gF K A.pairs "number_of" "Pairs.number_of" De ["self","first","second"]
 abb:gF K A.mat "entered" "Matcher.entered" CW ["self","fresh"]
 abe:gF K A.mat "steps_of" "Matcher.steps_of" Dc ["self","byte"]
 aba:gF K A.mat "after" "Matcher.after" CV ["self","places","byte"]
 abc:gF K A.mat "is_through" "Matcher.is_through" CZ ["self","places"]
 abd:gF K A.mat "matched_ends" "Matcher.matched_ends" Da ["self","path"]
 abg:gF K A.plist "pattern_count" "PatternList.pattern_count" Dh ["self"]
 abk:gF K A.store "add" "Store.add" Dn ["self","directory","text"]
 abm:gF K A.store "drop" "Store.drop" Dq ["self","number"]
 abn:gF K A.store "list_count" "Store.list_count" Ds ["self"]
 abl:gF K A.store "becomes" "Store.becomes" Do ["self","is_directory","path"]
 abo:gF K A.store "rule" "Store.rule" Dt ["self","number","line"]
 abh:gF K A.reader "at_end" "Reader.at_end" Dj ["self"]
 abi:gF K A.reader "number" "Reader.number" Dl ["self"]
 abj:gF K A.reader "row" "Reader.row" Dm ["self"]
 aa2:kX K mg A.cell "Cell" "Cell.__init__" CT ["self","stays","moves","optional"]
 aa3:kX K mg A.machine "Machine" "Machine.__init__" CU ["self","starts","end","steps"]
 aa5:kX K mg A.pairs "Pairs" "Pairs.__init__" Dd ["self"]
 aa4:kX K mg A.mat "Matcher" "Matcher.__init__" CY ["self","cells"]
 aa6:kX K mg A.pattern "Pattern" "Pattern.__init__" Di ["self","keeps","for_directories","anchored","cells"]
 aa7:kX K mg A.plist "PatternList" "PatternList.__init__" Dg ["self","directory","size","lines"]
 aa9:kX K mg A.store "Store" "Store.__init__" Dr ["self"]
 aa8:kX K mg A.reader "Reader" "Reader.__init__" Dk ["self","calls"]
section
variable{P:aJ}{w:aH}{K:aw}{mg:Str->Option ae}{base:aA}
theorem Kn.of{x:Str}{st:aI}{N ps:List Str}{k:Nat}{sp:Sp}(D:Df K mg x st ps)(S:aV N ps (aN st))(len:∀vs H Q E,sp vs H Q E->vs.length=ps.length)
  (hbody:∀(f:aa)(cdv:ae)(A:bM)(outer:List Env)(s:aj)(H:Hp)(vs:List V)(Q:VK)(E:XK),cA k (A.deeper (iS x (aN st) s.heap.objs.size f cdv))->sp vs H Q E->
   ∃t,fA (iQ aW P w K mg base N x (aN st) f cdv A outer s H E).nox (jq st) t/\t {nx:=fun _ H'=>Q .non H',rt:=Q} (start N vs) H):Kn P w K mg base aW x (k+1) ps sp:=by
 obtain⟨f,fd,F,hm,hb⟩:=D;exact⟨f,fd,F.ok S len (hbody f),hm,F.kp,hb⟩
theorem cK.of{C:aa}{m q:Str}{st:aI}{N ps:List Str}{k:Nat}{sp:Sp}(D:gF K C m q st ps)(S:aV N ps (aN st))(len:∀vs H Q E,sp vs H Q E->vs.length=ps.length)
  (hbody:∀(f:aa)(cdv:ae)(A:bM)(outer:List Env)(s:aj)(H:Hp)(vs:List V)(Q:VK)(E:XK),cA k (A.deeper (iS q (aN st) s.heap.objs.size f cdv))->sp vs H Q E->
   ∃t,fA (iQ aW P w K mg base N q (aN st) f cdv A outer s H E).nox (jq st) t/\t {nx:=fun _ H'=>Q .non H',rt:=Q} (start N vs) H):cK P w K mg base aW C m (k+1) ps sp:=by
 obtain⟨f,fd,F,hm,hb⟩:=D;exact⟨f,fd,F.ok S len (hbody f),hm,hb⟩
theorem fE.of{C:aa}{x q:Str}{st:aI}{N ps:List Str}{k:Nat}{sp:Sp}(D:kX K mg C x q st ps)(S:aV N ps (aN st))(len:∀vs H Q E,sp vs H Q E->vs.length=ps.length)
  (hbody:∀(f:aa)(cdv:ae)(A:bM)(outer:List Env)(s:aj)(H:Hp)(vs:List V)(Q:VK)(E:XK),cA k (A.deeper (iS q (aN st) s.heap.objs.size f cdv))->sp vs H Q E->
   ∃t,fA (iQ aW P w K mg base N q (aN st) f cdv A outer s H E).nox (jq st) t/\t {nx:=fun _ H'=>Q .non H',rt:=Q} (start N vs) H):fE P w K mg base aW C x (k+1) ps sp:=by
 obtain⟨f,fd,F,hm,hx,hb⟩:=D;exact⟨f,fd,F.ok S len (hbody f),hm,hx,hb⟩
theorem Kn.ofF{C:aa}{x:Str}{st:aI}{N ps:List Str}{k:Nat}{sp:Sp}(D:Df K mg x st ps)(S:aV N ps (aN st))(len:∀vs H Q E,sp vs H Q E->vs.length=ps.length)
  (hbody:∀(f:aa)(cdv:ae)(A:bM)(outer:List Env)(s:aj)(H:Hp)(vs:List V)(Q:VK)(E:XK),cA k (A.deeper (iS x (aN st) s.heap.objs.size f cdv))->sp vs H Q E->
   ∃t,fA (iQ (dz P w C) P w K mg base N x (aN st) f cdv A outer s H E) (jq st) t/\t {nx:=fun _ H'=>Q .non H',rt:=Q} (start N vs) H):Kn P w K mg base (dz P w C) x (k+1) ps sp:=by
 obtain⟨f,fd,F,hm,hb⟩:=D;exact⟨f,fd,F.okF S len (hbody f),hm,F.kp,hb⟩
end
end PP
local macro_rules| `(tactic|cb_eq)=> `(tactic|try simp only[PP.VL,PP.UU,PP.Vi,PP.VJ,PP.VA,PP.Vq,PP.Vz,PP.VS,PP.VT,PP.UO,PP.VE,PP.VR,PP.UR,PP.UQ,PP.UP,PP.JG,PP.Vj,PP.Vy,PP.VP,PP.VO,PP.UV,PP.US,PP.VF,PP.VD,PP.UT,PP.VG,PP.Vp,PP.JH,PP.Vn,PP.Vm,PP.VB,PP.Va,PP.VQ,PP.Vv,PP.UY,PP.Vw,PP.Vx,PP.UZ,PP.VC,PP.VH,PP.Vr,PP.VN,PP.UW,PP.UX,PP.Vk,PP.VM,PP.Vl,PP.VU,PP.Vs,PP.Vo,PP.Vt,PP.Vu,PP.JI,PP.VW,PP.VX,PP.Vb,PP.Vd,PP.Vg,PP.Vh,PP.Ve,PP.Vf,PP.VI,L2.start,cV,tE,bH,vX,Nm,List.replicate_zero,oZ,nD,cD,List.set_cons_zero,List.set_cons_succ,Nat.reduceAdd,Nat.reduceSub,qX,qW,true_and,and_true,aU,if_true,if_false,reduceIte])
namespace PP
open PySem PySem.Spec L2
open PyProof.Rows hiding St
open Pg PM
section
variable{P:aJ}{w:aH}{K:aw}{mg:Str->Option ae}{base:aA}{A:Ad}
theorem gX{H:Hp}{a:aa}{o o':HO}:ah (ah H a o) a o'=ah H a o':=by
 funext b
 unfold ah;split<;>rfl
theorem Step.mkI{A:Cn}{G H G1 H1:Hp}(w:Wd A G H)(s:Step A G H G1 H1){x dx:aa}{o:HO}(hx:H1 x=J0)(hd:H1 dx=J0)(hne:dx≠x)(nm:fU A o):Step A G H (ah G1 x o) (ah (ah H1 dx (.own x)) x o):=
 (s.new w hd).newI w (by rw[aO (br hne)];exact hx) nm
def cT(A:Cn)(G H:Hp)(Q:VK)(post:Hp->V->Prop):Prop:=∀G' H' v,Step A G H G' H'->post G' v->Q v H'
def WR:Sp:=fun vs H Q _=>∃lo hi:Nat,vs=[.int lo,.int hi]/\lo<=hi/\hi<=255/\Q (.int (jl lo hi:Nat)) H
theorem xY(T:aY K mg A):Kn P w K mg base aW "bytes_between" 1 ["low","high"] WR:=by
 have sc:aV ["low","high"] ["low","high"] (aN JX):=bp;refine Kn.of T.aaj sc (fun vs H Q E h=>?_) (fun f cdv A0 outer s H vs Q E hr h=>?_)
 .obtain⟨_,_,rfl,_⟩:=h;rfl
 obtain⟨lo,hi,rfl,h1,h2,q⟩:=h;refine⟨_,(au (aL (bb ju (bb sy (bb ju aB (bb dX (bb sy (pv 1) (pv 0)) aB)) aB) (pv 0)))),?_⟩
 cb_eq
 have e1:(hi:Int)-lo+1=((hi-lo+1:Nat):Int):=by lia
 have e2:(1:Int)=((1:Nat):Int):=rfl;rw[e1,fD,fD];have hp:0<2^(hi-lo+1):=Nat.two_pow_pos _
 have e3:(1:Int)*2^(hi-lo+1)-1=((2^(hi-lo+1)-1:Nat):Int):=by
  have:((2:Int)^(hi-lo+1))=((2^(hi-lo+1):Nat):Int):=by rw[EB];rfl
  rw[this];lia
 rw[e3];refine⟨jo (m:=1) (n:=1) (by decide) (by lia),jo (n:=hi-lo+1) (by lia) (by lia),?_⟩
 have e4:((2^(hi-lo+1)-1:Nat):Int)*2^lo=((jl lo hi:Nat):Int):=by
  rw[yx,EV];rfl
 rw[e4];exact q
def Xp:Sp:=fun vs H Q _=>vs=[]/\Q (.int (cw:Nat)) H
theorem xZ(T:aY K mg A):Kn P w K mg base aW "path_bytes" 2 [] Xp:=by
 have sc:aV [] [] (aN Ku):=bp;refine Kn.of T.aaG sc (fun vs H Q E h=>?_) (fun f cdv A0 outer s H vs Q E hr h=>?_)
 .obtain⟨rfl,_⟩:=h;rfl
 obtain⟨rfl,q⟩:=h;refine⟨_,(au (aL (cF (xY T) hr (af aB (af aB ao))))),?_⟩
 cb_eq
 exact⟨1,255,rfl,by decide,by decide,q⟩
def Xm:Sp:=fun vs H Q _=>vs=[]/\Q (.int (aQ:Nat)) H
theorem ya(k:Nat):(1:Int)*2^((k:Int).toNat)=((2^k:Nat):Int):=by
 rw[fD];have:=yx 1 k;rw[EV,wm]at this;exact this
theorem yw:(1:Int)*2^(fR 47)=((cb:Nat):Int):=by decide
theorem qj(T:aY K mg A):Kn P w K mg base aW "part_bytes" 3 [] Xm:=by
 have sc:aV [] [] (aN Kr):=bp;refine Kn.of T.aaD sc (fun vs H Q E h=>?_) (fun f cdv A0 outer s H vs Q E hr h=>?_)
 .obtain⟨rfl,_⟩:=h;rfl
 obtain⟨rfl,q⟩:=h;refine⟨_,(au (aL (bb Ce (ig (xZ T) (hr.mono (by decide)) bB rfl) (bb ju aB (bC T.Zk rfl))))),?_⟩
 cb_eq
 refine⟨rfl,?_⟩
 cb_eq
 refine⟨jo (m:=1) (k:=47) (n:=1) (by decide) (by decide),?_⟩;rw[yw,Ay];exact q
theorem lp{f:Str}{v:V}{fs:List (Str×V)}{n:Nat}(h:fs.length<n):(bW f v fs).length<n+1:=tL (Bk f v fs) (by lia)
theorem Bv:([]:List (Str×V)).length<990:=by decide
theorem qc{f:Str}{v:V}:(bW f v []).length<1000:=qT (lp Bv) (by decide)
theorem uF{f g:Str}{v u:V}:(bW g u (bW f v [])).length<1000:=qT (lp (lp Bv)) (by decide)
theorem Rx{f g h:Str}{v u x:V}:(bW h x (bW g u (bW f v []))).length<1000:=qT (lp (lp (lp Bv))) (by decide)
def Lo:Ad->Sp:=fun A vs H Q _=>∃(x dx:aa)(c:MC),vs=[.ref x,.int c.stays,.int c.moves,.bl c.opt]/\H x=TL (.ins A.cell dx [])/\Q .non (ah H x (.ins A.cell dx (jO c)))
theorem uQ(T:aY K mg A):fE P w K mg base aW A.cell "Cell" 1 ["self","stays","moves","optional"] (Lo A):=by
 have sc:aV ["self","stays","moves","optional"] ["self","stays","moves","optional"] (aN CT):=bp;refine fE.of T.aa2 sc (fun vs H Q E h=>?_) (fun f cdv A0 outer s H vs Q E hr h=>?_)
 .obtain⟨_,_,_,rfl,_⟩:=h;rfl
 obtain⟨x,dx,c,rfl,h1,q⟩:=h
 refine⟨_,(aq (fj (pv 0) (pv 1) rfl)
   (aq (fj (pv 0) (pv 2) rfl)
   (au (fj (pv 0) (pv 3) rfl)))),?_⟩
 cb_eq
 refine fq h1 T.Zp T.ZJ (by decide) ?_
 cb_eq
 refine fq ax T.Zp T.ZI qc ?_
 cb_eq
 refine fq ax T.Zp T.ZS uF ?_;rw[gX,gX];exact q
theorem Sg{A:Cn}{C dx:aa}{c:MC}:fU A (.ins C dx (jO c)):=uN (by show TL ("stays":Str)≠TL "cells";decide +kernel)
def yB(A:Ad)(c:MC):Sp:=fun vs H Q _=>∃G,vs=[]/\Wd A.toCn G H/\cT A.toCn G H Q fun G' v=>∃p,v=.ref p/\CellAt A.toCn G' p c
theorem um{G H:Hp}{Q:VK}{c:MC}(wd:Wd A.toCn G H)(q:cT A.toCn G H Q fun G' v=>∃p,v=.ref p/\CellAt A.toCn G' p c):
  ∀x dx,H x=J0->H dx=J0->dx≠x->Lo A [.ref x,.int c.stays,.int c.moves,.bl c.opt] (ah (ah H dx (.own x)) x (.ins A.cell dx [])) (fun v H2=>v=.non/\Q (.ref x) H2) E0:=by
 intro x dx hx hd hne;refine⟨x,dx,c,rfl,ax,rfl,?_⟩;rw[gX];exact q _ _ _ ((Step.refl wd).mkI wd hx hd hne Sg) ⟨x,rfl,dx,ax⟩
def WQ:Ad->Sp:=fun A vs H Q _=>∃(G:Hp)(n:Nat),vs=[.int n]/\Wd A.toCn G H/\cT A.toCn G H Q fun G' v=>∃p,v=.ref p/\CellAt A.toCn G' p ⟨0,n&&&aQ,J2⟩
theorem xX(T:aY K mg A):Kn P w K mg base aW "byte_cell" 4 ["byte_set"] (WQ A):=by
 have sc:aV ["byte_set"] ["byte_set"] (aN JW):=bp;refine Kn.of T.aai sc (fun vs H Q E h=>?_) (fun f cdv A0 outer s H vs Q E hr h=>?_)
 .obtain⟨_,_,rfl,_⟩:=h;rfl
 obtain⟨G,n,rfl,wd,q⟩:=h;refine⟨_,(au (aL (jY (uQ T) (hr.mono (by decide)) bB rfl (af aB (af (bb jU (pv 0) (ig (qj T) (hr.mono (by decide)) bB rfl)) (af qm ao)))))),?_⟩
 cb_eq
 refine⟨rfl,?_⟩
 cb_eq
 rw[nS];exact um (c:=⟨0,n&&&aQ,J2⟩) wd q
theorem Ts(T:aY K mg A):Kn P w K mg base aW "star_cell" 4 [] (yB A ⟨aQ,aQ,J1⟩):=by
 have sc:aV [] [] (aN KP):=bp;refine Kn.of T.aa0 sc (fun vs H Q E h=>?_) (fun f cdv A0 outer s H vs Q E hr h=>?_)
 .obtain⟨_,rfl,_⟩:=h;rfl
 obtain⟨G,rfl,wd,q⟩:=h;refine⟨_,(au (aL (jY (uQ T) (hr.mono (by decide)) bB rfl (af (ig (qj T) (hr.mono (by decide)) bB rfl) (af (ig (qj T) (hr.mono (by decide)) bB rfl) (af qm ao)))))),?_⟩
 cb_eq
 refine⟨rfl,rfl,?_⟩
 cb_eq
 exact um (c:=⟨aQ,aQ,J1⟩) wd q
theorem Tr(T:aY K mg A):Kn P w K mg base aW "slash_cell" 4 [] (yB A ⟨0,cb,J2⟩):=by
 have sc:aV [] [] (aN KO):=bp;refine Kn.of T.aaZ sc (fun vs H Q E h=>?_) (fun f cdv A0 outer s H vs Q E hr h=>?_)
 .obtain⟨_,rfl,_⟩:=h;rfl
 obtain⟨G,rfl,wd,q⟩:=h;refine⟨_,(au (aL (jY (uQ T) (hr.mono (by decide)) bB rfl (af aB (af (bb ju aB (bC T.Zk rfl)) (af qm ao)))))),?_⟩
 cb_eq
 refine⟨jo (m:=1) (k:=47) (n:=1) (by decide) (by decide),?_⟩;rw[yw];exact um (c:=⟨0,cb,J2⟩) wd q
theorem SJ(T:aY K mg A):Kn P w K mg base aW "any_parts_cell" 4 [] (yB A ⟨cw,cb,J1⟩):=by
 have sc:aV [] [] (aN JU):=bp;refine Kn.of T.aag sc (fun vs H Q E h=>?_) (fun f cdv A0 outer s H vs Q E hr h=>?_)
 .obtain⟨_,rfl,_⟩:=h;rfl
 obtain⟨G,rfl,wd,q⟩:=h;refine⟨_,(au (aL (jY (uQ T) (hr.mono (by decide)) bB rfl (af (ig (xZ T) (hr.mono (by decide)) bB rfl) (af (bb ju aB (bC T.Zk rfl)) (af qm ao)))))),?_⟩
 cb_eq
 refine⟨rfl,?_⟩
 cb_eq
 refine⟨jo (m:=1) (k:=47) (n:=1) (by decide) (by decide),?_⟩;rw[yw];exact um (c:=⟨cw,cb,J1⟩) wd q
theorem SV(T:aY K mg A):Kn P w K mg base aW "last_parts_cell" 4 [] (yB A ⟨cw,cw,J2⟩):=by
 have sc:aV [] [] (aN Ki):=bp;refine Kn.of T.aau sc (fun vs H Q E h=>?_) (fun f cdv A0 outer s H vs Q E hr h=>?_)
 .obtain⟨_,rfl,_⟩:=h;rfl
 obtain⟨G,rfl,wd,q⟩:=h;refine⟨_,(au (aL (jY (uQ T) (hr.mono (by decide)) bB rfl (af (ig (xZ T) (hr.mono (by decide)) bB rfl) (af (ig (xZ T) (hr.mono (by decide)) bB rfl) (af qm ao)))))),?_⟩
 cb_eq
 refine⟨rfl,rfl,?_⟩
 cb_eq
 exact um (c:=⟨cw,cw,J2⟩) wd q
end
theorem ug(xs:List V)(a b:Nat):eB xs (TL (a:Int)) (TL (b:Int))=(xs.drop a).take (b-a):=by
 unfold eB;rw[HT.sIx_nat,HT.sIx_nat];by_cases ha:a<=xs.length
 .rw[mw ha];by_cases hb:b<=xs.length
  .rw[mw hb]
  .rw[EU (by lia),kr (by rw[cM];lia),kr (by rw[cM];lia)]
 .rw[show min a xs.length=xs.length by lia,mn (aF _),mn (by lia),List.take_nil,List.take_nil]
theorem xo(xs:List V)(a:Nat):eB xs (TL (a:Int)) J0=xs.drop a:=by
 unfold eB;rw[HT.sIx_nat,HT.sIx_none];by_cases ha:a<=xs.length
 .rw[mw ha,kr (by rw[cM];lia)]
 .rw[EU (by lia),mn (aF _),mn (by lia),List.take_nil]
theorem Gv(xs:List V)(b:Nat):eB xs J0 (TL (b:Int))=xs.take b:=by
 unfold eB;rw[HT.sIx_nat,HT.sIx_none,tm,Nat.sub_zero];by_cases hb:b<=xs.length
 .rw[mw hb]
 .rw[EU (by lia),kr (aF _),kr (by lia)]
section
variable{P:aJ}{w:aH}{K:aw}{mg:Str->Option ae}{base:aA}{A:Ad}
theorem eK{G:Hp}{p:aa}{s:ag}(h:G p=TL (.lst (bv s))):BL K G p s:=ak.of h
def DC(K:aw)(A:Ad):Sp:=fun vs H Q _=>∃(G:Hp)(a:aa)(s:ag)(c:UInt8),vs=[.ref a,.int (c.toNat:Int)]/\Wd A.toCn G H/\BL K G a s/\s.length<=100000/\cT A.toCn G H Q fun G' v=>∃p,v=.ref p/\Fs K G' p (aG c s)
theorem XM{c:UInt8}{s:ag}{st i:Nat}(h1:st<=i)(h2:c∉(s.drop st).take (i-st))(h3:s[i]?=TL c):aG c (s.drop st)=[(s.drop st).take (i-st)]++aG c (s.drop (i+1)):=by
 have e:s.drop st=(s.drop st).take (i-st)++c::s.drop (i+1):=by
  conv=>lhs;rw[<-pk (i-st) (s.drop st)]
  congr 1
  rw[fS,show st+(i-st)=i by lia];exact gA h3
 have:=ng c ((s.drop st).take (i-st)) (s.drop (i+1));rw[<-e,kc h2]at this;exact this
theorem cf{n m:Nat}(h:n<=m)(hm:m<aZ):n<aZ:=tL h hm
def Ft(G:Hp)(a:aa)(rs:List ag):Prop:=∃as:List aa,G a=TL (.lst (as.map V.ref))/\bK (fun p s=>G p=TL (.lst (bv s))) as rs
def Xo(K:aw)(A:Ad):Sp:=fun vs H Q _=>∃(G:Hp)(a:aa)(s:ag)(c:UInt8),vs=[.ref a,.int (c.toNat:Int)]/\Wd A.toCn G H/\BL K G a s/\s.length<=100000/\cT A.toCn G H Q fun G' v=>∃p,v=.ref p/\Ft G' p (aG c s)
theorem BV(T:aY K mg A):Kn P w K mg base aW "parted" 1 ["row","sign"] (Xo K A):=by
 have sc:aV ["row","sign","stretches","start","place","byte"] ["row","sign"] (aN Kt):=bp;refine Kn.of T.aaF sc (fun vs H Q E h=>?_) (fun f cdv A0 outer s0 H vs Q E hr h=>?_)
 .obtain⟨_,_,_,_,rfl,_⟩:=h;rfl
 obtain⟨G,a,s,c,rfl,wd,hs,hl,q⟩:=h
 refine⟨_,(aq (pS 2 sc.nd (bt ao))
   (aq (pS 3 sc.nd aB)
   (aq (gf ff rfl (oy rfl T.Zo (af (pv 0) ao)) (ou rfl (ip (gN 4 sc.nd) (ip (gN 5 sc.nd) ow)))
    (au (bA (bL eF (pv 5) (pv 1) (bq _))
     (aq (eI (eN eT gn gr gc (pv 2) (af (iU iV (pv 0) (gd (pv 3)) (gd (pv 4))) ao)))
     (au (pS 3 sc.nd (bb dX (pv 4) aB))))
     bG)))
   (aq (eI (eN eT gn gr gc (pv 2) (af (iU iV (pv 0) (gd (pv 3)) mX) ao)))
   (au (aL (pv 2))))))),?_⟩
 cb_eq
 refine⟨by decide,fun p hp=>?_⟩;have s1:Step A.toCn G H G (ah H p (.lst [])):=(Step.refl wd).new wd hp;have o1:ar A.toCn H G (ah H p (.lst [])) p (.lst []):=ar.make wd (Step.refl wd) hp
 refine qB (hs.mono s1.wd.sub) (fun i σ H'=>∃(G1:Hp)(st:Nat)(o4 o5:Option V)(as:List aa)(rows:List ag),σ=[TL (.ref a),TL (.int (c.toNat:Int)),TL (.ref p),TL (.int (st:Int)),o4,o5]/\Step A.toCn G H G1 H'/\ar A.toCn H G1 H' p (.lst (as.map V.ref))/\
   bK (fun p r=>G1 p=TL (.lst (bv r))) as rows/\st<=i/\rows.length<=i/\rows++aG c (s.drop st)=aG c s/\c∉(s.drop st).take (i-st)) ?_ ?_ ?_ ?_
 .exact⟨G,0,J0,J0,[],[],rfl,s1,o1,.nil,aF _,aF _,rfl,by simp⟩
 .rintro i σ H' _ ⟨G1,_,_,_,_,_,_,s2,_⟩;exact(hs.mono (s2.same wd)).mono s2.wd.sub
 .rintro i x σ H' T0 hx ⟨G1,st,o4,o5,as,rows,rfl,s2,o2,pr,hst,hrl,e1,e2⟩ hT;obtain⟨d,hd,rfl⟩:=Ax hx;have hi:i<s.length:=(aK.mp hd).1;have s3:=s2.new wd hT (o:=.tup [.int (i:Nat),.int (d.toNat:Int)]);have o3:=o2.new_ hT (o':=.tup [.int (i:Nat),.int (d.toNat:Int)])
  cb_eq
  simp only[decide_eq_true_eq];split
  .next hdc=>
   have hdc:d=c:=by rw[iW];exact jc hdc
   subst hdc;refine⟨eP (ak.of o3.at_),?_⟩;refine iX ((hs.mono (s3.same wd)).mono s3.wd.sub) fun p2 hp2=>?_;have o4':=o3.newI s3.wd hp2 (o':=.lst (eB (bv s) (TL (st:Int)) (TL (i:Nat)))) aS;have s4:=s3.newI wd hp2 (o:=.lst (eB (bv s) (TL (st:Int)) (TL (i:Nat)))) aS;refine gh o4'.at_ (by rw[aE,bU pr];exact cf (m:=100000) (by lia) (by decide)) ?_
   cb_eq
   refine⟨_,i+1,_,_,as++[p2],rows++[(s.drop st).take (i-st)],by rw[Int.natCast_add];rfl,s4.put wd o4',?_,?_,aF _,by rw[bw,dR];lia,?_,by simp⟩
   .rw[cx];exact o4'.put_
   .refine ji (cP (fun _ _ z=>bx (s3.wd.noG hp2) _ _ z) pr) ?_;rw[ax,ug,xc]
   .rw[dt,<-XM hst e2 hd];exact e1
  .next hdc=>
   have hdc: ¬c=d:=fun z=>hdc (by rw[z]);refine⟨G1,st,_,_,as,rows,rfl,s3,o3,pr,by lia,by lia,e1,?_⟩;rw[show i+1-st=(i-st)+1 by lia];intro z;have hg:(s.drop st)[i-st]?=TL d:=by rw[vW,show st+(i-st)=i by lia];exact hd
   rw[PM.take_snoc hg]at z;rcases cn.mp z with z|z
   .exact e2 z
   .exact hdc (by simpa using z)
 .rintro σ H' ⟨G1,st,o4,o5,as,rows,rfl,s2,o2,pr,hst,hrl,e1,e2⟩;rw[cY]at hst hrl e2
  cb_eq
  refine⟨eP (ak.of o2.at_),?_⟩;refine iX ((hs.mono (s2.same wd)).mono s2.wd.sub) fun p2 hp2=>?_;have o3:=o2.newI s2.wd hp2 (o':=.lst (eB (bv s) (TL (st:Int)) J0)) aS;have s3:=s2.newI wd hp2 (o:=.lst (eB (bv s) (TL (st:Int)) J0)) aS;refine gh o3.at_ (by rw[aE,bU pr];exact cf (m:=100000) (by lia) (by decide)) ?_
  cb_eq
  have s4:=s3.put wd o3 (o':=.lst (as.map V.ref++[.ref p2]));have o4':=o3.put_ (o':=.lst (as.map V.ref++[.ref p2]));refine q _ _ _ (s4.sealO wd o4' aS) ⟨p,rfl,as++[p2],?_,?_⟩
  .rw[ax,cx];rfl
  .rw[kr (by rw[cM];lia)]at e2;rw[kc e2]at e1;rw[<-e1];have hne:p2≠p:=fun z=>by rw[z,o2.at_]at hp2;cases hp2
   refine ji (cP (fun _ _ z=>bx o4'.g _ _ (bx (s2.wd.noG hp2) _ _ z)) pr) ?_;rw[aO hne,ax,xo];unfold bv;rw[zF]
theorem IV(T:aY K mg A):Kn P w K mg base aW "parted" 1 ["row","sign"] (DC K A):=by
 obtain⟨f,fd,F,r⟩:=BV (P:=P) (w:=w) (base:=base) T;refine⟨f,fd,F.imp fun vs H Q E h=>?_,r⟩;obtain⟨G,a,s,c,h1,wd,hs,hl,q⟩:=h;refine⟨G,a,s,c,h1,wd,hs,hl,fun G' H' v s1 hv=>q G' H' v s1 ?_⟩;obtain⟨p,e,as,h2,h3⟩:=hv;exact⟨p,e,as,h2,cP (fun _ _ z=>eK z) h3⟩
def bi(s:ag):List Int:=s.map fun c=>(c.toNat:Int)
theorem xb(s:ag):bv s=(bi s).map V.int:=by
 unfold bv bi;rw[gH];rfl
theorem jm{s t:ag}:bi s=bi t↔s=t:=by
 constructor
 .intro h;refine(List.map_inj_right (fun a b(z:((a.toNat:Nat):Int)=(b.toNat:Nat))=>?_)).mp h;rw[iW];exact jc z
 .intro h;rw[h]
theorem BL.ints{G:Hp}{a:aa}{s:ag}(h:BL K G a s):ak K G a ((bi s).map V.int):=by
 unfold BL at h;rw[xb]at h;exact h
theorem AS(s:ag):(bv s).all iT=true:=by
 rw[gG];intro v hv;obtain⟨c,_,rfl⟩:=bS.mp hv;rfl
theorem xE(c:UInt8)(s:ag):gB (.int (c.toNat:Int)) (bv s)=decide (c∈s):=by
 unfold gB bv;rw[vV];by_cases h:c∈s
 .rw[dT h,oY];exact⟨c,h,by show(((c.toNat:Nat):Int)==(c.toNat:Nat))=J1;simp⟩
 .rw[dF h,vU];intro d hd z;have z:(((d.toNat:Nat):Int)==(c.toNat:Nat))=true:=z;have z:d=c:=by rw[iW];exact jc (eq_of_beq z)
  exact h (z▸hd)
theorem YS{H:Hp}{Q:VK}{a p:aa}{ns:List Int}{as:List aa}{rows:List (List Int)}(h1:ak K H a (ns.map V.int))(h2:bT K H p (as.map V.ref))(h3:bK (fun p r=>ak K H p (r.map V.int)) as rows)(q:Q (.bl (!decide (ns∈rows))) H):JF K (.ref a) (.ref p) H Q:=
 ⟨a,p,ns,as,rows,rfl,rfl,h1,h2,h3,q⟩
noncomputable def lN(s:ag):Bool:=decide (s≠[]/\s≠[46]/\s≠[46,46]/\(0:UInt8)∉s)
def Xb(K:aw)(A:Ad):Sp:=fun vs H Q _=>∃(G:Hp)(a:aa)(s:ag),vs=[.ref a]/\Wd A.toCn G H/\BL K G a s/\cT A.toCn G H Q fun _ v=>v=.bl (lN s)
theorem SU(T:aY K mg A):Kn P w K mg base aW "is_part" 1 ["part"] (Xb K A):=by
 have sc:aV ["part"] ["part"] (aN Kg):=bp;refine Kn.of T.aas sc (fun vs H Q E h=>?_) (fun f cdv A0 outer s0 H vs Q E hr h=>?_)
 .obtain⟨_,_,_,rfl,_⟩:=h;rfl
 obtain⟨G,a,s,rfl,wd,hs,q⟩:=h;have hu64:=hr.units;refine⟨_,(au (aL (Cw (fN (Tz hu64) (pv 0) (dY (af (bt ao) (af (bt (af (bC T.ZH rfl) ao)) (af (bt (af (bC T.ZH rfl) (af (bC T.ZH rfl) ao))) ao)))) (by with_unfolding_all rfl)) (CA (fN TB aB (pv 0) (by with_unfolding_all rfl)))))),?_⟩
 cb_eq
 refine⟨by decide,fun p1 h1=>⟨by decide,fun p2 h2=>⟨by decide,fun p3 h3=>⟨by decide,fun t h4=>?_⟩⟩⟩⟩;have s1:=(Step.refl wd).newI wd h1 (o:=.lst []) aS;have s2:=s1.newI wd h2 (o:=.lst [.int 46]) aS;have s3:=s2.newI wd h3 (o:=.lst [.int 46,.int 46]) aS;have s4:=s3.newI wd h4 (o:=.tup [.ref p1,.ref p2,.ref p3]) dh;have n34:=bx (o:=.tup [.ref p1,.ref p2,.ref p3]) (s3.wd.noG h4);have n23:=bx (o:=.lst [.int 46,.int 46]) (s2.wd.noG h3);have n12:=bx (o:=.lst [.int 46]) (s1.wd.noG h2);have hs4:=(hs.mono (s4.same wd)).mono s4.wd.sub
 refine YS (ns:=bi s) (as:=[p1,p2,p3]) (rows:=[[],[46],[46,46]]) hs4.ints (bT.of ax)
  (.cons (ak.of (s4.wd.sub _ _ (n34 _ _ (n23 _ _ (n12 _ _ ax))))) (.cons (ak.of (s4.wd.sub _ _ (n34 _ _ (n23 _ _ ax)))) (.cons (ak.of (s4.wd.sub _ _ (n34 _ _ ax))) .nil))) ?_
 have hmem:bi s∈ [[],[46],[46,46]]↔s=[]\/s=[46]\/s=[46,46]:=by
  have e1:bi s=[]↔s=[]:=jm (t:=[]);have e2:bi s=[46]↔s=[46]:=jm (t:=[46]);have e3:bi s=[46,46]↔s=[46,46]:=jm (t:=[46,46]);simp only[bg,jg,or_false,e1,e2,e3]
 cb_eq
 by_cases hm:bi s∈ [[],[46],[46,46]]
 .rw[dT hm]
  cb_eq
  refine q _ _ _ s4 (congrArg V.bl ?_);refine(dF fun z=>?_).symm;rcases hmem.mp hm with e|e|e
  .exact z.1 e
  .exact z.2.1 e
  .exact z.2.2.1 e
 .rw[dF hm]
  cb_eq
  simp only[eJ,if_true];refine yY hs4 rfl (AS s) ?_;have e0:=xE 0 s;refine q _ _ _ s4 (congrArg V.bl ?_);show(!gB (.int 0) (bv s))=_;rw[show V.int 0=V.int ((0:UInt8).toNat:Int)from rfl,e0];unfold lN;have hm':=fun z=>hm (hmem.mpr z);by_cases h0:(0:UInt8)∈s
  .rw[dT h0];exact(dF fun z=>z.2.2.2 h0).symm
  .rw[dF h0];exact(dT ⟨fun z=>hm' (.inl z),fun z=>hm' (.inr (.inl z)),fun z=>hm' (.inr (.inr z)),h0⟩).symm
theorem HH{s:ag}(h:(47:UInt8)∉s):lN s=gC s:=by
 have hb:lN s=J1↔gC s=true:=by
  unfold lN gC;rw[decide_eq_true_iff];simp only[bD,vK,zD,tj,decide_eq_false_iff_not,bne_iff_ne,ne_eq];constructor
  .rintro⟨a,b,c,d⟩;exact⟨a,d,h,b,c⟩
  .rintro⟨a,d,_,b,c⟩;exact⟨a,b,c,d⟩
 cases e:lN s<;>cases e':gC s
 .rfl
 .rw[e,e']at hb;exact J5 (hb.mpr rfl) (by decide)
 .rw[e,e']at hb;exact J5 (hb.mp rfl) (by decide)
 .rfl
def Lw(K:aw)(A:Ad):Sp:=fun vs H Q _=>∃(G:Hp)(a:aa)(s:ag),vs=[.ref a]/\Wd A.toCn G H/\BL K G a s/\cT A.toCn G H Q fun _ v=>v=.bl (gU s).isSome
theorem YL{H:Hp}{Q:VK}{a:aa}{bs:List Bool}(h:ak K H a (bs.map V.bl))(q:Q (.bl (bs.all id)) H):JB K [.ref a] H Q:=⟨a,bs,rfl,h,q⟩
theorem BS(T:aY K mg A):Kn P w K mg base aW "is_path" 2 ["row"] (Lw K A):=by
 have sc:aV ["row","part"] ["row"] (aN Kh):=bp;refine Kn.of T.aat sc (fun vs H Q E h=>?_) (fun f cdv A0 outer s0 H vs Q E hr h=>?_)
 .obtain⟨_,_,_,rfl,_⟩:=h;rfl
 obtain⟨G,a,s,rfl,wd,hs,q⟩:=h
 refine⟨_,(aq (bA (bL mV (cL T.Ze (pv 0)) (bC T.abD rfl) (bq _))
    (au (aL qm))
    bG)
   (au (aL (jX (OM rfl) (by rfl) T.aaa boot_all (af (ij rfl sc.nd (dw (cF (IV T) hr (af (pv 0) (af (bC T.Zk rfl) ao)))) (own:=[("part",1)]) (fI (by kernel_rfl)) (fun _ _ _ _ _=>by exact(gN 1 sc.nd)) (fun _ _ _ _ _=>by exact jZ) (fun _ _ _ _ _=>by exact(cF (SU T) hr (af (pv 1) ao)))) ao))))),?_⟩
 cb_eq
 refine cy (hs.mono wd.sub) ?_
 cb_eq
 rw[cY];simp only[decide_eq_true_eq];split
 .next hl=>
  refine q _ _ _ (Step.refl wd) (congrArg V.bl ?_);unfold gU;rw[J3 (fun z=>by have:s.length<=256:=z.2;lia)];rfl
 .next hl=>
  have hl:s.length<=256:=by lia
  refine⟨G,a,s,47,rfl,wd,hs,by lia,fun G1 H1 v s1 hv=>?_⟩;obtain⟨p,rfl,as,hp,pr⟩:=hv;refine gY (ak.of (s1.wd.sub _ _ hp)) (fun D i H'=>∃G2,Step A.toCn G H G2 H'/\bh G1 G2/\ar A.toCn H G2 H' D (.lst (((aG 47 s).take i).map fun r=>V.bl (lN r)))) ?_ ?_ ?_ ?_
  .intro D hD;exact⟨G1,s1.new wd hD,bh.refl _,ar.make wd s1 hD⟩
  .rintro D i H' _ ⟨G2,s2,e12,_⟩;exact ak.of (s2.wd.sub _ _ (e12 _ _ hp))
  .rintro D i x H' hx ⟨G2,s2,e12,o2⟩;obtain⟨p2,hp2,rfl⟩:=eM hx;obtain⟨r,hr2,hb⟩:=dP pr hp2
   cb_eq
   refine⟨G2,p2,r,rfl,s2.wd,hb.mono e12,fun G3 H3 v s3 hv=>?_⟩;subst hv;have o3:=o2.call s3;have hi:i<(aG 47 s).length:=(aK.mp hr2).1;refine⟨_,o3.at_,?_,G3,(s2.trans wd s3).put wd o3,fun b o z=>s3.same s2.wd b o (e12 b o z),?_⟩
   .rw[aE,cQ];have:=split_len 47 s;exact cf (m:=257) (by lia) (by decide)
   .rw[PM.take_snoc hr2,cx];exact o3.put_
  .rintro D H' ⟨G2,s2,e12,o2⟩;rw[aE,bU pr,cv]at o2
   cb_eq
   refine YL (bs:=(aG 47 s).map lN) (ak.of (by rw[gH];exact o2.at_)) ?_;refine q _ _ _ s2 (congrArg V.bl ?_);rw[List.all_map]
   have e:(aG 47 s).all (id∘lN)=(aG 47 s).all gC:=by
    rw[nu,gG,gG];constructor
    .intro z r hr3;rw[<-HH (vq hr3)];exact z r hr3
    .intro z r hr3;show lN r=J1;rw[HH (vq hr3)];exact z r hr3
   rw[e];unfold gU;by_cases z:(aG 47 s).all gC=J1
   .rw[J4 ⟨z,hl⟩,z];rfl
   .rw[J3 (fun y=>z y.1)];cases h:(aG 47 s).all gC
    .rfl
    .exact J5 h z
end
end PP
namespace PP
open PySem PySem.Spec L2
open PyProof.Rows hiding St
section
variable{X:Cx}{K:aw}{e o:aM}{f:Str}{pos apos cpos tpos:Pos}{ta to te:TE}{t:TA}
theorem sC(hK:X.K=K)(he:PE X e ta)(hb:tX e f X.env (bF e X.env)=bF e X.env):PE X (.Attribute e f pos) (yH K ta f):=by subst hK;exact bN he hb
theorem xI(hK:X.K=K):vQ X (CI K):=by subst hK;exact dk
theorem AK(hK:X.K=K):jB X (.builtin "len") (vR K):=by subst hK;exact Gr
theorem Us{es:List aM}{k:Nat}{t:kE}{n:Nat}(hK:X.K=K)(hc:X.calm=J1)(h:tO X es t)(hn:autoParam ((rH es X.env).length=n) J7)(hst:autoParam ((rH es X.env).findIdx? (·.1)=none) J7):PG X (.Tuple es k pos) (xx K n t):=by subst hK;exact ou hc h hn hst
end
end PP
namespace PP
open PySem PySem.Spec L2
open PyProof.Rows hiding St
open Pg PM
section
variable{P:aJ}{w:aH}{K:aw}{mg:Str->Option ae}{base:aA}{A:Ad}
noncomputable def iv(l:List Nat):List V:=l.map fun(n:Nat)=>V.int (n:Int)
theorem iA(l k:List Nat):iv l++iv k=iv (l++k):=by unfold iv;rw[cx]
theorem dO(l:List Nat):(iv l).length=l.length:=aE _
def WV(K:aw)(A:Ad):Sp:=fun vs H Q _=>∃(G:Hp)(a:aa)(s:ag),vs=[.ref a]/\Wd A.toCn G H/\BL K G a s/\s.length<=256/\cT A.toCn G H Q fun G' v=>∃p,v=.ref p/\G' p=TL (.lst (iv (gM s)))
theorem Lg{s:ag}{i:Nat}{c:UInt8}(h:s[i]?=TL c):cG 0 (s.take (i+1))=cG 0 (s.take i)++if c=47 then [i]else []:=by
 have hi:=(aK.mp h).1;rw[PM.take_snoc h,vk,cQ,mw (by lia),qX]
 congr 1
theorem vm:∀(s:ag)(n:Nat),(cG n s).length<=s.length
 | [],n=>aF _
 |c::s,n=>by
  have:=vm s (n+1);show(if c=47 then n::cG (n+1) s else cG (n+1) s).length<=_;split
  .rw[bH,bH];lia
  .rw[bH];lia
theorem SM(T:aY K mg A):Kn P w K mg base aW "entry_ends" 1 ["path"] (WV K A):=by
 have sc:aV ["path","place","byte"] ["path"] (aN JZ):=bp;refine Kn.of T.aal sc (fun vs H Q E h=>?_) (fun f cdv A0 outer s0 H vs Q E hr h=>?_)
 .obtain⟨_,_,_,rfl,_⟩:=h;rfl
 obtain⟨G,a,s,rfl,wd,hs,hl,q⟩:=h;refine⟨_,(au (aL (bb sx (ij rfl sc.nd (oy rfl T.Zo (af (pv 0) ao)) (own:=[("place",1),("byte",2)]) (fI (by kernel_rfl)) (fun _ _ _ _ _=>by exact(Us (K:=K) (n:=2) rfl rfl (ip (gN 1 sc.nd) (ip (gN 2 sc.nd) ow)))) (fun _ _ _ _ _=>by exact(oA (bL eF (pv 2) (bC T.Zk rfl) (bq _)))) (fun _ _ _ _ _=>by exact(pv 1))) (bt (af (cL T.Ze (pv 0)) ao))))),?_⟩
 cb_eq
 refine YQ (hs.mono wd.sub) (fun D i H'=>∃G2,Step A.toCn G H G2 H'/\ar A.toCn H G2 H' D (.lst (iv (cG 0 (s.take i))))) ?_ ?_ ?_ ?_
 .intro D hD;exact⟨G,(Step.refl wd).new wd hD,ar.make wd (Step.refl wd) hD⟩
 .rintro D i H' _ ⟨G2,s2,o2⟩;exact(hs.mono (s2.same wd)).mono s2.wd.sub
 .rintro D i x H' T0 hx ⟨G2,s2,o2⟩ hT;obtain⟨c,hc,rfl⟩:=Ax hx;have hi:=(aK.mp hc).1;have s3:=s2.new wd hT (o:=.tup [.int (i:Nat),.int (c.toNat:Int)]);have o3:=o2.new_ hT (o':=.tup [.int (i:Nat),.int (c.toNat:Int)])
  cb_eq
  simp only[decide_eq_true_eq];split
  .next h47=>
   have h47:c=47:=by rw[iW];exact jc h47
   refine⟨_,o3.at_,?_,G2,s3.put wd o3,?_⟩
   .rw[dO];have:=vm (s.take i) 0;rw[cQ]at this;exact cf (m:=256) (by lia) (by decide)
   .rw[Lg hc,J4 h47,<-iA];exact o3.put_
  .next h47=>
   have h47: ¬c=47:=fun z=>h47 (by rw[z];rfl);refine⟨G2,s3,?_⟩;rw[Lg hc,J3 h47,cD];exact o3
 .rintro D H' ⟨G2,s2,o2⟩;rw[cY,cv]at o2
  cb_eq
  refine cy ((hs.mono (s2.same wd)).mono s2.wd.sub) ?_;rw[cY];refine⟨by decide,fun p hp=>?_⟩;have s3:=s2.new wd hp (o:=.lst [.int (s.length:Nat)]);have o3:=o2.new_ hp (o':=.lst [.int (s.length:Nat)]);refine sU o3.at_ ax ?_ fun p2 hp2=>?_
  .rw[dO];have:=vm s 0;have h1:([V.int (s.length:Nat)]:List V).length=1:=rfl;rw[h1];exact jH (cf (m:=257) (by lia) (by decide))
  .refine q _ _ _ (s3.newI wd hp2 aS) ⟨p2,rfl,?_⟩;rw[ax];show _=TL (HO.lst (iv (cG 0 s++[s.length])));rw[<-iA];rfl
def Xg(K:aw)(A:Ad):Sp:=fun vs H Q _=>∃(G:Hp)(a b:aa)(s d:ag),vs=[.ref a,.ref b]/\Wd A.toCn G H/\BL K G a s/\G b=TL (.lst (bv d))/\d.length<=256/\cT A.toCn G H Q fun _ v=>v=.bl (decide (d=[]\/s.take (d.length+1)=d++[47]))
theorem SZ(T:aY K mg A):Kn P w K mg base aW "lies_below" 1 ["path","directory"] (Xg K A):=by
 have sc:aV ["path","directory"] ["path","directory"] (aN Km):=bp;refine Kn.of T.aay sc (fun vs H Q E h=>?_) (fun f cdv A0 outer s0 H vs Q E hr h=>?_)
 .obtain⟨_,_,_,_,_,rfl,_⟩:=h;rfl
 obtain⟨G,a,b,s,d,rfl,wd,hs,hd,hl,q⟩:=h;have hu64:=hr.units
 refine⟨_,(aq (bA (bL (mU hu64) (pv 1) (bt ao) (bq _))
    (au (aL qm))
    bG)
   (au (aL (fN (mU hu64) (iU iV (pv 0) mX (gd (bb dX (cL T.Ze (pv 1)) aB))) (bb sx (pv 1) (bt (af (bC T.Zk rfl) ao))) (bq _))))),?_⟩
 cb_eq
 refine⟨by decide,fun p hp=>?_⟩;have s1:=(Step.refl wd).new wd hp (o:=.lst []);have hd1:BL K (ah H p (.lst [])) b d:=eK (s1.wd.sub _ _ hd);refine nk (ns:=bi d) (ms:=[]) hd1.ints (ak.of ax) ?_
 cb_eq
 simp only[decide_eq_true_eq];split
 .next hdn=>
  have hdn:d=[]:=(jm (t:=[])).mp hdn;exact q _ _ _ s1 (congrArg V.bl (dT (.inl hdn)).symm)
 .next hdn=>
  have hdn: ¬d=[]:=fun z=>hdn (by rw[z];rfl);refine cy hd1 ?_
  cb_eq
  rw[cY,show((d.length:Nat):Int)+1=((d.length+1:Nat):Int) by lia];refine iX (hs.mono s1.wd.sub) fun p2 hp2=>?_;have s2:=s1.newI wd hp2 (o:=.lst (eB (bv s) J0 (TL ((d.length+1:Nat):Int)))) aS;refine⟨by decide,fun p3 hp3=>?_⟩;have s3:=s2.newI wd hp3 (o:=.lst [.int 47]) aS;refine sU (s3.wd.sub _ _ (s3.same wd _ _ hd)) ax ?_ fun p4 hp4=>?_
  .rw[cY];exact jH (cf (m:=257) (by show d.length+1<=257;lia) (by decide))
  .have s4:=s3.newI wd hp4 (o:=.lst (bv d++[.int 47])) aS;have h2:ak K _ p2 ((bi (s.take (d.length+1))).map V.int):=ak.of (s4.wd.sub _ _ (bx (s3.wd.noG hp4) _ _ (bx (s2.wd.noG hp3) _ _ (by rw[ax,Gv,<-xb];unfold bv;rw[vZ]))));have h4:ak K (ah (ah (ah (ah H p (.lst [])) p2 (.lst (eB (bv s) J0 (TL ((d.length+1:Nat):Int))))) p3 (.lst [.int 47])) p4 (.lst (bv d++[.int 47]))) p4 ((bi (d++[47])).map V.int):=ak.of (by rw[ax,<-xb,<-Ov];rfl);refine nk h2 h4 (q _ _ _ s4 (congrArg V.bl ?_))
   have e:(bi (s.take (d.length+1))=bi (d++[47]))↔(d=[]\/s.take (d.length+1)=d++[47]):=by
    rw[jm];exact⟨.inr,fun z=>z.elim (fun y=>J5 y hdn) id⟩
   exact decide_eq_decide.mpr e
theorem ak.keep{A:Cn}{G H G1 H1:Hp}(wd:Wd A G H)(s:Step A G H G1 H1){a:aa}{xs:List V}(h:ak K H a xs):ak K H1 a xs:=by
 rcases h with(h|⟨o,h⟩)|h
 .exact .inl (.inl (s.keep a _ h (wd.notL h fun _ z=>by cases z)))
 .exact .inl (.inr ⟨o,s.keep a _ h (wd.notL h fun _ z=>by cases z)⟩)
 .exact .inr h
def gk(A:Cn)(G:Hp)(m:aa)(cs:List MC):Prop:=∃dx lc opt dd,G m=TL (.ins A.mat dx (dC lc opt dd))/\gZ A G lc cs/\iw cs (·.opt) opt
theorem gk.mono{A:Cn}{G G':Hp}{a:aa}{cs:List MC}(e:bh G G')(h:gk A G a cs):gk A G' a cs:=by
 obtain⟨dx,lc,opt,dd,h1,h2,h3⟩:=h;exact⟨dx,lc,opt,dd,e _ _ h1,h2.mono e,h3⟩
theorem uK{lc dd:aa}{opt:Nat}:(dC lc opt dd).lookup ("cells":Str)=TL (.ref lc):=by rfl
theorem Iw{lc dd:aa}{opt:Nat}:(dC lc opt dd).lookup ("optional":Str)=TL (.int opt):=by rfl
theorem xS{lc dd:aa}{opt:Nat}:(dC lc opt dd).lookup ("steps":Str)=TL (.ref dd):=by rfl
theorem Gj{c:MC}:(jO c).lookup ("stays":Str)=TL (.int c.stays):=by rfl
theorem Gi{c:MC}:(jO c).lookup ("moves":Str)=TL (.int c.moves):=by rfl
theorem OB{c:MC}:(jO c).lookup ("optional":Str)=TL (.bl c.opt):=by rfl
theorem ua(m k:Nat):decide (vN ((m:Int) / 2^((k:Int)).toNat) 1=1)=m.testBit k:=by
 rw[fD,Wt,show(1:Int)=((1:Nat):Int)from rfl,nS];exact Om m k
def Xx(K:aw)(A:Ad):Sp:=fun vs H Q _=>∃(G:Hp)(a:aa)(bs:List Bool),vs=[.ref a]/\Wd A.toCn G H/\ak K H a (bs.map V.bl)/\bs.length<=100000/\cT A.toCn G H Q fun _ v=>∃n:Nat,v=.int n/\∀k,n.testBit k=J1↔bs[k]?=TL J1
theorem Oj(n i k:Nat):(n|||2^i).testBit k=J1↔n.testBit k=J1\/k=i:=by
 rw[zR,qF,pA,decide_eq_true_iff];exact⟨fun h=>h.imp id fun z=>z.symm,fun h=>h.imp id fun z=>z.symm⟩
theorem BW(T:aY K mg A):Kn P w K mg base aW "places_of" 1 ["marks"] (Xx K A):=by
 have sc:aV ["marks","places","place","mark"] ["marks"] (aN KB):=bp;refine Kn.of T.aaN sc (fun vs H Q E h=>?_) (fun f cdv A0 outer s0 H vs Q E hr h=>?_)
 .obtain⟨_,_,_,rfl,_⟩:=h;rfl
 obtain⟨G,a,bs,rfl,wd,hs,hl,q⟩:=h
 refine⟨_,(aq (pS 1 sc.nd aB)
   (aq (gf ff rfl (oy rfl T.Zo (af (pv 0) ao)) (ou rfl (ip (gN 2 sc.nd) (ip (gN 3 sc.nd) ow)))
    (au (bA (dZ (pv 3))
     (au (pS 1 sc.nd (bb yd (pv 1) (bb ju aB (pv 2)))))
     bG)))
   (au (aL (pv 1))))),?_⟩
 cb_eq
 refine qB hs (fun i σ H'=>∃(G1:Hp)(n:Nat)(o2 o3:Option V),σ=[TL (.ref a),TL (.int (n:Int)),o2,o3]/\Step A.toCn G H G1 H'/\n<2^i/\∀k,n.testBit k=J1↔k<i/\bs[k]?=TL J1) ?_ ?_ ?_ ?_
 .exact⟨G,0,J0,J0,rfl,Step.refl wd,by decide,fun k=>by simp⟩
 .rintro i σ H' _ ⟨G1,n,_,_,_,s1,_⟩;exact ak.keep wd s1 hs
 .rintro i x σ H' T0 hx ⟨G1,n,o2,o3,rfl,s1,hn,hb⟩ hT;obtain⟨b,hbi,rfl⟩:=eM hx;have hi:i<bs.length:=(aK.mp hbi).1;have s2:=s1.new wd hT (o:=.tup [.int (i:Nat),.bl b])
  cb_eq
  cases b with
  |true=>
   simp only[if_true];refine⟨jo (m:=1) (n:=1) (by decide) (by lia),?_⟩;rw[ya,ub];refine⟨G1,n|||2^i,_,_,rfl,s2,?_,fun k=>?_⟩
   .exact Nat.or_lt_two_pow (qT hn (pz (by decide) (by lia))) (pz (by decide) (by lia))
   .rw[Oj,hb];constructor
    .rintro(⟨h1,h2⟩|rfl)
     .exact⟨by lia,h2⟩
     .exact⟨by lia,hbi⟩
    .rintro⟨h1,h2⟩;by_cases e:k=i
     .exact .inr e
     .exact .inl ⟨by lia,h2⟩
  |false=>
   simp only[aU,if_false];refine⟨G1,n,_,_,rfl,s2,qT hn (pz (by decide) (by lia)),fun k=>?_⟩;rw[hb];constructor
   .rintro⟨h1,h2⟩;exact⟨by lia,h2⟩
   .rintro⟨h1,h2⟩;refine⟨?_,h2⟩;by_cases e:k=i
    .subst e;rw[hbi]at h2;cases h2
    .lia
 .rintro σ H' ⟨G1,n,o2,o3,rfl,s1,hn,hb⟩
  cb_eq
  refine q _ _ _ s1 ⟨n,rfl,fun k=>?_⟩;rw[hb,aE];exact⟨fun h=>h.2,fun h=>⟨(aK.mp h).1,h⟩⟩
theorem uJ{cs:List MC}{f:MC->Bool}{n:Nat}(h:∀k,n.testBit k=J1↔(cs.map f)[k]?=TL J1):iw cs f n:=fun k=>by
 rw[h k,cI];constructor
 .intro e;obtain⟨c,h1,h2⟩:=wy.mp e;exact⟨c,h1,h2⟩
 .rintro⟨c,h1,h2⟩;rw[h1];exact congrArg TL h2
theorem Step.mat{A:Cn}{G H G1 H1:Hp}(wd:Wd A G H)(s:Step A G H G1 H1){x dx lc dd:aa}{opt:Nat}{cs:List MC}(ox:ar A H G1 H1 x (.ins A.mat dx (dC lc opt dd)))(od:ar A H G1 H1 dd (.dK []))(hc:gZ A G1 lc cs):
  Step A G H (ah G1 x (.ins A.mat dx (dC lc opt dd))) H1:=by
 have sm:bh G1 (ah G1 x (.ins A.mat dx (dC lc opt dd))):=bx ox.g
 have hne:dd≠x:=fun z=>by
  have h1:=od.at_;rw[z,ox.at_]at h1;cases h1
 have cases_:∀m dx' lc' opt' dd',ah G1 x (.ins A.mat dx (dC lc opt dd)) m=TL (.ins A.mat dx' (dC lc' opt' dd'))->(m=x/\lc'=lc/\dd'=dd)\/(m≠x/\G1 m=TL (.ins A.mat dx' (dC lc' opt' dd'))):=fun m dx' lc' opt' dd' e=>by
  by_cases z:m=x
  .subst z;rw[ax]at e;injection e with e;injection e with _ _ e;unfold dC at e;simp only[zy,rf,V.ref.injEq,true_and,and_true]at e;exact .inl ⟨rfl,e.1.symm,e.2.2.symm⟩
  .rw[aO z]at e;exact .inr ⟨z,e⟩
 refine⟨⟨fun b o e=>?_,fun m dx' lc' opt' dd' e=>?_,fun m dx1 lc1 opt1 m' dx2 lc2 opt2 dd' e e'=>?_,?_⟩,fun b h=>?_,s.keep,fun b h=>?_⟩
 .by_cases z:b=x
  .subst z;rw[ax]at e;cases e;exact ox.at_
  .rw[aO z]at e;exact s.wd.sub b o e
 .rcases cases_ m dx' lc' opt' dd' e with⟨_,rfl,rfl⟩|⟨_,e⟩
  .exact⟨by rw[aO hne];exact od.g,[],cs,od.at_,hc.mono sm,⟨by simp,fun k v z=>by cases z⟩⟩
  .obtain⟨h1,kvs,cs',h2,h3,h4⟩:=s.wd.cach m dx' lc' opt' dd' e
   have:dd'≠x:=fun z=>by
    rw[z,ox.at_]at h2;cases h2
   exact⟨by rw[aO this];exact h1,kvs,cs',h2,h3.mono sm,h4.mono sm⟩
 .rcases cases_ m dx1 lc1 opt1 dd' e with⟨h1,_,h2⟩|⟨z,e1⟩<;>rcases cases_ m' dx2 lc2 opt2 dd' e' with⟨h3,_,h4⟩|⟨z',e2⟩
  .rw[h1,h3]
  .rw[h2]at e2;exact J5 (.inr ⟨m',dx2,lc2,opt2,e2⟩) od.nc
  .rw[h4]at e1;exact J5 (.inr ⟨m,dx1,lc1,opt1,e1⟩) od.nc
  .exact s.wd.inj _ _ _ _ _ _ _ _ _ e1 e2
 .obtain⟨h1,ps,h2,h3⟩:=s.wd.tab;exact⟨by rw[aO (fun z=>ox.nc (.inl z.symm))];exact h1,ps,h2,h3.mono sm⟩
 .have:b≠x:=fun z=>h (by rw[z];exact ox.new);rw[aO this];exact s.grow b h
 .rcases h with h|⟨m,dx',lc',opt',e⟩
  .exact s.newc b (.inl h)
  rcases cases_ m dx' lc' opt' b e with⟨_,_,rfl⟩|⟨_,e⟩
  .exact .inr od.new
  .exact s.newc b (.inr ⟨m,dx',lc',opt',e⟩)
def WH(A:Ad):Sp:=fun vs H Q _=>∃(G H1:Hp)(x dx lc:aa)(cs:List MC),vs=[.ref x,.ref lc]/\H=ah (ah H1 dx (.own x)) x (.ins A.mat dx [])/\H1 x=J0/\H1 dx=J0/\dx≠x/\Wd A.toCn G H1/\gZ A.toCn G lc cs/\cs.length<=100000/\
 ∀G' H',Step A.toCn G H1 G' H'->gk A.toCn G' x cs->Q .non H'
theorem So(T:aY K mg A):fE P w K mg base aW A.mat "Matcher" 2 ["self","cells"] (WH A):=by
 have sc:aV ["self","cells","cell"] ["self","cells"] (aN CY):=bp;refine fE.of T.aa4 sc (fun vs H Q E h=>?_) (fun f cdv A0 outer s0 H vs Q E hr h=>?_)
 .obtain⟨_,_,_,_,_,_,rfl,_⟩:=h;rfl
 obtain⟨G,H1,x,dx,lc,cs,rfl,rfl,hx,hdx,hne,wd,hc,hl,q⟩:=h;have hu:=mL hr;have s1:Step A.toCn G H1 G (ah H1 dx (.own x)):=(Step.refl wd).new wd hdx;have hx1:ah H1 dx (.own x) x=none:=by rw[aO (br hne)];exact hx
 have s2:=s1.new wd hx1 (o:=.ins A.mat dx []);have o2:=ar.make wd s1 hx1 (o:=.ins A.mat dx [])
 refine⟨_,(aq (fj (pv 0) (pv 1) rfl)
   (aq (fj (pv 0) (cF (BW T) hr (af (ij rfl sc.nd (dw (pv 1)) (own:=[("cell",2)]) (fI (by kernel_rfl)) (fun _ _ _ _ _=>by exact(gN 2 sc.nd)) (fun _ _ _ _ _=>by exact jZ) (fun _ _ _ _ _=>by exact(sC (K:=K) rfl (pv 2) rfl))) ao)) rfl)
   (au (fj (pv 0) Jv rfl)))),?_⟩
 cb_eq
 refine fq o2.at_ T.Zg T.Zv (by decide) ?_;have s3:=s2.put wd o2 (o':=.ins A.mat dx (bW "cells" (.ref lc) []));have o3:=o2.put_ (o':=.ins A.mat dx (bW "cells" (.ref lc) []));obtain⟨as,ha,pr⟩:=hc;have hc:gZ A.toCn G lc cs:=⟨as,ha,pr⟩
 cb_eq
 refine gY (ak.of (s3.wd.sub _ _ ha)) (fun D i H'=>Step A.toCn G H1 G H'/\ar A.toCn H1 G H' x (.ins A.mat dx (bW "cells" (.ref lc) []))/\ar A.toCn H1 G H' D (.lst ((cs.take i).map fun c=>V.bl c.opt))) ?_ ?_ ?_ ?_
 .intro D hD;exact⟨s3.new wd hD,o3.new_ hD,ar.make wd s3 hD⟩
 .rintro D i H' _ ⟨s4,_⟩;exact ak.of (s4.wd.sub _ _ ha)
 .rintro D i v H' hv ⟨s4,o4,od⟩;obtain⟨p2,hp2,rfl⟩:=eM hv;obtain⟨c,hc2,dc,hb⟩:=dP pr hp2
  cb_eq
  refine bz (s4.wd.sub _ _ hb) T.Zp T.ZS OB ?_;have hi:i<cs.length:=(aK.mp hc2).1;have hxD:x≠D:=mS o4.at_ od.at_ (by intro z;cases z);refine⟨_,od.at_,?_,s4.put wd od,o4.other hxD,?_⟩
  .rw[aE,cQ];exact cf (m:=100000) (by lia) (by decide)
  .rw[PM.take_snoc hc2,cx];exact od.put_
 .rintro D H' ⟨s4,o4,od⟩;rw[aE,bU pr,cv]at od
  cb_eq
  refine⟨G,D,cs.map (·.opt),rfl,s4.wd,ak.of (by rw[od.at_,gH];rfl),by rw[aE];exact hl,fun G5 H5 v s5 hv=>?_⟩;obtain⟨n,rfl,hn⟩:=hv;have s6:=s4.trans wd s5;have o6:=o4.call s5;refine fq o6.at_ T.Zg T.ZK qc ?_;have s7:=s6.put wd o6 (o':=.ins A.mat dx (bW "optional" (.int (n:Int)) (bW "cells" (.ref lc) [])));have o7:=o6.put_ (o':=.ins A.mat dx (bW "optional" (.int (n:Int)) (bW "cells" (.ref lc) [])))
  cb_eq
  intro dd hdd;have s8:=s7.new wd hdd (o:=.dK []);have o8:=o7.new_ hdd (o':=.dK []);have od8:=ar.make wd s7 hdd (o:=.dK []);refine fq o8.at_ T.Zg T.Zy uF ?_;have hxd:x≠dd:=mS o8.at_ od8.at_ (by intro z;cases z);have s9:=s8.put wd o8 (o':=.ins A.mat dx (dC lc n dd));have o9:=o8.put_ (o':=.ins A.mat dx (dC lc n dd));have od9:=od8.other (br hxd) (o':=.ins A.mat dx (dC lc n dd));have hc9:=hc.mono (s9.same wd);refine q _ _ (s9.mat wd o9 od9 hc9) ⟨dx,lc,n,dd,ax,hc9.mono (bx o9.g),uJ hn⟩
theorem uI{cs:List MC}{f:MC->Bool}{n:Nat}(h:iw cs f n):n<2^cs.length:=by
 refine zQ n fun i hi=>?_;cases e:n.testBit i with
 |false=>rfl
 |true=>
  obtain⟨c,hc,_⟩:=(h i).mp e;have:=(aK.mp hc).1;lia
theorem FG{m n k:Nat}(h:n<2^k):m&&&n<2^k:=tL Nat.and_le_right h
def WU(A:Ad):Sp:=fun vs H Q _=>∃(G:Hp)(m:aa)(cs:List MC)(f:Nat),vs=[.ref m,.int f]/\Wd A.toCn G H/\gk A.toCn G m cs/\cs.length<=100000/\∀opt r:Nat,iw cs (·.opt) opt->oR opt f r->Q (.int r) H
theorem xW(T:aY K mg A):cK P w K mg base aW A.mat "entered" 1 ["self","fresh"] (WU A):=by
 have sc:aV ["self","fresh","reached"] ["self","fresh"] (aN CW):=bp;refine cK.of T.abb sc (fun vs H Q E h=>?_) (fun f cdv A0 outer s0 H vs Q E hr h=>?_)
 .obtain⟨_,_,_,_,rfl,_⟩:=h;rfl
 obtain⟨G,m,cs,fr,rfl,wd,⟨dx,lc,opt,dd,hm,hc,ho⟩,hl,q⟩:=h;have hm1:=wd.sub _ _ hm
 refine⟨_,(aq (pS 2 sc.nd (pv 1))
   (aq (qr ff (bL uU (bb jU (pv 1) (bN (pv 0) rfl)) aB (bq _))
    (aq (pS 1 sc.nd (bb ju (bb jU (pv 1) (bN (pv 0) rfl)) aB))
    (au (pS 2 sc.nd (bb yd (pv 2) (pv 1))))))
   (au (aL (pv 2))))),?_⟩
 cb_eq
 refine qC (fun mm σ H'=>∃t,mm=cs.length-t/\σ=[TL (.ref m),TL (.int (gP opt fr t:Nat)),TL (.int (vd opt fr t:Nat))]/\H'=H) ⟨_,0,rfl,rfl,rfl⟩ ?_;rintro mm σ H' ⟨t,rfl,rfl,rfl⟩
 cb_eq
 refine bz hm1 T.Zg T.ZK Iw ?_
 cb_eq
 rw[nS];by_cases hz:gP opt fr t&&&opt=0
 .rw[hz];rw[show decide (((0:Nat):Int)=0)=J1 from rfl];simp only[fc,aU,if_false]
  cb_eq
  exact q _ _ ho (Wb hz)
 .rw[show decide (((gP opt fr t&&&opt:Nat):Int)=0)=J2 from dF (by lia)];simp only[eJ,if_true];refine⟨_,fun _ _ z=>z,?_⟩;refine bz hm1 T.Zg T.ZK Iw ?_
  cb_eq
  rw[nS];refine⟨jo (k:=1) (n:=cs.length) (FG (uI ho)) (by lia),?_⟩;have ht:=PV (uI ho) hz;have e:((gP opt fr t&&&opt:Nat):Int)*2^(fR 1)=((gP opt fr (t+1):Nat):Int):=yx _ 1;rw[e,ub];exact⟨cs.length-(t+1),by lia,t+1,rfl,rfl⟩
def Xc(A:Ad):Sp:=fun vs H Q _=>∃(G:Hp)(m:aa)(cs:List MC)(st:Nat),vs=[.ref m,.int st]/\Wd A.toCn G H/\gk A.toCn G m cs/\Q (.bl (st.testBit cs.length)) H
theorem IS(T:aY K mg A):cK P w K mg base aW A.mat "is_through" 1 ["self","places"] (Xc A):=by
 have sc:aV ["self","places"] ["self","places"] (aN CZ):=bp;refine cK.of T.abc sc (fun vs H Q E h=>?_) (fun f cdv A0 outer s0 H vs Q E hr h=>?_)
 .obtain⟨_,_,_,_,rfl,_⟩:=h;rfl
 obtain⟨G,m,cs,st,rfl,wd,⟨dx,lc,opt,dd,hm,⟨as,ha,pr⟩,ho⟩,q⟩:=h;refine⟨_,(au (aL (fN eF (bb jU (bb uV (pv 1) (cL T.Ze (bN (pv 0) rfl))) aB) aB (bq _)))),?_⟩
 cb_eq
 refine bz (wd.sub _ _ hm) T.Zg T.Zv uK ?_;refine cy (ak.of (wd.sub _ _ ha)) ?_
 cb_eq
 rw[aE,bU pr];refine⟨by lia,?_⟩;rw[ua];exact q
theorem Step.cacheW{A:Cn}{G H G1 H1:Hp}(wd:Wd A G H)(s:Step A G H G1 H1){m dx lc dd:aa}{opt:Nat}{cs:List MC}{kvs:List (aP×V)}(hm:G m=TL (.ins A.mat dx (dC lc opt dd)))(hc:gZ A G1 lc cs)(hv:lF G1 cs kvs):Step A G H G1 (ah H1 dd (.dK kvs)):=by
 have hm1:=s.same wd _ _ hm;refine⟨⟨fun b o e=>?_,fun m' dx' lc' opt' dd' e=>?_,s.wd.inj,?_⟩,s.grow,fun b o h q=>?_,s.newc⟩
 .have:b≠dd:=fun z=>by rw[z,(s.wd.cach _ _ _ _ _ hm1).1]at e;cases e
  rw[aO this];exact s.wd.sub b o e
 .obtain⟨h1,kvs',cs',h2,h3,h4⟩:=s.wd.cach m' dx' lc' opt' dd' e;by_cases z:dd'=dd
  .subst z;have:=s.wd.inj _ _ _ _ _ _ _ _ _ e hm1;subst this;rw[e]at hm1;injection hm1 with hm1;injection hm1 with _ _ hm1;unfold dC at hm1;simp only[zy,rf,V.ref.injEq,true_and,and_true]at hm1;rw[hm1.1]at h3⊢;exact⟨h1,kvs,cs,ax,hc,hv⟩
  .exact⟨h1,kvs',cs',by rw[aO z];exact h2,h3,h4⟩
 .obtain⟨h1,ps,h2,h3⟩:=s.wd.tab
  have:A.tab≠dd:=fun z=>by
   obtain⟨_,_,_,y,_⟩:=s.wd.cach _ _ _ _ _ hm1;rw[<-z,h2]at y;cases y
  exact⟨h1,ps,by rw[aO this];exact h2,h3⟩
 .have:b≠dd:=fun z=>q (.inr ⟨m,dx,lc,opt,by rw[z];exact hm⟩);rw[aO this];exact s.keep b o h q
theorem lF.len{G:Hp}{cs:List MC}{kvs:List (aP×V)}(h:lF G cs kvs):kvs.length<=256:=by
 have h1:∀k∈kvs.map (·.1),∃c:UInt8,k=bZ (c.toNat:Int):=fun k hk=>by
  cases e:cj kvs k with
  |none=>exact J5 hk (Ec e)
  |some v=>
   obtain⟨c,_,_,_,h1,_⟩:=h.at_ k v e;exact⟨c,h1⟩
 have h2:=lO 256 ((kvs.map (·.1)).map fun(k:aP)=>match k with|.inl i=>i.toNat|.inr _=>0) ?_ ?_
 .rw[aE,aE]at h2;exact h2
 .refine lh.mpr (tf ?_ h.nd);intro a b ha hb hne q;obtain⟨c,rfl⟩:=h1 a ha;obtain⟨d,rfl⟩:=h1 b hb;have q:((c.toNat:Int)).toNat=((d.toNat:Int)).toNat:=q;rw[fD,fD]at q;exact hne (by rw[q])
 .intro x hx;obtain⟨k,hk,rfl⟩:=bS.mp hx;obtain⟨c,rfl⟩:=h1 k hk;exact kT c
theorem IH{kvs:List (aP×V)}{k:aP}(v:V)(hn:(kvs.map (·.1)).Nodup):((dr kvs k v).map (·.1)).Nodup:=by
 cases e:cj kvs k with
 |none=>exact RP v hn e
 |some u=>
  have:(dr kvs k v).map (·.1)=kvs.map (·.1):=by
   unfold dr;have h1:(kvs.any fun kv=>decide (kv.1=k))=true:=by rw[oH,e];rfl
   rw[J4 h1,gH];refine zE fun p _=>?_;show(if p.1=k then(p.1,v)else p).1=p.1;split<;>rfl
  rw[this];exact hn
theorem lF.put{G:Hp}{cs:List MC}{kvs:List (aP×V)}(h:lF G cs kvs){c:UInt8}{t:aa}{sm mm:Nat}(ht:G t=TL (.tup [.int sm,.int mm]))(h1:iw cs (fun x=>bJ x.stays c) sm)(h2:iw cs (fun x=>bJ x.moves c) mm):lF G cs (dr kvs (bZ (c.toNat:Int)) (.ref t)) where
 nd:=IH _ h.nd
 at_ k v e:=by
  rw[yP]at e;split at e
  .next z=>cases e;exact⟨c,t,sm,mm,z,rfl,ht,h1,h2⟩
  .exact h.at_ k v e
def XI(A:Ad):Sp:=fun vs H Q _=>∃(G:Hp)(m:aa)(cs:List MC)(c:UInt8),vs=[.ref m,.int (c.toNat:Int)]/\Wd A.toCn G H/\gk A.toCn G m cs/\cs.length<=100000/\
 cT A.toCn G H Q fun G' v=>∃(t:aa)(sm mm:Nat),v=.ref t/\G' t=TL (.tup [.int sm,.int mm])/\iw cs (fun x=>bJ x.stays c) sm/\iw cs (fun x=>bJ x.moves c) mm
theorem Ss(T:aY K mg A):cK P w K mg base aW A.mat "steps_of" 2 ["self","byte"] (XI A):=by
 have sc:aV ["self","byte","stays","cell","moves"] ["self","byte"] (aN Dc):=bp;refine cK.of T.abe sc (fun vs H Q E h=>?_) (fun f cdv A0 outer s0 H vs Q E hr h=>?_)
 .obtain⟨_,_,_,_,rfl,_⟩:=h;rfl
 obtain⟨G,m,cs,c,rfl,wd,⟨dx,lc,opt,dd,hm,hc,ho⟩,hl,q⟩:=h;have hu:=mL hr;have hm1:=wd.sub _ _ hm;obtain⟨as,ha,pr⟩:=hc;have hc:gZ A.toCn G lc cs:=⟨as,ha,pr⟩
 have marks:∀(G1 H1:Hp)(fld:MC->Nat)(te:TE)(Qk:VK)(σ:St),Step A.toCn G H G1 H1->(∀(σ2:St)(p:aa)(H2:Hp)(Q:VK)(d:MC)(dc:aa),H2 p=TL (.ins A.cell dc (jO d))->σ2[0]?=TL (TL (.ref m))->σ2[1]?=TL (TL (.int (c.toNat:Int)))->σ2[3]?=TL (TL (.ref p))->Q (.bl ((fld d).testBit c.toNat)) H2->te σ2 H2 Q)->
   σ.length=5->σ[0]?=TL (TL (.ref m))->σ[1]?=TL (TL (.int (c.toNat:Int)))->(∀D H2,Step A.toCn G H G1 H2->ar A.toCn H G1 H2 D (.lst (cs.map fun d=>V.bl ((fld d).testBit c.toNat)))->Qk (.ref D) H2)->
   vP K (.ref lc) H1 fun J H=>sX J (lJ 3) DV te [3] σ H Qk:=by
  intro G1 H1 fld te Qk σ s1 hte hσ hσ0 hσ1 hQ;have ha1:=s1.same wd _ _ ha;refine gY (ak.of (s1.wd.sub _ _ ha1)) (fun D i H'=>Step A.toCn G H G1 H'/\ar A.toCn H G1 H' D (.lst ((cs.take i).map fun d=>V.bl ((fld d).testBit c.toNat)))) ?_ ?_ ?_ ?_
  .intro D hD;exact⟨s1.new wd hD,ar.make wd s1 hD⟩
  .rintro D i H' _ ⟨s4,_⟩;exact ak.of (s4.wd.sub _ _ ha1)
  .rintro D i v H' hv ⟨s4,od⟩;obtain⟨p2,hp2,rfl⟩:=eM hv;obtain⟨d,hc2,dc,hb⟩:=dP pr hp2;have hi:i<cs.length:=(aK.mp hc2).1;simp only[JH,JI,if_true];refine⟨?_,?_⟩
   .show((cu σ [3]).set 3 (TL (V.ref p2))).set 3 J0=_;rw[wb];show((σ.set 3 J0).set 3 J0)=_;rw[wb];rfl
   refine hte _ p2 _ _ d dc (s4.wd.sub _ _ (s1.same wd _ _ hb)) ?_ ?_ ?_ ⟨_,od.at_,?_,s4.put wd od,?_⟩
   .show((σ.set 3 J0).set 3 (TL (V.ref p2)))[0]?=_;rw[wb,qP (by decide)];exact hσ0
   .show((σ.set 3 J0).set 3 (TL (V.ref p2)))[1]?=_;rw[wb,qP (by decide)];exact hσ1
   .show((σ.set 3 J0).set 3 (TL (V.ref p2)))[3]?=_;rw[wb,tD (by lia)]
   .rw[aE,cQ];exact cf (m:=100000) (by lia) (by decide)
   .rw[PM.take_snoc hc2,cx];exact od.put_
  .rintro D H' ⟨s4,od⟩;rw[aE,bU pr,cv]at od;exact hQ D H' s4 od
 have tv:∀{σ:St}{n:Nat}{v:V}{H:Hp}{Q:VK},σ[n]?=TL (TL v)->Q v H->kf n σ H Q:=fun h q=>⟨_,h,q⟩
 refine⟨_,(aq (bA (sE (Cv hu (pv 1) (bN (pv 0) rfl)))
    (aq (pS 2 sc.nd (cF (BW T) hr (af (ij rfl sc.nd (dw (bN (pv 0) rfl)) (own:=[("cell",3)]) (fI (by kernel_rfl)) (fun _ _ _ _ _=>by exact(gN 3 sc.nd)) (fun _ _ _ _ _=>by exact jZ) (fun _ _ _ _ _=>by exact(fN eF (bb jU (bb uV (sC (K:=K) rfl (pv 3) rfl) (pv 1)) aB) aB (bq _)))) ao)))
    (aq (pS 4 sc.nd (cF (BW T) hr (af (ij rfl sc.nd (dw (bN (pv 0) rfl)) (own:=[("cell",3)]) (fI (by kernel_rfl)) (fun _ _ _ _ _=>by exact(gN 3 sc.nd)) (fun _ _ _ _ _=>by exact jZ) (fun _ _ _ _ _=>by exact(fN eF (bb jU (bb uV (sC (K:=K) rfl (pv 3) rfl) (pv 1)) aB) aB (bq _)))) ao)))
    (au (yj hu (bN (pv 0) rfl) (pv 1) (dY (af (pv 2) (af (pv 4) ao))) rfl))))
    bG)
   (au (aL (mW hu (bN (pv 0) rfl) (pv 1) (fun _ _=>rfl))))),?_⟩
 cb_eq
 obtain⟨hdd,kvs,cs',hk,hcs,hv⟩:=wd.cach _ _ _ _ _ hm;have:=hcs.inj hc;subst this;refine bz hm1 T.Zg T.Zy xS ?_;refine vI (k:=bZ (c.toNat:Int)) hk ?_
 cb_eq
 cases e:cj kvs (bZ (c.toNat:Int))with
 |some v=>
  simp only[nG,Bool.xor_true,fc,aU,if_false,qG];refine bz hm1 T.Zg T.Zy xS ?_;refine nj (k:=bZ (c.toNat:Int)) hk e ?_;obtain⟨d,t,sm,mm,h1,rfl,h3,h4,h5⟩:=hv.at_ _ _ e;have:c=d:=by rw[iW];injection h1 with h1;exact jc h1
  subst this;exact q _ _ _ (Step.refl wd) ⟨t,sm,mm,rfl,h3,h4,h5⟩
 |none=>
  simp only[qZ,Bool.xor_false,if_true,qG,eJ];refine bz hm1 T.Zg T.Zv uK ?_;refine marks G H MC.stays _ _ _ (Step.refl wd) ?_ rfl rfl rfl fun D H2 s2 od=>?_
  .intro σ2 p H2 Q2 d dc hp h0 h1 h3 q2
   cb_eq
   refine tv h3 ?_;refine bz hp T.Zp T.ZJ Gj ?_;refine tv h1 ?_
   cb_eq
   refine⟨by lia,?_⟩;rw[ua];exact q2
  cb_eq
  refine⟨G,D,cs'.map fun d=>d.stays.testBit c.toNat,rfl,s2.wd,ak.of (by rw[od.at_,gH];rfl),by rw[aE];exact hl,fun G3 H3 v s3 hv3=>?_⟩;obtain⟨sm,rfl,hsm⟩:=hv3;have s23:=s2.trans wd s3;refine bz (s23.wd.sub _ _ (s23.same wd _ _ hm)) T.Zg T.Zv uK ?_;refine marks G3 H3 MC.moves _ _ _ s23 ?_ rfl rfl rfl fun D2 H4 s4 od2=>?_
  .intro σ2 p H2 Q2 d dc hp h0 h1 h3 q2
   cb_eq
   refine tv h3 ?_;refine bz hp T.Zp T.ZI Gi ?_;refine tv h1 ?_
   cb_eq
   refine⟨by lia,?_⟩;rw[ua];exact q2
  cb_eq
  refine⟨G3,D2,cs'.map fun d=>d.moves.testBit c.toNat,rfl,s4.wd,ak.of (by rw[od2.at_,gH];rfl),by rw[aE];exact hl,fun G5 H5 v s5 hv5=>?_⟩;obtain⟨mm,rfl,hmm⟩:=hv5;have s45:=s4.trans wd s5
  cb_eq
  refine⟨by decide,fun t ht=>?_⟩;have s6:=s45.newI wd ht (o:=.tup [.int (sm:Int),.int (mm:Int)]) dh;have hm6:=s6.same wd _ _ hm;refine bz (s6.wd.sub _ _ hm6) T.Zg T.Zy xS ?_;obtain⟨_,kvs6,cs6,hk6,hcs6,hv6⟩:=s6.wd.cach _ _ _ _ _ hm6;have:=hcs6.inj (hcs.mono (s6.same wd));subst this;refine Ek (k:=bZ (c.toNat:Int)) hk6 (cf hv6.len (by decide)) ?_;have hv7:=hv6.put (c:=c) (t:=t) (sm:=sm) (mm:=mm) ax (uJ hsm) (uJ hmm);have s7:=s6.cacheW wd hm hcs6 hv7
  cb_eq
  refine bz (s7.wd.sub _ _ hm6) T.Zg T.Zy xS ?_;refine nj (k:=bZ (c.toNat:Int)) ax (by rw[yP,J4 rfl]) ?_;exact q _ _ _ s7 ⟨t,sm,mm,rfl,ax,uJ hsm,uJ hmm⟩
theorem RE{lc dd:aa}{opt:Nat}:(dC lc opt dd).lookup ("steps_of":Str)=none:=by rfl
theorem xR{lc dd:aa}{opt:Nat}:(dC lc opt dd).lookup ("entered":Str)=none:=by rfl
theorem Bz{lc dd:aa}{opt:Nat}:(dC lc opt dd).lookup ("after":Str)=none:=by rfl
theorem Iv{lc dd:aa}{opt:Nat}:(dC lc opt dd).lookup ("is_through":Str)=none:=by rfl
theorem RF{lc dd:aa}{opt:Nat}:(dC lc opt dd).lookup ("matched_ends":Str)=none:=by rfl
theorem Step.matAt{A:Cn}{G H G1 H1:Hp}(wd:Wd A G H)(s:Step A G H G1 H1){m:aa}{cs:List MC}(h:gk A G m cs):gk A G1 m cs:=h.mono (s.same wd)
def Lq(A:Ad):Sp:=fun vs H Q _=>∃(G:Hp)(m:aa)(cs:List MC)(c:UInt8)(st:Nat),vs=[.ref m,.int st,.int (c.toNat:Int)]/\Wd A.toCn G H/\gk A.toCn G m cs/\cs.length<=100000/\st<2^(cs.length+1)/\
 cT A.toCn G H Q fun _ v=>∃r:Nat,v=.int r/\∀x,State cs x st->State cs (x++[c]) r
theorem Sq(T:aY K mg A):cK P w K mg base aW A.mat "after" 3 ["self","places","byte"] (Lq A):=by
 have sc:aV ["self","places","byte","steps"] ["self","places","byte"] (aN CV):=bp;refine cK.of T.aba sc (fun vs H Q E h=>?_) (fun f cdv A0 outer s0 H vs Q E hr h=>?_)
 .obtain⟨_,_,_,_,_,rfl,_⟩:=h;rfl
 obtain⟨G,m,cs,c,st,rfl,wd,hM,hl,hst,q⟩:=h;obtain⟨dx,lc,opt,dd,hm,hc,ho⟩:=hM;have hM:gk A.toCn G m cs:=⟨dx,lc,opt,dd,hm,hc,ho⟩
 refine⟨_,(aq (pS 3 sc.nd (ik (pv 0) T.Zg (Ss T) (hr.mono (by decide)) bB (af (pv 2) ao)))
   (au (aL (bb yd (bb jU (pv 1) (bP dk (pv 3) aB (fun _ _=>rfl))) (ik (pv 0) T.Zg (xW T) (hr.mono (by decide)) bB (af (bb ju (bb jU (pv 1) (bP dk (pv 3) aB (fun _ _=>rfl))) aB) ao)))))),?_⟩
 cb_eq
 refine eO (wd.sub _ _ hm) RE ?_;refine⟨G,m,cs,c,rfl,wd,hM,hl,fun G1 H1 v s1 hv=>?_⟩;obtain⟨t,sm,mm,rfl,ht,h1,h2⟩:=hv
 cb_eq
 refine cH (k:=0) (bT.of (s1.wd.sub _ _ ht)) rfl ?_
 cb_eq
 rw[nS];refine eO (s1.wd.sub _ _ (s1.same wd _ _ hm)) xR ?_
 cb_eq
 refine cH (k:=1) (bT.of (s1.wd.sub _ _ ht)) rfl ?_
 cb_eq
 rw[nS];refine⟨jo (k:=1) (n:=cs.length) (FG (uI h2)) (by lia),?_⟩;have e:((st&&&mm:Nat):Int)*(2:Int)^(fR 1)=(((st&&&mm)<<<1:Nat):Int):=yx _ 1;rw[e];refine⟨G1,m,cs,_,rfl,s1.wd,s1.matAt wd hM,hl,fun opt' r ho' he=>?_⟩
 cb_eq
 rw[ub];exact q _ _ _ s1 ⟨_,rfl,fun x hx=>XT ho' h1 h2 hx he⟩
theorem Wx(l:List Seg)(p:bj):gR (fk l) p=gR l p:=by
 rw[nu,BC,BC];unfold fk;rw[Dw,sL]
theorem Dx(l:List Seg)(s:ag):ic (fk l) s=ic l s:=by
 unfold ic;refine congrArg (fun f=>List.filter f (gM s)) ?_
 funext e
 exact Wx l _
theorem GY(segs:List Seg)(s:ag)(i:Nat):(fM segs s i).length<=s.length:=by
 unfold fM;have h1:=pj (fun e=>gR segs (aG 47 (s.take e))) (cG 0 (s.take i));have h2:=vm (s.take i) 0;rw[cQ]at h2;lia
def Xj(K:aw)(A:Ad):Sp:=fun vs H Q _=>∃(G:Hp)(m:aa)(cs:List MC)(l:List Seg)(a:aa)(s:ag),vs=[.ref m,.ref a]/\Wd A.toCn G H/\gk A.toCn G m cs/\cs.length<=100000/\iZ l cs/\BL K G a s/\s.length<=256/\nY s/\
 cT A.toCn G H Q fun G' v=>∃p,v=.ref p/\G' p=TL (.lst (iv (ic l s)))
theorem Sr(T:aY K mg A):cK P w K mg base aW A.mat "matched_ends" 4 ["self","path"] (Xj K A):=by
 have sc:aV ["self","path","ends","places","place","byte"] ["self","path"] (aN Da):=bp;refine cK.of T.abd sc (fun vs H Q E h=>?_) (fun f cdv A0 outer s0 H vs Q E hr h=>?_)
 .obtain⟨_,_,_,_,_,_,rfl,_⟩:=h;rfl
 obtain⟨G,m,cs,l,a,s,rfl,wd,hM,hl,hco,hs,hsl,hg,q⟩:=h;obtain⟨dx,lc,opt,dd,hm,hc,ho⟩:=hM;have hM:gk A.toCn G m cs:=⟨dx,lc,opt,dd,hm,hc,ho⟩;have hco':iG cw aQ cb (fk l) cs:=hco
 refine⟨_,(aq (pS 2 sc.nd (bt ao))
   (aq (pS 3 sc.nd (ik (pv 0) T.Zg (xW T) (hr.mono (by decide)) bB (af aB ao)))
   (aq (gf ff rfl (oy rfl T.Zo (af (pv 1) ao)) (ou rfl (ip (gN 4 sc.nd) (ip (gN 5 sc.nd) ow)))
    (aq (bA (bL eF (pv 3) aB (bq _))
     (au (aL (pv 2)))
     bG)
    (aq (bA (PW.pt (uZ (bL eF (pv 5) (bC T.Zk rfl) (bq _)) (va (dZ (ik (pv 0) T.Zg (IS T) (hr.mono (by decide)) bB (af (pv 3) ao))))))
     (au (eI (eN eT gn gr gc (pv 2) (af (pv 4) ao))))
     bG)
    (au (pS 3 sc.nd (ik (pv 0) T.Zg (Sq T) (hr.mono (by decide)) bB (af (pv 3) (af (pv 5) ao))))))))
   (aq (bA (dZ (ik (pv 0) T.Zg (IS T) (hr.mono (by decide)) bB (af (pv 3) ao)))
    (au (eI (eN eT gn gr gc (pv 2) (af (cL T.Ze (pv 1)) ao))))
    bG)
   (au (aL (pv 2))))))),?_⟩
 cb_eq
 refine⟨by decide,fun p hp=>?_⟩;have s1:=(Step.refl wd).new wd hp (o:=.lst []);have o1:=ar.make wd (Step.refl wd) hp (o:=.lst []);refine eO (s1.wd.sub _ _ hm) xR ?_;refine⟨G,m,cs,1,rfl,s1.wd,hM,hl,fun opt' r ho' he=>?_⟩
 cb_eq
 refine qB (hs.mono s1.wd.sub) (fun i σ H'=>∃(G1:Hp)(st:Nat)(o4 o5:Option V),σ=[TL (.ref m),TL (.ref a),TL (.ref p),TL (.int (st:Int)),o4,o5]/\Step A.toCn G H G1 H'/\ar A.toCn H G1 H' p (.lst (iv (fM (fk l) s i)))/\State cs (s.take i) st) ?_ ?_ ?_ ?_
 .exact⟨G,r,J0,J0,rfl,s1,o1,XS ho' he⟩
 .rintro i σ H' _ ⟨G1,_,_,_,_,s2,_⟩;exact(hs.mono (s2.same wd)).mono s2.wd.sub
 .rintro i x σ H' T0 hx ⟨G1,st,o4,o5,rfl,s2,o2,hst⟩ hT;obtain⟨c,hcx,rfl⟩:=Ax hx;have hi:i<s.length:=(aK.mp hcx).1;have s3:=s2.new wd hT (o:=.tup [.int (i:Nat),.int (c.toNat:Int)]);have o3:=o2.new_ hT (o':=.tup [.int (i:Nat),.int (c.toNat:Int)]);have hM3:=s3.matAt wd hM;have hm3:=s3.wd.sub _ _ (s3.same wd _ _ hm)
  cb_eq
  simp only[decide_eq_true_eq];split
  .next hz=>
   have hz:st=0:=by lia
   subst hz;refine q _ _ _ (s3.sealO wd o3 aS) ⟨p,rfl,?_⟩;rw[ax,<-Dx,RJ mR hco' hg (by lia) hst]
  .next hz=>
   have go:∀(H4:Hp),Step A.toCn G H G1 H4->ar A.toCn H G1 H4 p (.lst (iv (fM (fk l) s (i+1))))->
     Lq A [.ref m,.int (st:Int),.int (c.toNat:Int)] H4 (fun x H1=>∃(G1:Hp)(st:Nat)(o4 o5:Option V),[TL (V.ref m),TL (.ref a),TL (.ref p),TL x,TL (.int (i:Nat)),TL (.int (c.toNat:Int))]=[TL (.ref m),TL (.ref a),TL (.ref p),TL (.int (st:Int)),o4,o5]/\Step A.toCn G H G1 H1/\ar A.toCn H G1 H1 p (.lst (iv (fM (fk l) s (i+1))))/\State cs (s.take (i+1)) st) E0:=by
    intro H4 s4 o4;refine⟨G1,m,cs,c,st,rfl,s4.wd,s4.matAt wd hM,hl,XR hst,fun G5 H5 v s5 hv=>?_⟩;obtain⟨r5,rfl,hr5⟩:=hv;refine⟨G5,r5,_,_,rfl,s4.trans wd s5,o4.call s5,?_⟩;rw[PM.take_snoc hcx];exact hr5 _ hst
   have hm4:∀(H4:Hp),Step A.toCn G H G1 H4->H4 m=TL (.ins A.mat dx (dC lc opt dd)):=fun H4 s4=>s4.wd.sub _ _ (s4.same wd _ _ hm);by_cases h47:c=47
   .subst h47;rw[J4 (by rfl)];refine eO hm3 Iv ⟨G1,m,cs,st,rfl,s3.wd,hM3,?_⟩
    cb_eq
    have hth:st.testBit cs.length=J1↔gR (fk l) (aG 47 (s.take i))=true:=by
     rw[hst.through,Bx mR hco' hg];unfold gM;exact cW _ (yy.mpr ⟨i,by lia,hcx⟩)
    by_cases hb:st.testBit cs.length=J1
    .rw[J4 hb];refine⟨eP (ak.of o3.at_),gh o3.at_ ?_ ?_⟩
     .rw[dO];exact cf (GY _ _ _) (by show s.length<aZ;exact cf hsl (by decide))
     .cb_eq
      have o5':=o3.put_ (o':=.lst (iv (fM (fk l) s i)++[.int (i:Nat)]))
      have e:iv (fM (fk l) s i)++[.int (i:Nat)]=iv (fM (fk l) s (i+1)):=by
       rw[AW hcx,J4 ⟨rfl,hth.mp hb⟩,<-iA];rfl
      rw[e]at o5';rw[e];exact eO (hm4 _ (s3.put wd o3)) Bz (go _ (s3.put wd o3) o5')
    .rw[J3 hb]
     have e:fM (fk l) s (i+1)=fM (fk l) s i:=by
      rw[AW hcx,J3 (fun z=>hb (hth.mpr z.2)),cD]
     exact eO hm3 Bz (go _ s3 (by rw[e];exact o3))
   .have h47': ¬((c.toNat:Int)=47):=fun z=>h47 (by rw[iW];exact jc z);rw[J3 h47']
    cb_eq
    have e:fM (fk l) s (i+1)=fM (fk l) s i:=by
     rw[AW hcx,J3 (fun z=>h47 z.1),cD]
    exact eO hm3 Bz (go _ s3 (by rw[e];exact o3))
 .rintro σ H' ⟨G1,st,o4,o5,rfl,s2,o2,hst⟩;rw[cY]at o2 hst;rw[cv]at hst;have hm3:=s2.wd.sub _ _ (s2.same wd _ _ hm)
  cb_eq
  refine eO hm3 Iv ⟨G1,m,cs,st,rfl,s2.wd,s2.matAt wd hM,?_⟩
  cb_eq
  have hth:st.testBit cs.length=J1↔gR (fk l) (aG 47 s)=true:=by
   have:=Bx mR hco' hg (e:=s.length) (by unfold gM;exact dA _ (by simp));rw[cv]at this;rw[hst.through,this]
  by_cases hb:st.testBit cs.length=J1
  .rw[J4 hb];refine⟨eP (ak.of o2.at_),cy ((hs.mono (s2.same wd)).mono s2.wd.sub) ?_⟩;rw[cY];refine gh o2.at_ ?_ ?_
   .rw[dO];exact cf (GY _ _ _) (by show s.length<aZ;exact cf hsl (by decide))
   .cb_eq
    have o3:=o2.put_ (o':=.lst (iv (fM (fk l) s s.length)++[.int (s.length:Nat)]));refine q _ _ _ ((s2.put wd o2).sealO wd o3 aS) ⟨p,rfl,?_⟩;rw[ax,<-Dx,Iy,J4 (hth.mp hb),<-iA];rfl
  .rw[J3 hb];refine q _ _ _ (s2.sealO wd o2 aS) ⟨p,rfl,?_⟩;rw[ax,<-Dx,Iy,J3 (fun z=>hb (hth.mpr z)),cD]
theorem uk:ExcBaseFacts "ValueError" "ValueError.__new__" "ValueError.__init__" [.type "ValueError",.type "Exception",.type "BaseException",.type "object"]:=F.excBase_ValueError
def kl(A:Ad)(G H:Hp)(E:XK):Prop:=∀G' H',Step A.toCn G H G' H'->E (.ref A.fault) J0 H'
theorem jT(i:Nat):((i:Nat):Int)+1=((i+1:Nat):Int):=rfl
theorem IG(i:Nat):((i:Nat):Int)+2=((i+2:Nat):Int):=rfl
def XB(K:aw)(A:Ad):Sp:=fun vs H Q E=>∃(G:Hp)(a:aa)(s:ag)(i:Nat),vs=[.ref a,.int i]/\Wd A.toCn G H/\BL K G a s/\
 (∀d,s[i+1]?=TL d->cT A.toCn G H Q fun G' v=>∃t,v=.ref t/\G' t=TL (.tup [.int (d.toNat:Int),.int ((i+2:Nat):Int)]))/\(s[i+1]?=J0->kl A G H E)
theorem IY(T:aY K mg A):Kn P w K mg base (dz P w A.fault) "read_escaped" 1 ["part","place"] (XB K A):=by
 have sc:aV ["part","place"] ["part","place"] (aN KF):=bp;refine Kn.ofF T.aaR sc (fun vs H Q E h=>?_) (fun f cdv A0 outer s0 H vs Q E hr h=>?_)
 .obtain⟨_,_,_,_,rfl,_⟩:=h;rfl
 obtain⟨G,a,s,i,rfl,wd,hs,q,qf⟩:=h
 refine⟨_,(aq (bA (bL uT (bb dX (pv 1) aB) (cL T.Ze (pv 0)) (bq _))
    (au (uY fY rfl rfl T.Zq T.Zr uk (af uW ao)))
    bG)
   (au (aL (dY (af (bP eX (pv 0) (bb dX (pv 1) aB) (fun _ _=>rfl)) (af (bb dX (pv 1) aB) ao)))))),?_⟩
 cb_eq
 refine cy (hs.mono wd.sub) ?_
 cb_eq
 rw[cY,jT];simp only[decide_eq_true_eq];split
 .next h=>
  exact⟨by decide,qf (hU (by lia)) _ _ (Step.refl wd)⟩
 .next h=>
  have hi:i+1<s.length:=by lia
  have e:s[i+1]?=TL s[i+1]:=bO hi;refine fB (hs.mono wd.sub) (nW e) ?_;refine⟨by decide,fun t ht=>?_⟩;exact q _ e _ _ _ ((Step.refl wd).newI wd ht dh) ⟨t,rfl,ax⟩
def XA(K:aw)(A:Ad):Sp:=fun vs H Q E=>∃(G:Hp)(a:aa)(s:ag)(i:Nat),vs=[.ref a,.int i]/\Wd A.toCn G H/\BL K G a s/\
 (∀c r j,inClass (s.drop i)=TL (c,r)->At s i r j->cT A.toCn G H Q fun G' v=>∃t,v=.ref t/\G' t=TL (.tup [.int (c.toNat:Int),.int (j:Int)]))/\(inClass (s.drop i)=J0->kl A G H E)
theorem Qp{c a b:UInt8}:gB (.int (c.toNat:Int)) [.int (a.toNat:Int),.int (b.toNat:Int)]=decide (c=a\/c=b):=by
 have:=xE c [a,b];rw[show bv [a,b]=[.int (a.toNat:Int),.int (b.toNat:Int)]from rfl]at this;rw[this];exact decide_eq_decide.mpr (by simp)
theorem IX(T:aY K mg A):Kn P w K mg base (dz P w A.fault) "read_class_byte" 2 ["part","place"] (XA K A):=by
 have sc:aV ["part","place"] ["part","place"] (aN KE):=bp;refine Kn.ofF T.aaQ sc (fun vs H Q E h=>?_) (fun f cdv A0 outer s0 H vs Q E hr h=>?_)
 .obtain⟨_,_,_,_,rfl,_⟩:=h;rfl
 obtain⟨G,a,s,i,rfl,wd,hs,q,qf⟩:=h
 refine⟨_,(aq (bA (PW.pt (yl (bL uT (pv 1) (cL T.Ze (pv 0)) (bq _)) (ym (bL yc (bP eX (pv 0) (pv 1) (fun _ _=>rfl)) (dY (af (bC T.ZX rfl) (af (bC T.ZY rfl) ao))) (by with_unfolding_all rfl)))))
    (au (uY fY rfl rfl T.Zq T.Zr uk (af uW ao)))
    bG)
   (aq (bA (bL eF (bP eX (pv 0) (pv 1) (fun _ _=>rfl)) (bC T.ZV rfl) (bq _))
    (au (aL (iC (IY T) (hr.mono (by decide)) (jv fY) rfl (af (pv 0) (af (pv 1) ao)))))
    bG)
   (au (aL (dY (af (bP eX (pv 0) (pv 1) (fun _ _=>rfl)) (af (bb dX (pv 1) aB) ao))))))),?_⟩
 cb_eq
 refine cy (hs.mono wd.sub) ?_
 cb_eq
 rw[cY];by_cases hi:i<s.length
 .have e:s[i]?=TL s[i]:=bO hi;rw[dF (by lia)];simp only[aU,if_false];refine fB (hs.mono wd.sub) (nW e) ?_;refine⟨by decide,fun t ht=>?_⟩;have s1:=(Step.refl wd).new wd ht (o:=.tup [.int 93,.int 45]);refine YO (bT.of ax) rfl rfl ?_
  cb_eq
  rw[show([V.int 93,.int 45]:List V)=[.int ((93:UInt8).toNat:Int),.int ((45:UInt8).toNat:Int)]from rfl,Qp];simp only[decide_eq_true_eq];split
  .next h=>exact⟨by decide,qf (xD e h) _ _ s1⟩
  .next h=>
   have h93:s[i]≠93:=fun z=>h (.inl z);have h45:s[i]≠45:=fun z=>h (.inr z);refine fB (hs.mono s1.wd.sub) (nW e) ?_
   cb_eq
   simp only[decide_eq_true_eq];split
   .next h2=>
    have h2:s[i]=92:=by rw[iW];exact jc h2
    have e2:=HB (by rw[e,h2]);refine⟨G,a,s,i,rfl,s1.wd,hs,fun d hd G2 H2 v s2 hv=>?_,fun hd G2 H2 s2=>?_⟩
    .rw[hd]at e2;have hlt:=(aK.mp hd).1;exact q d (s.drop (i+2)) (i+2) e2 ⟨by lia,by lia,rfl⟩ _ _ _ (s1.trans wd s2) hv
    .rw[hd]at e2;exact qf e2 _ _ (s1.trans wd s2)
   .next h2=>
    have h2:s[i]≠92:=fun z=>h2 (by rw[z];rfl);refine fB (hs.mono s1.wd.sub) (nW e) ?_;refine⟨by decide,fun t2 ht2=>?_⟩;exact q s[i] (s.drop (i+1)) (i+1) (Hz e h93 h45 h2) ⟨by lia,by lia,rfl⟩ _ _ _ (s1.newI wd ht2 dh) ⟨t2,rfl,by rw[ax];rfl⟩
 .rw[dT (by lia)];simp only[if_true];exact⟨by decide,qf (HA (by lia)) _ _ (Step.refl wd)⟩
def XD(K:aw)(A:Ad):Sp:=fun vs H Q E=>∃(G:Hp)(a:aa)(s:ag)(i:Nat),vs=[.ref a,.int i]/\Wd A.toCn G H/\BL K G a s/\
 (∀ab r j,fo (s.drop i)=TL (ab,r)->At s i r j->ab.1<=ab.2->cT A.toCn G H Q fun G' v=>∃t,v=.ref t/\G' t=TL (.tup [.int (jl ab.1.toNat ab.2.toNat:Nat),.int (j:Int)]))/\(fo (s.drop i)=J0->kl A G H E)
theorem oG(s:ag)(j:Nat)(c:UInt8):(s.drop j).take (j+1-j)=[c]↔(s.drop j).head?=TL c:=by
 rw[show j+1-j=1 by lia];cases e:s.drop j with
 |nil=>simp
 |cons x r=>simp
theorem IZ(T:aY K mg A):Kn P w K mg base (dz P w A.fault) "read_stretch" 3 ["part","place"] (XD K A):=by
 have sc:aV ["part","place","first","low","behind","second","high"] ["part","place"] (aN KI):=bp;refine Kn.ofF T.aaU sc (fun vs H Q E h=>?_) (fun f cdv A0 outer s0 H vs Q E hr h=>?_)
 .obtain⟨_,_,_,_,rfl,_⟩:=h;rfl
 obtain⟨G,a,s,i,rfl,wd,hs,q,qf⟩:=h;have hu64:=hr.units
 refine⟨_,(aq (pS 2 sc.nd (iC (IX T) (hr.mono (by decide)) (jv fY) rfl (af (pv 0) (af (pv 1) ao))))
   (aq (pS 3 sc.nd (bP dk (pv 2) aB (fun _ _=>rfl)))
   (aq (pS 4 sc.nd (bP dk (pv 2) aB (fun _ _=>rfl)))
   (aq (bA (bL (Cc hu64) (iU iV (pv 0) (gd (pv 4)) (gd (bb dX (pv 4) aB))) (bt (af (bC T.ZY rfl) ao)) (bq _))
    (au (aL (dY (af (cF (xY T) hr (af (pv 3) (af (pv 3) ao))) (af (pv 4) ao)))))
    bG)
   (aq (pS 5 sc.nd (iC (IX T) (hr.mono (by decide)) (jv fY) rfl (af (pv 0) (af (bb dX (pv 4) aB) ao))))
   (aq (pS 6 sc.nd (bP dk (pv 5) aB (fun _ _=>rfl)))
   (aq (bA (bL qk (pv 6) (pv 3) (bq _))
    (au (uY fY rfl rfl T.Zq T.Zr uk (af uW ao)))
    bG)
   (au (aL (dY (af (cF (xY T) hr (af (pv 3) (af (pv 6) ao))) (af (bP dk (pv 5) aB (fun _ _=>rfl)) ao)))))))))))),?_⟩
 cb_eq
 refine⟨G,a,s,i,rfl,wd,hs,fun c r j hc hat G1 H1 v s1 hv=>?_,fun hc G1 H1 s1=>qf ?_ _ _ s1⟩
 .obtain⟨t,rfl,ht⟩:=hv;obtain⟨hij,hjl,rfl⟩:=hat
  cb_eq
  refine cH (k:=0) (bT.of (s1.wd.sub _ _ ht)) rfl ?_
  cb_eq
  refine cH (k:=1) (bT.of (s1.wd.sub _ _ ht)) rfl ?_
  cb_eq
  rw[jT];refine iX ((hs.mono (s1.same wd)).mono s1.wd.sub) fun p2 hp2=>?_;rw[ug,xc];have s2:=s1.newI wd hp2 (o:=.lst (bv ((s.drop j).take (j+1-j)))) aS;refine⟨by decide,fun p3 hp3=>?_⟩;have s3:=s2.newI wd hp3 (o:=.lst [.int 45]) aS;have hb2:BL K (ah (ah H1 p2 (.lst (bv ((s.drop j).take (j+1-j))))) p3 (.lst [.int 45])) p2 ((s.drop j).take (j+1-j)):=eK (s3.wd.sub _ _ (bx (s2.wd.noG hp3) _ _ ax));have hb3:BL K (ah (ah H1 p2 (.lst (bv ((s.drop j).take (j+1-j))))) p3 (.lst [.int 45])) p3 [45]:=eK ax;refine El hb2.ints hb3.ints ?_
  cb_eq
  have hd:(bi ((s.drop j).take (j+1-j))=bi [45])↔(s.drop j).head?=TL 45:=by rw[jm,oG]
  by_cases h45:(s.drop j).head?=TL 45
  .rw[dT (hd.mpr h45)];simp only[fc,aU,if_false];refine⟨_,a,s,j+1,rfl,s3.wd,hs.mono (s3.same wd),fun c2 r2 j2 hc2 hat2 G4 H4 v s4 hv4=>?_,fun hc2 G4 H4 s4=>qf ?_ _ _ (s3.trans wd s4)⟩
   .obtain⟨t4,rfl,ht4⟩:=hv4;obtain⟨hij2,hjl2,rfl⟩:=hat2;have s34:=s3.trans wd s4
    have est:fo (s.drop i)=if c<=c2 then TL ((c,c2),s.drop j2)else none:=by
     unfold fo;rw[hc];simp only;rw[J4 h45,fS,hc2]
    cb_eq
    refine cH (k:=0) (bT.of (s34.wd.sub _ _ ht4)) rfl ?_
    cb_eq
    by_cases hle:c<=c2
    .have hle':c.toNat<=c2.toNat:=tU.mp hle;rw[J4 hle]at est;rw[dF (by lia)];simp only[aU,if_false];refine⟨c.toNat,c2.toNat,rfl,hle',by have:=kT c2;lia,?_⟩;refine cH (k:=1) (bT.of (s34.wd.sub _ _ ht4)) rfl ?_;refine⟨by decide,fun t5 ht5=>?_⟩;exact q (c,c2) _ j2 est ⟨by lia,hjl2,rfl⟩ hle _ _ _ (s34.newI wd ht5 dh) ⟨t5,rfl,ax⟩
    .have hle': ¬c.toNat<=c2.toNat:=fun z=>hle (tU.mpr z);rw[J3 hle]at est;rw[dT (by lia)];simp only[if_true];exact⟨by decide,qf est _ _ s34⟩
   .unfold fo;rw[hc];simp only;rw[J4 h45,fS,hc2]
  .rw[dF (fun z=>h45 (hd.mp z))];simp only[eJ,if_true]
   have est:fo (s.drop i)=TL ((c,c),s.drop j):=by
    unfold fo;rw[hc];simp only;rw[J3 h45]
   refine⟨c.toNat,c.toNat,rfl,aF _,by have:=kT c;lia,?_⟩;refine⟨by decide,fun t5 ht5=>?_⟩;exact q (c,c) _ j est ⟨by lia,hjl,rfl⟩ (tU.mpr (aF _)) _ _ _ (s3.newI wd ht5 dh) ⟨t5,rfl,ax⟩
 .unfold fo;rw[hc]
theorem ux(s:ag)(i:Nat):(s.drop i).head?=s[i]?:=by
 rw[List.head?_drop]
theorem Yd{s:ag}{i:Nat}{x:(UInt8×UInt8)×ag}(h:fo (s.drop i)=TL x):(s.drop i).head?≠TL 93:=fun z=>by
 rw[ux]at z;unfold fo at h;rw[xD z (.inl rfl)]at h;cases h
def DE(K:aw)(A:Ad):Sp:=fun vs H Q E=>∃(G:Hp)(a:aa)(s:ag)(i:Nat),vs=[.ref a,.int i]/\Wd A.toCn G H/\BL K G a s/\
 (∀(rs:List (UInt8×UInt8))(n j:Nat),rs≠[]->jL (s.drop i) rs (s.drop j)->SetOf rs n->i<j->j<=s.length->(j=s.length\/(s.drop j).head?=TL 93)->cT A.toCn G H Q fun G' v=>∃t,v=.ref t/\G' t=TL (.tup [.int (n:Int),.int (j:Int)]))/\
 ((s.drop i).head?=TL 93\/PM.gE (s.drop i)=J0->kl A G H E)
theorem Tn(T:aY K mg A):Kn P w K mg base (dz P w A.fault) "read_stretches" 4 ["part","place"] (DE K A):=by
 have sc:aV ["part","place","stretch","byte_set"] ["part","place"] (aN KJ):=bp;refine Kn.ofF T.aaV sc (fun vs H Q E h=>?_) (fun f cdv A0 outer s0 H vs Q E hr h=>?_)
 .obtain⟨_,_,_,_,rfl,_⟩:=h;rfl
 obtain⟨G,a,s,i,rfl,wd,hs,q,qf⟩:=h
 refine⟨_,(aq (pS 2 sc.nd (iC (IZ T) (hr.mono (by decide)) (jv fY) rfl (af (pv 0) (af (pv 1) ao))))
   (aq (pS 3 sc.nd (bP dk (pv 2) aB (fun _ _=>rfl)))
   (aq (pS 1 sc.nd (bP dk (pv 2) aB (fun _ _=>rfl)))
   (aq (qr Fe (PW.pt (uZ (bL qk (pv 1) (cL T.Ze (pv 0)) (bq _)) (va (bL uU (bP eX (pv 0) (pv 1) (fun _ _=>rfl)) (bC T.ZX rfl) (bq _)))))
    (aq (pS 2 sc.nd (iC (IZ T) (hr.mono (by decide)) (jv fY) rfl (af (pv 0) (af (pv 1) ao))))
    (aq (pS 3 sc.nd (bb yd (pv 3) (bP dk (pv 2) aB (fun _ _=>rfl))))
    (au (pS 1 sc.nd (bP dk (pv 2) aB (fun _ _=>rfl)))))))
   (au (aL (dY (af (pv 3) (af (pv 1) ao))))))))),?_⟩
 cb_eq
 refine⟨G,a,s,i,rfl,wd,hs,fun ab r j hab hat hle G1 H1 v s1 hv=>?_,fun hc G1 H1 s1=>qf ?_ _ _ s1⟩
 .obtain⟨t,rfl,ht⟩:=hv;obtain⟨hij,hjl,rfl⟩:=hat
  cb_eq
  refine cH (k:=0) (bT.of (s1.wd.sub _ _ ht)) rfl ?_
  cb_eq
  refine cH (k:=1) (bT.of (s1.wd.sub _ _ ht)) rfl ?_
  cb_eq
  refine qC (fun mm σ H'=>∃(G2:Hp)(rs:List (UInt8×UInt8))(n j:Nat)(o2:Option V),mm=s.length-j/\σ=[TL (.ref a),TL (.int (j:Int)),o2,TL (.int (n:Int))]/\Step A.toCn G H G2 H'/\rs≠[]/\jL (s.drop i) rs (s.drop j)/\SetOf rs n/\i<j/\j<=s.length)
   ⟨_,G1,[ab],_,j,_,rfl,rfl,s1,by simp,LK (LH _) (Yd hab) hab,Wm hle,hij,hjl⟩ ?_
  rintro mm σ H' ⟨G2,rs,n,j2,o2,rfl,rfl,s2,hrs,hst,hset,hij2,hjl2⟩;have hs2:=(hs.mono (s2.same wd)).mono s2.wd.sub
  cb_eq
  refine cy hs2 ?_
  cb_eq
  rw[cY];by_cases hlt:j2<s.length
  .have e:s[j2]?=TL s[j2]:=bO hlt;rw[dT (by lia)];simp only[if_true];refine fB hs2 (nW e) ?_
   cb_eq
   by_cases h93:s[j2]=93
   .rw[dT (by rw[h93];rfl)];simp only[fc,aU,if_false];refine⟨by decide,fun t5 ht5=>?_⟩;exact q rs n j2 hrs hst hset hij2 hjl2 (.inr (by rw[ux,e,h93])) _ _ _ (s2.newI wd ht5 dh) ⟨t5,rfl,ax⟩
   .rw[dF (fun z=>h93 (by rw[iW];exact jc z))];simp only[eJ,if_true];have hh:(s.drop j2).head?≠TL 93:=by rw[ux,e];exact fun z=>h93 (dN z)
    refine⟨_,fun _ _ z=>z,?_⟩;refine⟨G2,a,s,j2,rfl,s2.wd,hs.mono (s2.same wd),fun ab3 r3 j3 hab3 hat3 hle3 G3 H3 v s3 hv3=>?_,fun hc G3 H3 s3=>qf (.inr (LG hst hh hc)) _ _ (s2.trans wd s3)⟩;obtain⟨t3,rfl,ht3⟩:=hv3;obtain⟨hij3,hjl3,rfl⟩:=hat3;have s23:=s2.trans wd s3
    cb_eq
    refine cH (k:=0) (bT.of (s23.wd.sub _ _ ht3)) rfl ?_
    cb_eq
    rw[ub];refine cH (k:=1) (bT.of (s23.wd.sub _ _ ht3)) rfl ?_
    cb_eq
    exact⟨s.length-j3,by lia,G3,rs++[ab3],_,j3,_,rfl,rfl,s23,by simp,LK hst hh hab3,Wn hset hle3,by lia,hjl3⟩
  .rw[dF (by lia)];simp only[aU,if_false];refine⟨by decide,fun t5 ht5=>?_⟩;exact q rs n j2 hrs hst hset hij2 hjl2 (.inl (by lia)) _ _ _ (s2.newI wd ht5 dh) ⟨t5,rfl,ax⟩
 .by_cases h93:(s.drop i).head?=TL 93
  .exact .inl h93
  .exact .inr (LG (LH _) h93 hc)
def Xz(K:aw)(A:Ad):Sp:=fun vs H Q E=>∃(G:Hp)(a:aa)(s:ag)(i:Nat),vs=[.ref a,.int i]/\Wd A.toCn G H/\BL K G a s/\s[i]?=TL 91/\
 (∀at_ r n j,eE (s.drop i)=TL (at_,r)->at_≠.star->kD at_.takes n->At s i r j->cT A.toCn G H Q fun G' v=>∃t,v=.ref t/\G' t=TL (.tup [.int (n:Nat),.int (j:Int)]))/\(eE (s.drop i)=J0->kl A G H E)
theorem RV{s:ag}{i:Nat}(h:s[i]?=TL 91):eE (s.drop i)=match PM.gE (s.drop (if(s.drop (i+1)).head?=TL 33 then i+2 else i+1))with
  |none=>J0
  |some (rs,r)=>if rs.isEmpty=J1 then J0 else TL (.cls ((s.drop (i+1)).head?==TL 33) rs,r):=by
 rw[gA h];unfold eE;rw[J3 (by decide),J3 (by decide),J3 (by decide),J4 rfl];by_cases h33:(s.drop (i+1)).head?=TL 33
 .rw[J4 h33,J4 h33,fS]<;>rfl
 .rw[J3 h33,J3 h33]<;>rfl
theorem Gp{neg:Bool}{rs:List (UInt8×UInt8)}{n:Nat}(h:SetOf rs n):kD (bc.cls neg rs).takes (if neg=J1 then jl 0 255^^^n else n):=by
 cases neg with
 |true=>
  rw[J4 rfl];have:=Wp h;exact⟨this.1,fun c=>by rw[this.2 c];show(!(rs.any fun r=>decide (r.1<=c)&&decide (c<=r.2)))=(J1 != (rs.any fun r=>decide (r.1<=c)&&decide (c<=r.2)));generalize(rs.any fun r=>decide (r.1<=c)&&decide (c<=r.2))=b;cases b<;>rfl⟩
 |false=>
  rw[J3 (by decide)];exact⟨h.1,fun c=>by rw[h.2 c];show(rs.any fun r=>decide (r.1<=c)&&decide (c<=r.2))=(J2 != (rs.any fun r=>decide (r.1<=c)&&decide (c<=r.2)));generalize(rs.any fun r=>decide (r.1<=c)&&decide (c<=r.2))=b;cases b<;>rfl⟩
theorem Ti(T:aY K mg A):Kn P w K mg base (dz P w A.fault) "read_class" 5 ["part","place"] (Xz K A):=by
 have sc:aV ["part","place","negated","stretches","byte_set","end"] ["part","place"] (aN KD):=bp;refine Kn.ofF T.aaP sc (fun vs H Q E h=>?_) (fun f cdv A0 outer s0 H vs Q E hr h=>?_)
 .obtain⟨_,_,_,_,rfl,_⟩:=h;rfl
 obtain⟨G,a,s,i,rfl,wd,hs,h91,q,qf⟩:=h;have hu64:=hr.units;have hna:=RV h91
 refine⟨_,(aq (pS 2 sc.nd (fN (mU hu64) (iU iV (pv 0) (gd (bb dX (pv 1) aB)) (gd (bb dX (pv 1) aB))) (bt (af (bC T.ZW rfl) ao)) (bq _)))
   (aq (pS 3 sc.nd (iC (Tn T) (hr.mono (by decide)) (jv fY) rfl (af (pv 0) (af (Cz (dZ (pv 2)) (bb dX (pv 1) aB) (bb dX (pv 1) aB)) ao))))
   (aq (pS 4 sc.nd (bP dk (pv 3) aB (fun _ _=>rfl)))
   (aq (pS 5 sc.nd (bP dk (pv 3) aB (fun _ _=>rfl)))
   (aq (bA (bL eF (pv 5) (cL T.Ze (pv 0)) (bq _))
    (au (uY fY rfl rfl T.Zq T.Zr uk (af uW ao)))
    bG)
   (aq (bA (dZ (pv 2))
    (au (pS 4 sc.nd (bb Ce (cF (xY T) hr (af aB (af aB ao))) (pv 4))))
    bG)
   (au (aL (dY (af (pv 4) (af (bb dX (pv 5) aB) ao))))))))))),?_⟩
 cb_eq
 rw[jT,IG];refine iX (hs.mono wd.sub) fun p2 hp2=>?_;rw[ug,xc];have s2:=(Step.refl wd).newI wd hp2 (o:=.lst (bv ((s.drop (i+1)).take (i+2-(i+1))))) aS;refine⟨by decide,fun p3 hp3=>?_⟩;have s3:=s2.newI wd hp3 (o:=.lst [.int 33]) aS;have hb2:BL K (ah (ah H p2 (.lst (bv ((s.drop (i+1)).take (i+2-(i+1)))))) p3 (.lst [.int 33])) p2 ((s.drop (i+1)).take (i+2-(i+1))):=eK (s3.wd.sub _ _ (bx (s2.wd.noG hp3) _ _ ax));have hb3:BL K (ah (ah H p2 (.lst (bv ((s.drop (i+1)).take (i+2-(i+1)))))) p3 (.lst [.int 33])) p3 [33]:=eK ax;refine nk hb2.ints hb3.ints ?_;have hd:(bi ((s.drop (i+1)).take (i+2-(i+1)))=bi [33])↔(s.drop (i+1)).head?=TL 33:=by rw[jm];exact oG s (i+1) 33
 rw[decide_eq_decide.mpr hd]
 cb_eq
 have rest:∀k:Nat,k=(if(s.drop (i+1)).head?=TL 33 then i+2 else i+1)->DE K A [.ref a,.int (k:Int)] (ah (ah H p2 (.lst (bv ((s.drop (i+1)).take (i+2-(i+1)))))) p3 (.lst [.int 33])) (fun v H'=>∃(G4:Hp)(t:aa)(rs:List (UInt8×UInt8))(n j:Nat),v=.ref t/\Step A.toCn G H G4 H'/\G4 t=TL (.tup [.int (n:Int),.int (j:Int)])/\rs≠[]/\jL (s.drop k) rs (s.drop j)/\SetOf rs n/\k<j/\j<=s.length/\(j=s.length\/(s.drop j).head?=TL 93)) E:=by
  intro k hk;refine⟨_,a,s,k,rfl,s3.wd,hs.mono (s3.same wd),fun rs n j h1 h2 h3 h4 h5 h6 G4 H4 v s4 hv=>?_,fun hf G4 H4 s4=>qf ?_ _ _ (s3.trans wd s4)⟩
  .obtain⟨t,rfl,ht⟩:=hv;exact⟨G4,t,rs,n,j,rfl,s3.trans wd s4,ht,h1,h2,h3,h4,h5,h6⟩
  .rw[hna,<-hk];rcases hf with hf|hf
   .rw[LQ hf];rfl
   .rw[hf]
 have hgo:∀(k:Nat),k=(if(s.drop (i+1)).head?=TL 33 then i+2 else i+1)->∀(Q':VK),(∀v H',(∃(G4:Hp)(t:aa)(rs:List (UInt8×UInt8))(n j:Nat),v=.ref t/\Step A.toCn G H G4 H'/\G4 t=TL (.tup [.int (n:Int),.int (j:Int)])/\rs≠[]/\jL (s.drop k) rs (s.drop j)/\SetOf rs n/\k<j/\j<=s.length/\(j=s.length\/(s.drop j).head?=TL 93))->Q' v H')->
   DE K A [.ref a,.int (k:Int)] (ah (ah H p2 (.lst (bv ((s.drop (i+1)).take (i+2-(i+1)))))) p3 (.lst [.int 33])) Q' E:=by
  intro k hk Q' hQ;obtain⟨G0,a0,s0',i0,e1,e2,e3,e4,e5⟩:=rest k hk;exact⟨G0,a0,s0',i0,e1,e2,e3,fun rs n j h1 h2 h3 h4 h5 h6 G4 H4 v s4 hv=>hQ _ _ (e4 rs n j h1 h2 h3 h4 h5 h6 G4 H4 v s4 hv),e5⟩
 by_cases h33:(s.drop (i+1)).head?=TL 33
 .rw[dT h33];simp only[if_true];refine hgo (i+2) (by rw[J4 h33]) _ ?_;rintro v H' ⟨G4,t,rs,n,j,rfl,s4,ht,h1,h2,h3,h4,h5,h6⟩
  cb_eq
  refine cH (k:=0) (bT.of (s4.wd.sub _ _ ht)) rfl ?_
  cb_eq
  refine cH (k:=1) (bT.of (s4.wd.sub _ _ ht)) rfl ?_
  cb_eq
  refine cy ((hs.mono (s4.same wd)).mono s4.wd.sub) ?_
  cb_eq
  rw[cY];rw[J4 h33]at hna;by_cases hj:j=s.length
  .rw[dT (by lia)];simp only[if_true];refine⟨by decide,qf ?_ _ _ s4⟩;rw[hj,mn (aF _)]at h2;rw[hna,LJ h2]
  .rw[dF (by lia)];simp only[aU,if_false,if_true];refine⟨0,255,rfl,by decide,by decide,?_⟩
   cb_eq
   rw[Ay,jT];refine⟨by decide,fun t5 ht5=>?_⟩;have h7:=h6.resolve_left hj;rw[LL h2 h7,fS]at hna;have hne: ¬rs.isEmpty=true:=by cases rs with|nil=>exact J5 rfl h1|cons x r=>simp
   simp only at hna;rw[J3 hne,h33]at hna;have hct:=Gp (neg:=J1) h3;rw[J4 rfl]at hct;exact q _ _ _ (j+1) hna (by simp) hct ⟨by lia,by lia,rfl⟩ _ _ _ (s4.newI wd ht5 dh) ⟨t5,rfl,ax⟩
 .rw[dF h33];simp only[aU,if_false];refine hgo (i+1) (by rw[J3 h33]) _ ?_;rintro v H' ⟨G4,t,rs,n,j,rfl,s4,ht,h1,h2,h3,h4,h5,h6⟩
  cb_eq
  refine cH (k:=0) (bT.of (s4.wd.sub _ _ ht)) rfl ?_
  cb_eq
  refine cH (k:=1) (bT.of (s4.wd.sub _ _ ht)) rfl ?_
  cb_eq
  refine cy ((hs.mono (s4.same wd)).mono s4.wd.sub) ?_
  cb_eq
  rw[cY];rw[J3 h33]at hna;by_cases hj:j=s.length
  .rw[dT (by lia)];simp only[if_true];refine⟨by decide,qf ?_ _ _ s4⟩;rw[hj,mn (aF _)]at h2;rw[hna,LJ h2]
  .rw[dF (by lia)];simp only[aU,if_false,if_true];rw[jT];refine⟨by decide,fun t5 ht5=>?_⟩;have h7:=h6.resolve_left hj;rw[LL h2 h7,fS]at hna;have hne: ¬rs.isEmpty=true:=by cases rs with|nil=>exact J5 rfl h1|cons x r=>simp
   simp only at hna;rw[J3 hne,show((s.drop (i+1)).head?==TL 33)=J2 from beq_eq_false_iff_ne.mpr h33]at hna;have hct:=Gp (neg:=J2) h3;rw[J3 (by decide)]at hct;exact q _ _ _ (j+1) hna (by simp) hct ⟨by lia,by lia,rfl⟩ _ _ _ (s4.newI wd ht5 dh) ⟨t5,rfl,ax⟩
theorem BI{s:ag}{i:Nat}(h:s[i]?=TL 42):eE (s.drop i)=TL (.star,s.drop (i+1)):=by
 rw[gA h];rfl
theorem RT{s:ag}{i:Nat}(h:s[i]?=TL 63):eE (s.drop i)=TL (.any,s.drop (i+1)):=by
 rw[gA h];rfl
theorem RW{s:ag}{i:Nat}(h:s[i]?=TL 92):eE (s.drop i)=match s[i+1]? with
  |none=>J0
  |some d=>TL (.byte d,s.drop (i+2)):=by
 rw[gA h];unfold eE;rw[J3 (by decide),J3 (by decide),J4 rfl];cases e:s[i+1]? with
 |none=>
  rw[mn (EK.mp e)]
 |some d=>rw[gA e]
theorem RU{s:ag}{i:Nat}{c:UInt8}(h:s[i]?=TL c)(h1:c≠42)(h2:c≠63)(h3:c≠92)(h4:c≠91):eE (s.drop i)=TL (.byte c,s.drop (i+1)):=by
 rw[gA h];unfold eE;rw[J3 h1,J3 h2,J3 h3,J3 h4]
theorem RX{s:ag}{i:Nat}{a:bc}{r:ag}(h:eE (s.drop i)=TL (a,r)):a=.star↔(s.drop i).head?=TL 42:=by
 cases e:s.drop i with
 |nil=>rw[e]at h;cases h
 |cons c t=>
  rw[e]at h;show _↔TL c=TL 42;unfold eE at h;by_cases h1:c=42
  .rw[J4 h1]at h;cases h;simp[h1]
  .rw[J3 h1]at h;have hn: ¬TL c=TL (42:UInt8):=fun z=>h1 (dN z);refine⟨fun z=>?_,fun z=>J5 z hn⟩;subst z;split at h
   .cases h
   .split at h
    .split at h
     .cases h
     .cases h
    .split at h
     .split at h
      .cases h
      .split at h
       .cases h
       .cases h
     .cases h
theorem uc{c:UInt8}{k:Nat}(hk:k<256):((c.toNat:Int)=(k:Int))↔c=kF k:=by
 rw[iW,wM,wj hk];exact⟨fun z=>jc z,fun z=>by rw[z]⟩
def Xy(K:aw)(A:Ad):Sp:=fun vs H Q E=>∃(G:Hp)(a:aa)(s:ag)(i:Nat),vs=[.ref a,.int i]/\Wd A.toCn G H/\BL K G a s/\i<s.length/\
 (∀at_ r j,eE (s.drop i)=TL (at_,r)->At s i r j->cT A.toCn G H Q fun G' v=>∃(t pc:aa)(c:MC),v=.ref t/\G' t=TL (.tup [.ref pc,.int (j:Int)])/\CellAt A.toCn G' pc c/\oN aQ at_ c)/\(eE (s.drop i)=J0->kl A G H E)
theorem Th(T:aY K mg A):Kn P w K mg base (dz P w A.fault) "read_cell" 6 ["part","place"] (Xy K A):=by
 have sc:aV ["part","place","byte","found","escaped"] ["part","place"] (aN KC):=bp;refine Kn.ofF T.aaO sc (fun vs H Q E h=>?_) (fun f cdv A0 outer s0 H vs Q E hr h=>?_)
 .obtain⟨_,_,_,_,rfl,_⟩:=h;rfl
 obtain⟨G,a,s,i,rfl,wd,hs,hi,q,qf⟩:=h;have e:s[i]?=TL s[i]:=bO hi
 have fin:∀(at_:bc)(j:Nat)(G1 H1:Hp)(pc:aa)(c:MC),Step A.toCn G H G1 H1->eE (s.drop i)=TL (at_,s.drop j)->i<j->j<=s.length->CellAt A.toCn G1 pc c->oN aQ at_ c->([V.ref pc,.int (j:Int)]:List V).length<=aZ/\∀t,H1 t=J0->Q (.ref t) (ah H1 t (.tup [.ref pc,.int (j:Int)])):=by
  intro at_ j G1 H1 pc c s1 hn h1 h2 hc ha;refine⟨by show 2<=aZ;decide,fun t ht=>?_⟩;exact q at_ _ j hn ⟨h1,h2,rfl⟩ _ _ _ (s1.newI wd ht dh) ⟨t,pc,c,rfl,ax,hc.mono (bx (s1.wd.noG ht)),ha⟩
 refine⟨_,(aq (pS 2 sc.nd (bP eX (pv 0) (pv 1) (fun _ _=>rfl)))
   (aq (bA (bL eF (pv 2) (bC T.Zt rfl) (bq _))
    (au (aL (dY (af (ig (Ts T) (hr.mono (by decide)) bB rfl) (af (bb dX (pv 1) aB) ao)))))
    bG)
   (aq (bA (bL eF (pv 2) (bC T.abI rfl) (bq _))
    (au (aL (dY (af (cF (xX T) hr (af (ig (qj T) (hr.mono (by decide)) bB rfl) ao)) (af (bb dX (pv 1) aB) ao)))))
    bG)
   (aq (bA (bL eF (pv 2) (bC T.abH rfl) (bq _))
    (aq (pS 3 sc.nd (iC (Ti T) (hr.mono (by decide)) (jv fY) rfl (af (pv 0) (af (pv 1) ao))))
    (au (aL (dY (af (cF (xX T) hr (af (bP dk (pv 3) aB (fun _ _=>rfl)) ao)) (af (bP dk (pv 3) aB (fun _ _=>rfl)) ao))))))
    bG)
   (aq (bA (bL eF (pv 2) (bC T.ZV rfl) (bq _))
    (aq (pS 4 sc.nd (iC (IY T) (hr.mono (by decide)) (jv fY) rfl (af (pv 0) (af (pv 1) ao))))
    (au (aL (dY (af (cF (xX T) hr (af (bb ju aB (bP dk (pv 4) aB (fun _ _=>rfl))) ao)) (af (bP dk (pv 4) aB (fun _ _=>rfl)) ao))))))
    bG)
   (au (aL (dY (af (cF (xX T) hr (af (bb ju aB (pv 2)) ao)) (af (bb dX (pv 1) aB) ao)))))))))),?_⟩
 cb_eq
 refine fB (hs.mono wd.sub) (nW e) ?_
 cb_eq
 have b42:((s[i].toNat:Int)=42)↔s[i]=42:=uc (k:=42) (by decide);have b63:((s[i].toNat:Int)=63)↔s[i]=63:=uc (k:=63) (by decide);have b91:((s[i].toNat:Int)=91)↔s[i]=91:=uc (k:=91) (by decide);have b92:((s[i].toNat:Int)=92)↔s[i]=92:=uc (k:=92) (by decide);simp only[decide_eq_true_eq,b42,b63,b91,b92];split
 .next h=>
  refine⟨G,rfl,wd,fun G1 H1 v s1 hv=>?_⟩;obtain⟨pc,rfl,hc⟩:=hv
  cb_eq
  rw[jT];exact fin .star (i+1) G1 H1 pc _ s1 (BI (by rw[e,h])) (by lia) (by lia) hc rfl
 .next h42=>
  split
  .next h=>
   refine⟨rfl,?_⟩;refine⟨G,aQ,rfl,wd,fun G1 H1 v s1 hv=>?_⟩;obtain⟨pc,rfl,hc⟩:=hv
   cb_eq
   rw[jT];exact fin .any (i+1) G1 H1 pc _ s1 (RT (by rw[e,h])) (by lia) (by lia) hc OC
  .next h63=>
   split
   .next h=>
    refine⟨G,a,s,i,rfl,wd,hs,by rw[e,h],fun at_ r n j hn hns hset hat G1 H1 v s1 hv=>?_,qf⟩;obtain⟨t1,rfl,ht1⟩:=hv;obtain⟨hij,hjl,rfl⟩:=hat
    cb_eq
    refine cH (k:=0) (bT.of (s1.wd.sub _ _ ht1)) rfl ?_
    cb_eq
    refine⟨G1,n,rfl,s1.wd,fun G2 H2 v s2 hv2=>?_⟩;obtain⟨pc,rfl,hc⟩:=hv2;have s12:=s1.trans wd s2
    cb_eq
    refine cH (k:=1) (bT.of (s2.wd.sub _ _ (s2.same s1.wd _ _ ht1))) rfl ?_;exact fin at_ j G2 H2 pc _ s12 hn hij hjl hc (AB hns hset)
   .next h91=>
    split
    .next h=>
     have hesc:=RW (by rw[e,h]);refine⟨G,a,s,i,rfl,wd,hs,fun d hd G1 H1 v s1 hv=>?_,fun hd=>qf (by rw[hesc,hd])⟩;obtain⟨t1,rfl,ht1⟩:=hv;rw[hd]at hesc;have hlt:=(aK.mp hd).1
     cb_eq
     refine cH (k:=0) (bT.of (s1.wd.sub _ _ ht1)) rfl ?_
     cb_eq
     refine⟨jo (m:=1) (n:=1) (by decide) (by have:=kT d;lia),?_⟩;rw[ya];refine⟨G1,_,rfl,s1.wd,fun G2 H2 v s2 hv2=>?_⟩;obtain⟨pc,rfl,hc⟩:=hv2;have s12:=s1.trans wd s2
     cb_eq
     refine cH (k:=1) (bT.of (s2.wd.sub _ _ (s2.same s1.wd _ _ ht1))) rfl ?_;exact fin (.byte d) (i+2) G2 H2 pc _ s12 hesc (by lia) (by lia) hc (AB (by simp) (Ld d))
    .next h92=>
     refine⟨jo (m:=1) (n:=1) (by decide) (by have:=kT s[i];lia),?_⟩;rw[ya];refine⟨G,_,rfl,wd,fun G2 H2 v s2 hv2=>?_⟩;obtain⟨pc,rfl,hc⟩:=hv2
     cb_eq
     rw[jT];exact fin (.byte s[i]) (i+1) G2 H2 pc _ s2 (RU e h42 h63 h92 h91) (by lia) (by lia) hc (AB (by simp) (Ld _))
def Xn(K:aw)(A:Ad):Sp:=fun vs H Q E=>∃(G:Hp)(a:aa)(s:ag),vs=[.ref a]/\Wd A.toCn G H/\BL K G a s/\s.length<=50000/\
 (∀as,s≠[]->ats s=TL as->cT A.toCn G H Q fun G' v=>∃(p:aa)(cs:List MC),v=.ref p/\gZ A.toCn G' p cs/\jC aQ (slim as) cs/\cs.length<=s.length)/\(s=[]\/ats s=J0->kl A G H E)
theorem Yl(s:ag)(j:Nat):(s.drop j).take (j+2-j)=[42,42]↔(s.drop j).head?=TL 42/\(s.drop (j+1)).head?=TL 42:=by
 rw[show j+2-j=2 by lia,<-fS (i:=1) (j:=j)];cases e:s.drop j with
 |nil=>simp
 |cons x r=>
  cases r with
  |nil=>simp
  |cons y t=>simp
theorem IU(T:aY K mg A):Kn P w K mg base (dz P w A.fault) "part_cells" 7 ["part"] (Xn K A):=by
 have sc:aV ["part","cells","place","found"] ["part"] (aN Ks):=bp;refine Kn.ofF T.aaE sc (fun vs H Q E h=>?_) (fun f cdv A0 outer s0 H vs Q E hr h=>?_)
 .obtain⟨_,_,_,rfl,_⟩:=h;rfl
 obtain⟨G,a,s,rfl,wd,hs,hl,q,qf⟩:=h;have hu64:=hr.units
 refine⟨_,(aq (bA (bL (mU hu64) (pv 0) (bt ao) (bq _))
    (au (uY fY rfl rfl T.Zq T.Zr uk (af uW ao)))
    bG)
   (aq (pS 1 sc.nd (bt ao))
   (aq (pS 2 sc.nd aB)
   (aq (qr Fe (bL qk (pv 2) (cL T.Ze (pv 0)) (bq _))
    (aq (pS 3 sc.nd (iC (Th T) (hr.mono (by decide)) (jv fY) rfl (af (pv 0) (af (pv 2) ao))))
    (aq (bA (bL (Cc hu64) (iU iV (pv 0) (gd (pv 2)) (gd (bb dX (pv 2) aB))) (bt (af (bC T.Zt rfl) (af (bC T.Zt rfl) ao))) (bq _))
     (au (eI (eN eT gn gr gc (pv 1) (af (bP dk (pv 3) aB (fun _ _=>rfl)) ao))))
     bG)
    (au (pS 2 sc.nd (bP dk (pv 3) aB (fun _ _=>rfl)))))))
   (au (aL (pv 1))))))),?_⟩
 cb_eq
 refine⟨by decide,fun p0 hp0=>?_⟩;have s1:=(Step.refl wd).new wd hp0 (o:=.lst []);refine nk (ns:=bi s) (ms:=[]) (hs.mono s1.wd.sub).ints (ak.of ax) ?_
 cb_eq
 by_cases hne:s=[]
 .rw[dT (by rw[hne];rfl)];simp only[if_true];exact⟨by decide,qf (.inl hne) _ _ s1⟩
 .rw[show decide (bi s=[])=J2 from dF (fun z=>hne ((jm (t:=[])).mp z))];simp only[aU,if_false];refine⟨by decide,fun p hp=>?_⟩;have s2:=s1.new wd hp (o:=.lst []);have o2:=ar.make wd s1 hp (o:=.lst [])
  refine qC (fun mm σ H'=>∃(G2:Hp)(as r:List bc)(cs:List MC)(ad:List aa)(j:Nat)(o3:Option V),mm=s.length-j/\σ=[TL (.ref a),TL (.ref p),TL (.int (j:Int)),o3]/\Step A.toCn G H G2 H'/\ar A.toCn H G2 H' p (.lst (ad.map V.ref))/\
   bK (fun x c=>CellAt A.toCn G2 x c) ad cs/\nr s as (s.drop j)/\mF as r (decide ((s.drop j).head?=TL 42))/\jC aQ r cs/\j<=s.length/\cs.length<=j)
   ⟨_,G,[],[],[],[],0,_,rfl,rfl,s2,o2,.nil,Oc s,WA _,.nil,bI _,bI _⟩ ?_
  rintro mm σ H' ⟨G2,as,r,cs,ad,j,o3,rfl,rfl,s3,o,pr,hat,hsl,hca,hjl,hcl⟩;have hs3:=(hs.mono (s3.same wd)).mono s3.wd.sub
  cb_eq
  refine cy hs3 ?_
  cb_eq
  rw[cY];by_cases hlt:j<s.length
  .rw[dT (by lia)];simp only[if_true];refine⟨_,fun _ _ z=>z,?_⟩;have hdn:s.drop j≠[]:=fun z=>by have:=List.drop_eq_nil_iff.mp z;lia
   refine⟨G2,a,s,j,rfl,s3.wd,hs.mono (s3.same wd),hlt,fun at_ r4 j4 hn hat4 G4 H4 v s4 hv=>?_,fun hn G4 H4 s4=>qf (.inr (Ob hat hdn hn)) _ _ (s3.trans wd s4)⟩;obtain⟨t4,pc,c,rfl,ht4,hc,hca4⟩:=hv;obtain⟨hjj,hjl4,rfl⟩:=hat4;have s34:=s3.trans wd s4;have o4:=o.call s4;have pr4:=cP (fun _ _ z=>z.mono (s4.same s3.wd)) pr
   cb_eq
   rw[IG];refine iX ((hs.mono (s34.same wd)).mono s34.wd.sub) fun p5 hp5=>?_;rw[ug,xc];have s5:=s34.newI wd hp5 (o:=.lst (bv ((s.drop j).take (j+2-j)))) aS;have o5:=o4.newI s34.wd hp5 (o':=.lst (bv ((s.drop j).take (j+2-j)))) aS;refine⟨by decide,fun p6 hp6=>?_⟩;have s6:=s5.newI wd hp6 (o:=.lst [.int 42,.int 42]) aS;have o6:=o5.newI s5.wd hp6 (o':=.lst [.int 42,.int 42]) aS;have n46:bh G4 (ah (ah G4 p5 (.lst (bv ((s.drop j).take (j+2-j))))) p6 (.lst [.int 42,.int 42])):=(bx (s34.wd.noG hp5)).trans (bx (s5.wd.noG hp6));have hb5:BL K (ah (ah H4 p5 (.lst (bv ((s.drop j).take (j+2-j))))) p6 (.lst [.int 42,.int 42])) p5 ((s.drop j).take (j+2-j)):=eK (s6.wd.sub _ _ (bx (s5.wd.noG hp6) _ _ ax));have hb6:BL K (ah (ah H4 p5 (.lst (bv ((s.drop j).take (j+2-j))))) p6 (.lst [.int 42,.int 42])) p6 [42,42]:=eK ax;refine El hb5.ints hb6.ints ?_;have hd:(bi ((s.drop j).take (j+2-j))=bi [42,42])↔(s.drop j).head?=TL 42/\(s.drop (j+1)).head?=TL 42:=by rw[jm];exact Yl s j
   have hst:=RX hn;have pr6:=cP (fun _ _ z=>z.mono n46) pr4;have hat':=Od hat hdn hn
   cb_eq
   by_cases htwo:(s.drop j).head?=TL 42/\(s.drop (j+1)).head?=TL 42
   .rw[dT (hd.mpr htwo)];simp only[fc,aU,if_false];refine cH (k:=1) (bT.of (s6.wd.sub _ _ (n46 _ _ ht4))) rfl ?_;have e1:at_=.star:=hst.mpr htwo.1;subst e1
    have hj4:j4=j+1:=by
     have h1:=BI (s:=s) (i:=j) (by rw[<-ux];exact htwo.1);rw[hn]at h1;have h2:s.drop j4=s.drop (j+1):=by injection h1 with h1;injection h1
     have:=congrArg eh h2;rw[cM,cM]at this;lia
    subst hj4;rw[dT htwo.1]at hsl;refine⟨s.length-(j+1),by lia,_,_,_,cs,ad,j+1,_,rfl,rfl,s6,o6,pr6,hat',?_,hca,hjl4,by lia⟩;rw[dT htwo.2];exact Wz hsl
   .rw[dF (fun z=>htwo (hd.mp z))];simp only[eJ,if_true];refine⟨eP (ak.of o6.at_),?_⟩;refine cH (k:=0) (bT.of (s6.wd.sub _ _ (n46 _ _ ht4))) rfl ?_;have hal:=bU pr;refine gh o6.at_ (by rw[aE,hal];exact cf (m:=50000) (by lia) (by decide)) ?_
    cb_eq
    have s7:=s6.put wd o6 (o':=.lst (ad.map V.ref++[.ref pc]));have o7:=o6.put_ (o':=.lst (ad.map V.ref++[.ref pc]));refine cH (k:=1) (bT.of (s7.wd.sub _ _ (n46 _ _ ht4))) rfl ?_;refine⟨s.length-j4,by lia,_,as++[at_],r++[at_],cs++[c],ad++[pc],j4,_,rfl,rfl,s7,by rw[cx];exact o7,ji pr6 (hc.mono n46),hat',?_,Gm hca hca4,hjl4,by rw[bw,dR];lia⟩;by_cases e1:at_=.star
    .subst e1;have h42:=hst.mp rfl
     have hj4:j4=j+1:=by
      have h1:=BI (s:=s) (i:=j) (by rw[<-ux];exact h42);rw[hn]at h1;have h2:s.drop j4=s.drop (j+1):=by injection h1 with h1;injection h1
      have:=congrArg eh h2;rw[cM,cM]at this;lia
     subst hj4;rw[dT h42]at hsl;rw[dF (fun z=>htwo ⟨h42,z⟩)];exact WC hsl
    .rw[dF (fun z=>e1 (hst.mpr z))]at hsl;exact WB e1 hsl
  .rw[dF (by lia)];simp only[aU,if_false];have hj:j=s.length:=by lia
   rw[hj,mn (aF _)]at hat hsl;rw[dF (by simp)]at hsl;refine q as hne (Oa hat) _ _ _ (s3.sealO wd o aS) ⟨p,cs,rfl,⟨ad,ax,cP (fun _ _ z=>z.mono (bx o.g)) pr⟩,?_,by lia⟩;rw[Wy hsl];exact hca
theorem JR(n d:Nat):HT.sIx n d (TL (-1))=n-1:=by
 show(if(-1:Int)<0 then((-1:Int)+(n:Int)).toNat else min (-1:Int).toNat n)=n-1;rw[J4 (by decide)];lia
theorem Gw(xs:List V):eB xs J0 (TL (-1))=xs.take (xs.length-1):=by
 unfold eB;rw[HT.sIx_none,tm,Nat.sub_zero,JR]
theorem OS(xs:List V):eB xs (TL (-1)) J0=xs.drop (xs.length-1):=by
 unfold eB;rw[HT.sIx_none,JR,kr (by rw[cM];lia)]
theorem FL{α:Type}{xs:List α}{v:α}(h:xs[xs.length-1]?=TL v):nR xs (-1)=TL v:=by
 have hl:=(aK.mp h).1;unfold nR pZ;rw[J3 (by decide),J4 (by lia)];show xs[(-1+(xs.length:Int)).toNat]?=TL v;rw[show(-1+(xs.length:Int)).toNat=xs.length-1 by lia];exact h
def Xa(K:aw)(A:Ad):Sp:=fun vs H Q _=>∃(G:Hp)(a:aa)(s:ag),vs=[.ref a]/\Wd A.toCn G H/\BL K G a s/\cT A.toCn G H Q fun _ v=>v=.bl (decide (s=[42,42]))
theorem BR(T:aY K mg A):Kn P w K mg base aW "is_many_parts" 1 ["part"] (Xa K A):=by
 have sc:aV ["part"] ["part"] (aN Kf):=bp;refine Kn.of T.aar sc (fun vs H Q E h=>?_) (fun f cdv A0 outer s0 H vs Q E hr h=>?_)
 .obtain⟨_,_,_,rfl,_⟩:=h;rfl
 obtain⟨G,a,s,rfl,wd,hs,q⟩:=h;have hu64:=hr.units;refine⟨_,(au (aL (fN (mU hu64) (pv 0) (bt (af (bC T.Zt rfl) (af (bC T.Zt rfl) ao))) (bq _)))),?_⟩
 cb_eq
 refine⟨by decide,fun p hp=>?_⟩;have s1:=(Step.refl wd).new wd hp (o:=.lst [.int 42,.int 42]);have hb:BL K (ah H p (.lst [.int 42,.int 42])) p [42,42]:=eK ax;refine nk (hs.mono s1.wd.sub).ints hb.ints (q _ _ _ s1 (congrArg V.bl ?_));exact decide_eq_decide.mpr jm
def DD(K:aw)(A:Ad):Sp:=fun vs H Q E=>∃(G:Hp)(a:aa)(ps:List ag),vs=[.ref a]/\Wd A.toCn G H/\Fs K G a ps/\ps≠[]/\(ps.map eh).sum+ps.length<=50000/\
 (∀l,dQ ps=TL l->cT A.toCn G H Q fun G' v=>∃(p:aa)(cs:List MC),v=.ref p/\gZ A.toCn G' p cs/\iZ l cs/\cs.length<=50000)/\(dQ ps=J0->kl A G H E)
theorem vt(l:List ag)(s:ag):((l++[s]).map eh).sum=(l.map eh).sum+s.length:=by
 rw[cx,List.sum_append];simp
theorem yt{ps:List ag}{l:List Seg}{s:ag}{x:Seg}(h:dQ ps=TL l)(hx:iq s=TL x):dQ (ps++[s])=TL (l++[x]):=by
 rw[KZ,h,qv,hx];rfl
theorem Yi(ps:List ag)(i:Nat):((ps.take i).map eh).sum<=(ps.map eh).sum:=by
 have:(ps.map eh).sum=((ps.take i).map eh).sum+((ps.drop i).map eh).sum:=by
  rw[<-List.sum_append,<-cx,pk]
 lia
theorem Td(T:aY K mg A):Kn P w K mg base (dz P w A.fault) "pattern_cells" 8 ["parts"] (DD K A):=by
 have sc:aV ["parts","cells","place","part"] ["parts"] (aN Kw):=bp;refine Kn.ofF T.aaI sc (fun vs H Q E h=>?_) (fun f cdv A0 outer s0 H vs Q E hr h=>?_)
 .obtain⟨_,_,_,rfl,_⟩:=h;rfl
 obtain⟨G,a,ps,rfl,wd,⟨as,ha,pr⟩,hne,hl,q,qf⟩:=h;have hal:=bU pr;have hpos:0<ps.length:=fG.mpr hne
 refine⟨_,(aq (pS 1 sc.nd (bt ao))
   (aq (gf Fe rfl (oy rfl T.Zo (af (iU iV (pv 0) mX (gd (gV gW aB))) ao)) (ou rfl (ip (gN 2 sc.nd) (ip (gN 3 sc.nd) ow)))
    (au (bA (lS (dZ (cF (BR T) hr (af (pv 3) ao))))
     (aq (eI (eN eT Aa Ab xU (pv 1) (af (iC (IU T) (hr.mono (by decide)) (jv fY) rfl (af (pv 3) ao)) ao)))
     (au (eI (eN eT gn gr gc (pv 1) (af (ig (Tr T) (hr.mono (by decide)) bB rfl) ao)))))
     (au (bA (lS (dZ (cF (BR T) hr (af (bP eX (pv 0) (bb dX (pv 2) aB) (fun _ _=>rfl)) ao))))
      (au (eI (eN eT gn gr gc (pv 1) (af (ig (SJ T) (hr.mono (by decide)) bB rfl) ao))))
      bG)))))
   (aq (bA (dZ (cF (BR T) hr (af (bP eX (pv 0) (gV gW aB) (fun _ _=>rfl)) ao)))
    (au (eI (eN eT gn gr gc (pv 1) (af (ig (SV T) (hr.mono (by decide)) bB rfl) ao))))
    (au (eI (eN eT Aa Ab xU (pv 1) (af (iC (IU T) (hr.mono (by decide)) (jv fY) rfl (af (bP eX (pv 0) (gV gW aB) (fun _ _=>rfl)) ao)) ao)))))
   (au (aL (pv 1)))))),?_⟩
 cb_eq
 refine⟨by decide,fun p hp=>?_⟩;have s1:=(Step.refl wd).new wd hp (o:=.lst []);have o1:=ar.make wd (Step.refl wd) hp (o:=.lst []);refine iX (ak.of (s1.wd.sub _ _ ha)) fun p1 hp1=>?_;rw[show eB (as.map V.ref) J0 (TL (-1))=(as.take (ps.length-1)).map V.ref by rw[Gw,aE,hal,vZ]];have s2:=s1.newI wd hp1 (o:=.lst ((as.take (ps.length-1)).map V.ref)) aS;have o2:=o1.newI s1.wd hp1 (o':=.lst ((as.take (ps.length-1)).map V.ref)) aS;have n12:bh G (ah G p1 (.lst ((as.take (ps.length-1)).map V.ref))):=bx (s1.wd.noG hp1)
 let Inv:=fun(i:Nat)(H':Hp)=>∃(G1:Hp)(l r:List Seg)(cs:List MC)(ad:List aa),Step A.toCn G H G1 H'/\bh (ah G p1 (.lst ((as.take (ps.length-1)).map V.ref))) G1/\ar A.toCn H G1 H' p (.lst (ad.map V.ref))/\
   bK (fun x c=>CellAt A.toCn G1 x c) ad cs/\dQ (ps.take i)=TL l/\nv (l.map fm) r (decide (ps[i]?=TL [42,42]))/\oO r cs/\cs.length<=((ps.take i).map eh).sum+i
 refine qB (ak.of ax) (fun i σ H'=>∃(o2 o3:Option V),σ=[TL (.ref a),TL (.ref p),o2,o3]/\Inv i H') ?_ ?_ ?_ ?_
 .exact⟨J0,J0,rfl,_,[],[],[],[],s2,bh.refl _,o2,.nil,rfl,Pd _,.nil,bI _⟩
 .rintro i σ H' _ ⟨_,_,_,G1,_,_,_,_,s3,e3,_⟩;exact ak.of (s3.wd.sub _ _ (e3 _ _ ax))
 .rintro i x σ H' T0 hx ⟨q2,q3,rfl,G1,l,r,cs,ad,s3,e3,o3,pc,hseg,hdt,hcp,hcl⟩ hT;obtain⟨pa,hpa,rfl⟩:=eM hx;have hi':i<(as.take (ps.length-1)).length:=(aK.mp hpa).1;rw[cQ]at hi'
  have hpa':as[i]?=TL pa:=by
   rw[Nc (by lia)]at hpa;exact hpa
  obtain⟨s,hsi,hb⟩:=dP pr hpa';have eG:bh G G1:=n12.trans e3;have s4:=s3.new wd hT (o:=.tup [.int (i:Nat),.ref pa]);have o4:=o3.new_ hT (o':=.tup [.int (i:Nat),.ref pa]);have hti:ps.take (i+1)=ps.take i++[s]:=PM.take_snoc hsi;have hsum:=Yi ps (i+1);rw[hti,vt]at hsum
  cb_eq
  refine⟨G1,pa,s,rfl,s4.wd,hb.mono eG,fun G5 H5 v s5 hv=>?_⟩;subst hv;have s45:=s4.trans wd s5;have o5:=o4.call s5;have e15:=s5.same s4.wd;have pc5:=cP (fun _ _ z=>z.mono e15) pc;have hpl:=bU pc
  cb_eq
  by_cases hm:s=[42,42]
  .rw[dT hm];simp only[fc,aU,if_false];rw[dT (by rw[hsi,hm])]at hdt;have hseg':dQ (ps.take (i+1))=TL (l++[.deep]):=by rw[hti];exact yt hseg (by rw[hm];exact vh)
   have hi1:i+1<ps.length:=by lia
   have hn:ps[i+1]?=TL ps[i+1]:=bO hi1;obtain⟨pn,hpn,hbn⟩:=jW pr hn;rw[jT];refine fB (ak.of (s45.wd.sub _ _ (s45.same wd _ _ ha))) (by rw[cI,hpn];rfl) ?_;refine⟨G5,pn,_,rfl,s45.wd,hbn.mono (s45.same wd),fun G6 H6 v s6 hv=>?_⟩;subst hv;have s56:=s45.trans wd s6;have o6:=o5.call s6;have e16:bh G1 G6:=e15.trans (s6.same s45.wd)
   cb_eq
   by_cases hm2:ps[i+1]=[42,42]
   .rw[dT hm2];simp only[fc,aU,if_false];refine⟨_,_,rfl,G6,l++[.deep],r,cs,ad,s56,e3.trans e16,o6,cP (fun _ _ z=>z.mono e16) pc,hseg',?_,hcp,by rw[hti,vt];lia⟩;rw[dT (by rw[hn,hm2]),cx];exact Pc hdt
   .rw[dF hm2];simp only[eJ,if_true];refine⟨eP (ak.of o6.at_),G6,rfl,s56.wd,fun G7 H7 v s7 hv7=>?_⟩;obtain⟨pc7,rfl,hc7⟩:=hv7;have s67:=s56.trans wd s7;have o7:=o6.call s7;have e17:bh G1 G7:=e16.trans (s7.same s56.wd)
    cb_eq
    refine gh o7.at_ (by rw[aE,hpl];exact cf (m:=50000) (by lia) (by decide)) ?_;refine⟨_,_,rfl,G7,l++[.deep],r++[.deep],cs++[⟨cw,cb,J1⟩],ad++[pc7],s67.put wd o7,e3.trans e17,by rw[cx];exact o7.put_,ji (cP (fun _ _ z=>z.mono e17) pc) hc7,hseg',?_,.deep hcp,by rw[hti,vt,bw,dR];lia⟩;rw[dF (by rw[hn];exact fun z=>hm2 (dN z)),cx];exact Pf hdt
  .rw[dF hm];simp only[eJ,if_true];rw[dF (by rw[hsi];exact fun z=>hm (dN z))]at hdt;have hsl:s.length<=50000:=by lia
   refine⟨eP (ak.of o5.at_),G5,pa,s,rfl,s45.wd,hb.mono (s45.same wd),hsl,fun sa hsn hats G6 H6 v s6 hv6=>?_,fun hf=>?_⟩
   .obtain⟨p6,ds,rfl,⟨ad6,hp6,pc6⟩,hca,hdl⟩:=hv6;have s56:=s45.trans wd s6;have o6:=o5.call s6;have e16:bh G1 G6:=e15.trans (s6.same s45.wd);have hpl6:=bU pc6
    cb_eq
    refine yX o6.at_ (s56.wd.sub _ _ hp6) (by rw[aE,aE,hpl,hpl6];exact jH (cf (m:=50000) (by lia) (by decide))) ?_;have s7:=s56.put wd o6 (o':=.lst (ad.map V.ref++ad6.map V.ref));have o7:=o6.put_ (o':=.lst (ad.map V.ref++ad6.map V.ref))
    cb_eq
    refine⟨eP (ak.of o7.at_),G6,rfl,s7.wd,fun G8 H8 v s8 hv8=>?_⟩;obtain⟨pc8,rfl,hc8⟩:=hv8;have s78:=s7.trans wd s8;have o8:=o7.call s8;have e68:bh G6 G8:=s8.same s7.wd
    cb_eq
    refine gh o8.at_ (by rw[bw,aE,aE,hpl,hpl6];exact cf (m:=50000) (by lia) (by decide)) ?_;have hsegs:iq s=TL (.one sa):=by rw[vj hsn hm,hats];rfl
    refine⟨_,_,rfl,G8,l++[.one sa],r++[.one (slim sa)],(cs++ds)++[⟨0,cb,J2⟩],(ad++ad6)++[pc8],s78.put wd o8,e3.trans (e16.trans e68),by rw[cx,cx];exact o8.put_,?_,?_,?_,.one hcp hca,?_⟩
    .exact ji (jV (cP (fun _ _ z=>z.mono (e16.trans e68)) pc) (cP (fun _ _ z=>z.mono e68) pc6)) hc8
    .rw[hti];exact yt hseg hsegs
    .rw[cx];exact Pe hdt
    .rw[hti,vt,bw,bw,dR];lia
   .intro G6 H6 s6;refine qf (La hsi ?_) _ _ (s45.trans wd s6);rcases hf with hf|hf
    .rw[hf];exact vi
    .by_cases hsn:s=[]
     .rw[hsn];exact vi
     .rw[vj hsn hm,hf];rfl
 .rintro σ H' ⟨q2,q3,rfl,G1,l,r,cs,ad,s3,e3,o3,pc,hseg,hdt,hcp,hcl⟩;rw[aE,cQ,hal,mw (by lia)]at hseg hdt hcl;have hlast:ps[ps.length-1]?=TL ps[ps.length-1]:=bO (by lia);generalize ps[ps.length-1]=s at hlast;obtain⟨pa,hpa,hb⟩:=jW pr hlast
  have hti:ps=ps.take (ps.length-1)++[s]:=by
   have:=PM.take_snoc hlast;rw[show ps.length-1+1=ps.length by lia,cv]at this;exact this
  have hsum:(ps.map eh).sum=((ps.take (ps.length-1)).map eh).sum+s.length:=by
   conv=>lhs;rw[hti]
   exact vt _ _
  have eG:bh G G1:=n12.trans e3;have hpl:=bU pc
  cb_eq
  refine⟨a,_,-1,_,rfl,rfl,ak.of (s3.wd.sub _ _ (eG _ _ ha)),FL (by rw[aE,hal,cI,hpa];rfl),?_⟩;refine⟨G1,pa,s,rfl,s3.wd,hb.mono eG,fun G5 H5 v s5 hv=>?_⟩;subst hv;have s45:=s3.trans wd s5;have o5:=o3.call s5;have e15:=s5.same s3.wd;have pc5:=cP (fun _ _ z=>z.mono e15) pc
  cb_eq
  by_cases hm:s=[42,42]
  .rw[dT hm];simp only[if_true];rw[dT (by rw[hlast,hm])]at hdt;refine⟨eP (ak.of o5.at_),G5,rfl,s45.wd,fun G7 H7 v s7 hv7=>?_⟩;obtain⟨pc7,rfl,hc7⟩:=hv7;have s67:=s45.trans wd s7;have o7:=o5.call s7;have e57:=s7.same s45.wd
   cb_eq
   refine gh o7.at_ (by rw[aE,hpl];exact cf (m:=50000) (by lia) (by decide)) ?_
   cb_eq
   have s8:=s67.put wd o7 (o':=.lst (ad.map V.ref++[.ref pc7]));have o8:=o7.put_ (o':=.lst (ad.map V.ref++[.ref pc7]))
   have hseg':dQ ps=TL (l++[.deep]):=by
    rw[hti];exact yt hseg (by rw[hm];exact vh)
   refine q _ hseg' _ _ _ (s8.sealO wd o8 aS) ⟨p,cs++[⟨cw,cw,J2⟩],rfl,⟨ad++[pc7],by rw[ax,cx];rfl,ji (cP (fun _ _ z=>(z.mono e57).mono (bx o8.g)) pc5) (hc7.mono (bx o8.g))⟩,?_,by rw[bw,dR];lia⟩;unfold iZ fk;rw[cx];have:=hdt [.deep] (by simp[fh]);rw[show(l.map fm++[Seg.deep].map fm)=l.map fm++[.deep]from rfl,this];exact xk hcp .lastDeep
  .rw[dF hm];simp only[aU,if_false];rw[dF (by rw[hlast];exact fun z=>hm (dN z))]at hdt;refine⟨eP (ak.of o5.at_),?_⟩;refine⟨a,_,-1,_,rfl,rfl,ak.of (s45.wd.sub _ _ (s45.same wd _ _ ha)),FL (by rw[aE,hal,cI,hpa];rfl),?_⟩;refine⟨G5,pa,s,rfl,s45.wd,hb.mono (s45.same wd),by lia,fun sa hsn hats G6 H6 v s6 hv6=>?_,fun hf G6 H6 s6=>?_⟩
   .obtain⟨p6,ds,rfl,⟨ad6,hp6,pc6⟩,hca,hdl⟩:=hv6;have s56:=s45.trans wd s6;have o6:=o5.call s6;have e56:=s6.same s45.wd;have hpl6:=bU pc6
    cb_eq
    refine yX o6.at_ (s56.wd.sub _ _ hp6) (by rw[aE,aE,hpl,hpl6];exact jH (cf (m:=50000) (by lia) (by decide))) ?_;have s7:=s56.put wd o6 (o':=.lst (ad.map V.ref++ad6.map V.ref));have o7:=o6.put_ (o':=.lst (ad.map V.ref++ad6.map V.ref))
    cb_eq
    have hsegs:iq s=TL (.one sa):=by rw[vj hsn hm,hats];rfl
    have hseg':dQ ps=TL (l++[.one sa]):=by
     rw[hti];exact yt hseg hsegs
    refine q _ hseg' _ _ _ (s7.sealO wd o7 aS) ⟨p,cs++ds,rfl,⟨ad++ad6,by rw[ax,cx],jV (cP (fun _ _ z=>(z.mono e56).mono (bx o7.g)) pc5) (cP (fun _ _ z=>z.mono (bx o7.g)) pc6)⟩,?_,by rw[bw];lia⟩;unfold iZ fk;rw[cx];have:=hdt [.one (slim sa)] (by simp[fh]);rw[show(l.map fm++[Seg.one sa].map fm)=l.map fm++[.one (slim sa)]from rfl,this];exact xk hcp (.lastOne hca)
   .refine qf (La hlast ?_) _ _ (s45.trans wd s6);rcases hf with hf|hf
    .rw[hf];exact vi
    .by_cases hsn:s=[]
     .rw[hsn];exact vi
     .rw[vj hsn hm,hf];rfl
noncomputable def lQ(keeps dirs anch:Bool)(m:aa):List (Str×V):=[("keeps",.bl keeps),("for_directories",.bl dirs),("anchored",.bl anch),("matcher",.ref m)]
def jj(A:Ad)(G:Hp)(p:aa)(r:cZ):Prop:=∃dx m cs,G p=TL (.ins A.pattern dx (lQ r.neg r.dirs r.anchored m))/\gk A.toCn G m cs/\iZ r.segs cs/\cs.length<=50000
theorem jj.mono{G G':Hp}{p:aa}{r:cZ}(e:bh G G')(h:jj A G p r):jj A G' p r:=by
 obtain⟨dx,m,cs,h1,h2,h3⟩:=h;exact⟨dx,m,cs,e _ _ h1,h2.mono e,h3⟩
theorem Sj{A:Cn}{C dx:aa}{a b c:Bool}{m:aa}:fU A (.ins C dx (lQ a b c m)):=uN (by show TL ("keeps":Str)≠TL "cells";decide +kernel)
def DA(A:Ad):Sp:=fun vs H Q _=>∃(G H1:Hp)(x dx lc:aa)(a b c:Bool)(cs:List MC),vs=[.ref x,.bl a,.bl b,.bl c,.ref lc]/\H=ah (ah H1 dx (.own x)) x (.ins A.pattern dx [])/\H1 x=J0/\H1 dx=J0/\dx≠x/\Wd A.toCn G H1/\gZ A.toCn G lc cs/\cs.length<=50000/\
 ∀G' H' m,Step A.toCn G H1 G' H'->gk A.toCn G' m cs->G' x=TL (.ins A.pattern dx (lQ a b c m))->Q .non H'
theorem Sv(T:aY K mg A):fE P w K mg base aW A.pattern "Pattern" 4 ["self","keeps","for_directories","anchored","cells"] (DA A):=by
 have sc:aV ["self","keeps","for_directories","anchored","cells"] ["self","keeps","for_directories","anchored","cells"] (aN Di):=bp;refine fE.of T.aa6 sc (fun vs H Q E h=>?_) (fun f cdv A0 outer s0 H vs Q E hr h=>?_)
 .obtain⟨_,_,_,_,_,_,_,_,_,rfl,_⟩:=h;rfl
 obtain⟨G,H1,x,dx,lc,a,b,c,cs,rfl,rfl,hx,hdx,hne,wd,hc,hl,q⟩:=h;have s1:Step A.toCn G H1 G (ah H1 dx (.own x)):=(Step.refl wd).new wd hdx;have hx1:ah H1 dx (.own x) x=none:=by rw[aO (br hne)];exact hx
 have s2:=s1.new wd hx1 (o:=.ins A.pattern dx []);have o2:=ar.make wd s1 hx1 (o:=.ins A.pattern dx [])
 refine⟨_,(aq (fj (pv 0) (pv 1) rfl)
   (aq (fj (pv 0) (pv 2) rfl)
   (aq (fj (pv 0) (pv 3) rfl)
   (au (fj (pv 0) (jY (So T) (hr.mono (by decide)) bB rfl (af (pv 4) ao)) rfl))))),?_⟩
 cb_eq
 refine fq o2.at_ T.Zl T.ZF (by decide) ?_;have s3:=s2.put wd o2 (o':=.ins A.pattern dx (bW "keeps" (.bl a) []));have o3:=o2.put_ (o':=.ins A.pattern dx (bW "keeps" (.bl a) []))
 cb_eq
 refine fq o3.at_ T.Zl T.ZL qc ?_;have s4:=s3.put wd o3 (o':=.ins A.pattern dx (bW "for_directories" (.bl b) (bW "keeps" (.bl a) [])));have o4:=o3.put_ (o':=.ins A.pattern dx (bW "for_directories" (.bl b) (bW "keeps" (.bl a) [])))
 cb_eq
 refine fq o4.at_ T.Zl T.ZU uF ?_;have s5:=s4.put wd o4 (o':=.ins A.pattern dx (bW "anchored" (.bl c) (bW "for_directories" (.bl b) (bW "keeps" (.bl a) []))));have o5:=o4.put_ (o':=.ins A.pattern dx (bW "anchored" (.bl c) (bW "for_directories" (.bl b) (bW "keeps" (.bl a) []))))
 cb_eq
 intro m dm hm hdm hnm;refine⟨G,_,m,dm,lc,cs,rfl,rfl,hm,hdm,hnm,s5.wd,hc,by lia,fun G6 H6 s6 hM=>⟨rfl,?_⟩⟩;have s56:=s5.trans wd s6;have o6:=o5.call s6
 cb_eq
 refine fq o6.at_ T.Zl T.ZM Rx ?_;have s7:=s56.put wd o6 (o':=.ins A.pattern dx (lQ a b c m));have o7:=o6.put_ (o':=.ins A.pattern dx (lQ a b c m));exact q _ _ m (s7.sealO wd o7 Sj) (hM.mono (bx o7.g)) ax
def XG(K:aw)(A:Ad):Sp:=fun vs H Q _=>∃(G:Hp)(a:aa)(s:ag),vs=[.ref a]/\Wd A.toCn G H/\BL K G a s/\cT A.toCn G H Q fun _ v=>v=.bl (decide (s=[]\/s.head?=TL 35))
theorem Tp(T:aY K mg A):Kn P w K mg base aW "says_nothing" 1 ["line"] (XG K A):=by
 have sc:aV ["line"] ["line"] (aN KM):=bp;refine Kn.of T.aaX sc (fun vs H Q E h=>?_) (fun f cdv A0 outer s0 H vs Q E hr h=>?_)
 .obtain⟨_,_,_,rfl,_⟩:=h;rfl
 obtain⟨G,a,s,rfl,wd,hs,q⟩:=h;have hu64:=hr.units;refine⟨_,(au (aL (Up (fN (mU hu64) (pv 0) (bt ao) (bq _)) (CA (fN eF (bP eX (pv 0) aB (fun _ _=>rfl)) (bC T.abu rfl) (bq _)))))),?_⟩
 cb_eq
 refine⟨by decide,fun p hp=>?_⟩;have s1:=(Step.refl wd).new wd hp (o:=.lst []);refine nk (ns:=bi s) (ms:=[]) (hs.mono s1.wd.sub).ints (ak.of ax) ?_
 cb_eq
 by_cases hne:s=[]
 .rw[show decide (bi s=[])=J1 from dT (by rw[hne];rfl)];simp only[if_true];exact q _ _ _ s1 (congrArg V.bl (dT (.inl hne)).symm)
 .rw[show decide (bi s=[])=J2 from dF (fun z=>hne ((jm (t:=[])).mp z))];simp only[aU,if_false];have h0:s[0]?=TL (s[0]'(fG.mpr hne)):=bO _;refine fB (k:=0) (hs.mono s1.wd.sub) (nW h0) ?_
  cb_eq
  refine q _ _ _ s1 (congrArg V.bl (decide_eq_decide.mpr ?_));rw[show s.head?=s[0]? from Nf,h0];constructor
  .intro z;exact .inr (congrArg TL (by rw[iW];exact jc z))
  .rintro(z|z)
   .exact J5 z hne
   .rw[dN z];rfl
def XC(K:aw)(A:Ad):Sp:=fun vs H Q E=>∃(G:Hp)(a:aa)(s:ag),vs=[.ref a]/\Wd A.toCn G H/\G a=TL (.lst (bv s))/\s.length<=10000/\
 (∀r,ot s=TL r->cT A.toCn G H Q fun G' v=>∃p,v=.ref p/\jj A G' p r)/\(ot s=J0->kl A G H E)
theorem Ym(s:ag)(c:UInt8):s.take 1=[c]↔s.head?=TL c:=by
 cases s with
 |nil=>simp
 |cons x r=>simp
theorem Pl(s:ag)(c:UInt8):s.drop (s.length-1)=[c]↔s.getLast?=TL c:=by
 by_cases h:s=[]
 .subst h;simp
 .obtain⟨t,x,rfl⟩:∃t x,s=t++[x]:=⟨s.dropLast,s.getLast h,(List.dropLast_concat_getLast h).symm⟩;rw[bw,dR,zO,Na (aF _),kq (aF _),nD,List.getLast?_append];simp
theorem xf(s:ag)(n:Nat):(bv s).drop n=bv (s.drop n):=by unfold bv;rw[zF]
theorem Gd(s:ag)(n:Nat):(bv s).take n=bv (s.take n):=by unfold bv;rw[vZ]
theorem Tj(T:aY K mg A):Kn P w K mg base (dz P w A.fault) "read_pattern" 9 ["line"] (XC K A):=by
 have sc:aV ["line","keeps","body","for_directories","anchored"] ["line"] (aN KH):=bp;refine Kn.ofF T.aaT sc (fun vs H Q E h=>?_) (fun f cdv A0 outer s0 H vs Q E hr h=>?_)
 .obtain⟨_,_,_,rfl,_⟩:=h;rfl
 obtain⟨G,a,s,rfl,wd,hs,hl,q,qf⟩:=h;have hu64:=hr.units;have hsB:BL K G a s:=eK hs
 have fin:∀(G1 H1:Hp)(b:aa)(body z:ag)(neg dirs:Bool),Step A.toCn G H G1 H1->G1 b=TL (.lst (bv z))->z.length<=20000->aG 47 z=gT body->neg=(s.head?==TL 33)->
   dirs=((if(s.head?==TL 33)=J1 then s.drop 1 else s).getLast?==TL 47)->body=(if dirs=J1 then(if neg=J1 then s.drop 1 else s).dropLast else(if neg=J1 then s.drop 1 else s))->
   DC K A [.ref b,.int 47] H1 (fun v H2=>DD K A [v] H2 (fun v' H3=>∀x dx,H3 x=J0->H3 dx=J0->dx≠x->DA A [.ref x,.bl neg,.bl dirs,.bl (body.contains 47),v'] (ah (ah H3 dx (.own x)) x (.ins A.pattern dx [])) (fun v H2=>v=.non/\Q (.ref x) H2) E0) E) E0:=by
  intro G1 H1 b body z neg dirs s1 hb hz hsp hneg hdirs hbody
  have hpat:ot s=(dQ (aG 47 z)).map fun l=>⟨neg,dirs,body.contains 47,l⟩:=by
   unfold ot;rw[Aw,hsp,hbody,hdirs,hneg]
  refine⟨G1,b,z,47,rfl,s1.wd,eK hb,by lia,fun G2 H2 v s2 hv=>?_⟩;obtain⟨p2,rfl,hrows⟩:=hv;have s12:=s1.trans wd s2;have hsl:=split_len 47 z;refine⟨G2,p2,aG 47 z,rfl,s12.wd,hrows,eZ 47 z,by lia,fun l hseg G3 H3 v s3 hv3=>?_,fun hf G3 H3 s3=>qf (by rw[hpat,hf];rfl) _ _ (s12.trans wd s3)⟩;obtain⟨p3,cs,rfl,hc,hco,hcl⟩:=hv3;have s13:=s12.trans wd s3;intro x dx hx hdx hne;refine⟨G3,H3,x,dx,p3,neg,dirs,body.contains 47,cs,rfl,rfl,hx,hdx,hne,s13.wd,hc,hcl,fun G4 H4 m s4 hM hp=>⟨rfl,?_⟩⟩;rw[hseg]at hpat;exact q _ hpat _ _ _ (s13.trans wd s4) ⟨x,rfl,dx,m,cs,hp,hM,hco,hcl⟩
 refine⟨_,(aq (pS 1 sc.nd (fN (mU hu64) (iU iV (pv 0) mX (gd aB)) (bt (af (bC T.ZW rfl) ao)) (bq _)))
   (aq (pS 2 sc.nd (Cz (dZ (pv 1)) (iU iV (pv 0) (gd aB) mX) (pv 0)))
   (aq (pS 3 sc.nd (fN (mU hu64) (iU iV (pv 2) (gd (gV gW aB)) mX) (bt (af (bC T.Zk rfl) ao)) (bq _)))
   (aq (bA (dZ (pv 3))
    (au (pS 2 sc.nd (iU iV (pv 2) mX (gd (gV gW aB)))))
    bG)
   (aq (pS 4 sc.nd (fN yc (bC T.Zk rfl) (pv 2) (by with_unfolding_all rfl)))
   (aq (bA (lS (dZ (pv 4)))
    (au (pS 2 sc.nd (bb sx (bt (af (bC T.Zt rfl) (af (bC T.Zt rfl) (af (bC T.Zk rfl) ao)))) (pv 2))))
    (au (bA (bL eF (bP eX (pv 2) aB (fun _ _=>rfl)) (bC T.Zk rfl) (bq _))
     (au (pS 2 sc.nd (iU iV (pv 2) (gd aB) mX)))
     bG)))
   (au (aL (jY (Sv T) (hr.mono (by decide)) bB rfl (af (pv 1) (af (pv 3) (af (pv 4) (af (iC (Td T) (hr.mono (by decide)) (jv fY) rfl (af (cF (IV T) hr (af (pv 2) (af (bC T.Zk rfl) ao))) ao)) ao))))))))))))),?_⟩
 cb_eq
 refine iX (ak.of (wd.sub _ _ hs)) fun p1 hp1=>?_;rw[show eB (bv s) J0 (TL 1)=bv (s.take 1) by rw[show(1:Int)=((1:Nat):Int)from rfl,Gv,Gd]];have s1:=(Step.refl wd).newI wd hp1 (o:=.lst (bv (s.take 1))) aS;refine⟨by decide,fun p2 hp2=>?_⟩;have s2:=s1.newI wd hp2 (o:=.lst [.int 33]) aS;have n12:=bx (o:=.lst [.int 33]) (s1.wd.noG hp2);have hb1:BL K (ah (ah H p1 (.lst (bv (s.take 1)))) p2 (.lst [.int 33])) p1 (s.take 1):=eK (s2.wd.sub _ _ (n12 _ _ ax));have hb2:BL K (ah (ah H p1 (.lst (bv (s.take 1)))) p2 (.lst [.int 33])) p2 [33]:=eK ax;refine nk hb1.ints hb2.ints ?_
 have hneg:decide (bi (s.take 1)=bi [33])=(s.head?==TL 33):=by
  rw[nu,decide_eq_true_iff,jm,Ym,beq_iff_eq]
 rw[hneg]
 cb_eq
 have mid:∀(G3 H3:Hp)(b:aa)(t:ag),Step A.toCn G H G3 H3->G3 b=TL (.lst (bv t))->t=(if(s.head?==TL 33)=J1 then s.drop 1 else s)->t.length<=10000->∀(R:VK),(∀(G5 H5:Hp),Step A.toCn G H G5 H5->bh G3 G5->R (.bl (t.getLast?==TL 47)) H5)->
   mZ K (.ref b) (TL (-1)) J0 H3 fun x H1=>1<=aZ/\∀p,H1 p=J0->yn K x (.ref p) (ah H1 p (.lst [.int 47])) R:=by
  intro G3 H3 b t s3 hb ht htl R hR;refine iX (ak.of (s3.wd.sub _ _ hb)) fun p4 hp4=>?_;rw[OS,cY,xf];have s4:=s3.newI wd hp4 (o:=.lst (bv (t.drop (t.length-1)))) aS;refine⟨by decide,fun p5 hp5=>?_⟩;have s5:=s4.newI wd hp5 (o:=.lst [.int 47]) aS;have n45:=bx (o:=.lst [.int 47]) (s4.wd.noG hp5);have hb4:BL K (ah (ah H3 p4 (.lst (bv (t.drop (t.length-1))))) p5 (.lst [.int 47])) p4 (t.drop (t.length-1)):=eK (s5.wd.sub _ _ (n45 _ _ ax));have hb5:BL K (ah (ah H3 p4 (.lst (bv (t.drop (t.length-1))))) p5 (.lst [.int 47])) p5 [47]:=eK ax;refine nk hb4.ints hb5.ints ?_
  have e:decide (bi (t.drop (t.length-1))=bi [47])=(t.getLast?==TL 47):=by
   rw[nu,decide_eq_true_iff,jm,Pl,beq_iff_eq]
  rw[e];exact hR _ _ s5 ((bx (s3.wd.noG hp4)).trans n45)
 let neg:=(s.head?==TL 33)
 let cont:=fun(x2:V)(x3:V)(z:V)(H1:Hp)=>DC K A [z,.int 47] H1 (fun v H2=>DD K A [v] H2 (fun v' H3=>∀x dx,H3 x=J0->H3 dx=J0->dx≠x->DA A [.ref x,.bl (s.head?==TL 33),x2,x3,v'] (ah (ah H3 dx (.own x)) x (.ins A.pattern dx [])) (fun v H2=>v=.non/\Q (.ref x) H2) E0) E) E0
 have tail:∀(G5 H5:Hp)(b:aa)(body:ag)(d:Bool),Step A.toCn G H G5 H5->G5 b=TL (.lst (bv body))->body.length<=10000->d=((if(s.head?==TL 33)=J1 then s.drop 1 else s).getLast?==TL 47)->
   body=(if d=J1 then(if(s.head?==TL 33)=J1 then s.drop 1 else s).dropLast else(if(s.head?==TL 33)=J1 then s.drop 1 else s))->
   qt K J2 (.int 47) (.ref b) H5 fun x3 H1=>∃k,x3=.bl k/\if(!k)=J1 then(3<=aZ/\∀p,H1 p=J0->vb (.ref p) (.ref b) (ah H1 p (.lst [.int 42,.int 42,.int 47])) fun x H1=>cont (.bl d) x3 x H1)
    else vc K (.ref b) (.int 0) H1 fun x4 H1=>oB x4 (.int 47) H1 fun x5 H'=>∃k,x5=.bl k/\if k=J1 then(mZ K (.ref b) (TL 1) J0 H' fun x H1=>cont (.bl d) x3 x H1)else cont (.bl d) x3 (.ref b) H':=by
  intro G5 H5 b body d s5 hb hbl hd hbody;refine yY (ak.of (s5.wd.sub _ _ hb)) rfl (AS body) ?_;have e47:=xE 47 body;rw[show(if J2=J1 then !gB (.int 47) (bv body)else gB (.int 47) (bv body))=body.contains 47 by rw[J3 (by decide)];show gB (.int ((47:UInt8).toNat:Int)) (bv body)=_;rw[e47,tj]];refine⟨_,rfl,?_⟩;by_cases hc:body.contains 47=J1
  .rw[hc];simp only[fc,aU,if_false];have hne:body≠[]:=fun z=>by rw[z]at hc;cases hc
   have h0:body[0]?=TL (body[0]'(fG.mpr hne)):=bO _;refine fB (k:=0) (ak.of (s5.wd.sub _ _ hb)) (nW h0) ?_;rw[JG];refine⟨_,rfl,?_⟩
   have hh:((body[0]'(fG.mpr hne)).toNat:Int)=47↔body.head?=TL 47:=by
    rw[show body.head?=body[0]? from Nf,h0];exact⟨fun z=>congrArg TL ((uc (k:=47) (by decide)).mp z),fun z=>by rw[dN z];rfl⟩
   by_cases h47:body.head?=TL 47
   .rw[dT (hh.mpr h47)];simp only[if_true];refine iX (ak.of (s5.wd.sub _ _ hb)) fun p6 hp6=>?_;rw[show eB (bv body) (TL 1) J0=bv (body.drop 1) by rw[show(1:Int)=((1:Nat):Int)from rfl,xo,xf]];have:=fin _ _ p6 body (body.drop 1) _ d (s5.newI wd hp6 (o:=.lst (bv (body.drop 1))) aS) ax (by rw[cM];lia) (by unfold gT;rw[J4 hc,J4 h47]) rfl hd hbody;rw[hc]at this;exact this
   .rw[dF (fun z=>h47 (hh.mp z))];simp only[aU,if_false];have:=fin _ _ b body body _ d s5 hb (by lia) (by unfold gT;rw[J4 hc,J3 h47]) rfl hd hbody;rw[hc]at this;exact this
  .have hc':body.contains 47=false:=by cases h:body.contains 47 with|false=>rfl|true=>exact J5 h hc
   rw[hc'];simp only[eJ,if_true];refine⟨by decide,fun p6 hp6=>?_⟩;have s6:=s5.newI wd hp6 (o:=.lst [.int 42,.int 42,.int 47]) aS;refine sU ax (s6.wd.sub _ _ (bx (s5.wd.noG hp6) _ _ hb)) (by rw[cY];exact jH (cf (m:=10003) (by show 3+body.length<=10003;lia) (by decide))) fun p7 hp7=>?_;have s7:=s6.newI wd hp7 (o:=.lst (bv (42::42::47::body))) aS;have:=fin _ _ p7 body (42::42::47::body) _ d s7 ax (by simp only[bH];lia) (by unfold gT;rw[J3 hc]) rfl hd hbody;rw[hc']at this;exact this
 have all:∀(G3 H3:Hp)(b:aa)(t:ag),Step A.toCn G H G3 H3->G3 b=TL (.lst (bv t))->t=(if(s.head?==TL 33)=J1 then s.drop 1 else s)->t.length<=10000->
   mZ K (.ref b) (TL (-1)) J0 H3 fun x1 H1=>1<=aZ/\∀p,H1 p=J0->yn K x1 (.ref p) (ah H1 p (.lst [.int 47])) fun x2 H1=>∃k,x2=.bl k/\if k=J1 then(mZ K (.ref b) J0 (TL (-1)) H1 fun x H1=>qt K J2 (.int 47) x H1 fun x3 H1=>∃k',x3=.bl k'/\if(!k')=J1 then(3<=aZ/\∀p,H1 p=J0->vb (.ref p) x (ah H1 p (.lst [.int 42,.int 42,.int 47])) fun x H1=>cont x2 x3 x H1)
    else vc K x (.int 0) H1 fun x4 H1=>oB x4 (.int 47) H1 fun x5 H'=>∃k',x5=.bl k'/\if k'=J1 then(mZ K x (TL 1) J0 H' fun x H1=>cont x2 x3 x H1)else cont x2 x3 x H')
    else(qt K J2 (.int 47) (.ref b) H1 fun x3 H1=>∃k',x3=.bl k'/\if(!k')=J1 then(3<=aZ/\∀p,H1 p=J0->vb (.ref p) (.ref b) (ah H1 p (.lst [.int 42,.int 42,.int 47])) fun x H1=>cont x2 x3 x H1)
    else vc K (.ref b) (.int 0) H1 fun x4 H1=>oB x4 (.int 47) H1 fun x5 H'=>∃k',x5=.bl k'/\if k'=J1 then(mZ K (.ref b) (TL 1) J0 H' fun x H1=>cont x2 x3 x H1)else cont x2 x3 (.ref b) H'):=by
  intro G3 H3 b t s3 hb ht htl;refine mid G3 H3 b t s3 hb ht htl _ fun G5 H5 s5 e35=>⟨_,rfl,?_⟩;by_cases hd:(t.getLast?==TL 47)=J1
  .rw[J4 hd];refine iX (ak.of (s5.wd.sub _ _ (e35 _ _ hb))) fun p6 hp6=>?_;rw[Gw,cY,Gd];have s6:=s5.newI wd hp6 (o:=.lst (bv (t.take (t.length-1)))) aS;exact tail _ _ p6 (t.take (t.length-1)) _ s6 ax (by rw[cQ];lia) (by rw[ht]) (by rw[J4 hd,<-ht,List.dropLast_eq_take])
  .rw[J3 hd];exact tail _ _ b t _ s5 (e35 _ _ hb) htl (by rw[ht]) (by rw[J3 hd,<-ht])
 by_cases hng:(s.head?==TL 33)=J1
 .rw[J4 hng];refine iX (ak.of (s2.wd.sub _ _ (s2.same wd _ _ hs))) fun p3 hp3=>?_;rw[show eB (bv s) (TL 1) J0=bv (s.drop 1) by rw[show(1:Int)=((1:Nat):Int)from rfl,xo,xf]];exact all _ _ p3 (s.drop 1) (s2.newI wd hp3 (o:=.lst (bv (s.drop 1))) aS) ax (by rw[J4 hng]) (by rw[cM];lia)
 .rw[J3 hng];exact all _ _ a s s2 (s2.same wd _ _ hs) (by rw[J3 hng]) hl
def Lz(K:aw)(A:Ad):Sp:=fun vs H Q E=>∃(G:Hp)(a:aa)(s:ag),vs=[.ref a]/\Wd A.toCn G H/\G a=TL (.lst (bv s))/\s.length<=10000/\
 (∀o,dG s=TL o->cT A.toCn G H Q fun G' v=>match o with|none=>v=.non|some r=>∃p,v=.ref p/\jj A G' p r)/\(dG s=J0->kl A G H E)
theorem BX(T:aY K mg A):Kn P w K mg base (dz P w A.fault) "read_line" 10 ["line"] (Lz K A):=by
 have sc:aV ["line"] ["line"] (aN KG):=bp;refine Kn.ofF T.aaS sc (fun vs H Q E h=>?_) (fun f cdv A0 outer s0 H vs Q E hr h=>?_)
 .obtain⟨_,_,_,rfl,_⟩:=h;rfl
 obtain⟨G,a,s,rfl,wd,hs,hl,q,qf⟩:=h
 refine⟨_,(aq (bA (dZ (cF (Tp T) hr (af (pv 0) ao)))
    (au (aL lR))
    bG)
   (au (aL (iC (Tj T) (hr.mono (by decide)) (jv fY) rfl (af (pv 0) ao))))),?_⟩
 cb_eq
 refine⟨G,a,s,rfl,wd,eK hs,fun G1 H1 v s1 hv=>?_⟩;subst hv
 cb_eq
 by_cases hn:s=[]\/s.head?=TL 35
 .rw[dT hn];simp only[if_true];exact q J0 (Bq hn) _ _ _ s1 rfl
 .rw[dF hn];simp only[aU,if_false];have hp:=Br hn;refine⟨G1,a,s,rfl,s1.wd,s1.same wd _ _ hs,hl,fun r hr G2 H2 v s2 hv=>?_,fun hf G2 H2 s2=>qf (by rw[hp,hf];rfl) _ _ (s1.trans wd s2)⟩;exact q (TL r) (by rw[hp,hr];rfl) _ _ _ (s1.trans wd s2) hv
theorem Cq{a b c:Bool}{m:aa}:(lQ a b c m).lookup ("keeps":Str)=TL (.bl a):=by rfl
theorem Jq{a b c:Bool}{m:aa}:(lQ a b c m).lookup ("for_directories":Str)=TL (.bl b):=by rfl
theorem TQ{a b c:Bool}{m:aa}:(lQ a b c m).lookup ("anchored":Str)=TL (.bl c):=by rfl
theorem TR{a b c:Bool}{m:aa}:(lQ a b c m).lookup ("matcher":Str)=TL (.ref m):=by rfl
def Xk(K:aw)(A:Ad):Sp:=fun vs H Q _=>∃(G:Hp)(p:aa)(r:cZ)(isDir:Bool)(a:aa)(s:ag),vs=[.ref p,.bl isDir,.ref a]/\Wd A.toCn G H/\jj A G p r/\BL K G a s/\s.length<=256/\nY s/\
 cT A.toCn G H Q fun G' v=>∃e,v=.ref e/\G' e=TL (.lst (iv (iR r isDir s)))
theorem mO{l:List Nat}{i:Nat}{v:V}(h:(iv l)[i]?=TL v):∃n:Nat,l[i]?=TL n/\v=.int n:=by
 obtain⟨n,h1,h2⟩:=eM h;exact⟨n,h1,h2⟩
theorem Pu(s:ag):(gM s).length<=s.length+1:=by
 unfold gM;have:=vm s 0;rw[bw,dR];lia
theorem RI(l:List Seg)(s:ag):(ic l s).length<=s.length+1:=by
 unfold ic;exact dM (pj _ _) (Pu s)
theorem IT(T:aY K mg A):Kn P w K mg base aW "matched_ends" 5 ["pattern","is_directory","rest"] (Xk K A):=by
 have sc:aV ["pattern","is_directory","rest","ends","end"] ["pattern","is_directory","rest"] (aN Kp):=bp;refine Kn.of T.aaB sc (fun vs H Q E h=>?_) (fun f cdv A0 outer s0 H vs Q E hr h=>?_)
 .obtain⟨_,_,_,_,_,_,rfl,_⟩:=h;rfl
 obtain⟨G,p,r,isDir,a,s,rfl,wd,⟨dx,m,cs,hp,hM,hco,hcl⟩,hs,hsl,hg,q⟩:=h;obtain⟨dm,lc,opt,dd,hm,hc,ho⟩:=hM;have hM:gk A.toCn G m cs:=⟨dm,lc,opt,dd,hm,hc,ho⟩
 refine⟨_,(aq (pS 3 sc.nd (ik (bN (pv 0) rfl) T.Zg (Sr T) (hr.mono (by decide)) bB (af (pv 2) ao)))
   (aq (bA (PW.pt (uZ (dZ (bN (pv 0) rfl)) (va (lS (dZ (pv 1))))))
    (au (aL (ij rfl sc.nd (dw (pv 3)) (own:=[("end",4)]) (fI (by kernel_rfl)) (fun _ _ _ _ _=>by exact(gN 4 sc.nd)) (fun _ _ _ _ _=>by exact(oA (bL qk (pv 4) (jX (AK (K:=K) rfl) (by rfl) T.Ze Ai (af (pv 2) ao)) (bq _)))) (fun _ _ _ _ _=>by exact(pv 4)))))
    bG)
   (au (aL (pv 3))))),?_⟩
 cb_eq
 refine bz (wd.sub _ _ hp) T.Zl T.ZM TR ?_;refine eO (wd.sub _ _ hm) RF ?_;refine⟨G,m,cs,r.segs,a,s,rfl,wd,hM,by lia,hco,hs,hsl,hg,fun G1 H1 v s1 hv=>?_⟩;obtain⟨e,rfl,he⟩:=hv
 cb_eq
 refine bz (s1.wd.sub _ _ (s1.same wd _ _ hp)) T.Zl T.ZL Jq ?_
 cb_eq
 by_cases hd:r.dirs=J1/\isDir=J2
 .rw[J4 hd.1,hd.2];simp only[eJ,if_true];refine gY (ak.of (s1.wd.sub _ _ he)) (fun D i H'=>∃G2,Step A.toCn G H G2 H'/\bh G1 G2/\ar A.toCn H G2 H' D (.lst (iv (((ic r.segs s).take i).filter fun n=>decide (n<s.length))))) ?_ ?_ ?_ ?_
  .intro D hD;exact⟨G1,s1.new wd hD,bh.refl _,ar.make wd s1 hD⟩
  .rintro D i H' _ ⟨G2,s2,e12,_⟩;exact ak.of (s2.wd.sub _ _ (e12 _ _ he))
  .rintro D i x H' hx ⟨G2,s2,e12,o2⟩;obtain⟨n,hn,rfl⟩:=mO hx
   cb_eq
   refine cy ((hs.mono (s2.same wd)).mono s2.wd.sub) ?_
   cb_eq
   rw[cY];rw[PM.take_snoc hn,qN];have hml:=RI r.segs s;by_cases hlt:n<s.length
   .rw[dT (by lia)];simp only[if_true];refine⟨_,o2.at_,?_,G2,s2.put wd o2,e12,?_⟩
    .rw[dO];have h1:=pj (fun n=>decide (n<s.length)) ((ic r.segs s).take i);rw[cQ]at h1;exact cf (m:=257) (by lia) (by decide)
    .rw[kZ,J4 (by simpa using hlt),pf,<-iA];exact o2.put_
   .rw[dF (by lia)];simp only[aU,if_false];refine⟨G2,s2,e12,?_⟩;rw[kZ,J3 (by simpa using hlt),pf,cD];exact o2
  .rintro D H' ⟨G2,s2,e12,o2⟩;rw[dO,cv]at o2
   cb_eq
   refine q _ _ _ (s2.sealO wd o2 aS) ⟨D,rfl,?_⟩;rw[ax];unfold iR;rw[J4 hd]
 .have fin:Q (.ref e) H1:=q _ _ _ s1 ⟨e,rfl,by rw[he];unfold iR;rw[J3 hd]⟩;cases hrd:r.dirs with
  |false=>
   simp only[aU,if_false];exact fin
  |true=>
   simp only[if_true];cases isDir with
   |true=>
    simp only[fc,aU,if_false];exact fin
   |false=>exact J5 ⟨hrd,rfl⟩ hd
def Xl(K:aw)(A:Ad):Sp:=fun vs H Q _=>∃(G:Hp)(p:aa)(r:cZ)(isDir:Bool)(a:aa)(s:ag),vs=[.ref p,.bl isDir,.ref a]/\Wd A.toCn G H/\jj A G p r/\BL K G a s/\s.length<=256/\nY s/\
 cT A.toCn G H Q fun _ v=>v=.bl (kN r [] (aG 47 s) isDir)
theorem Qo(n:Nat)(l:List Nat):gB (.int (n:Int)) (iv l)=decide (n∈l):=by
 unfold gB iv;rw[vV];by_cases h:n∈l
 .rw[dT h,oY];exact⟨n,h,by show(((n:Nat):Int)==(n:Nat))=J1;simp⟩
 .rw[dF h,vU];intro d hd z;have z:(((d:Nat):Int)==(n:Nat))=true:=z;have z:d=n:=jc (eq_of_beq z);exact h (z▸hd)
theorem PQ(l:List Nat):(iv l).all iT=true:=by
 rw[gG];intro v hv;obtain⟨c,_,rfl⟩:=bS.mp hv;rfl
theorem PN{r:cZ}{isDir:Bool}{s:ag}(hg:nY s):s.length∈iR r isDir s↔kN r [] (aG 47 s) isDir=true:=by
 have e:=lX s;have h1:=xT (r:=r) (isDir:=isDir) (e:=s.length) (show ck (aG 47 s)from hg);rw[e]at h1;rw[h1,vf];have hl:cB (aG 47 s) (aG 47 s).length=s.length:=by rw[ui,e]
 have hpos:0<(aG 47 s).length:=fG.mpr hg.1;constructor
 .rintro⟨j,h0,hj,he,hd,hm⟩;have:=GO h0 hj hpos (aF _) (by rw[hl,<-he]);subst this;rw[cv]at hm;exact⟨_,rfl,hg.1,hd.imp id (fun z=>by rw[uh]at z;exact z),hm⟩
 .rintro⟨q,h1,h2,h3,h4⟩;rw[nD]at h1;subst h1;exact⟨_,hpos,aF _,hl.symm,h3.imp id (fun z=>by rw[uh];exact z),by rw[cv];exact h4⟩
theorem Tb(T:aY K mg A):Kn P w K mg base aW "matches" 6 ["pattern","is_directory","path"] (Xl K A):=by
 have sc:aV ["pattern","is_directory","path"] ["pattern","is_directory","path"] (aN Kq):=bp;refine Kn.of T.aaC sc (fun vs H Q E h=>?_) (fun f cdv A0 outer s0 H vs Q E hr h=>?_)
 .obtain⟨_,_,_,_,_,_,rfl,_⟩:=h;rfl
 obtain⟨G,p,r,isDir,a,s,rfl,wd,hP,hs,hsl,hg,q⟩:=h;refine⟨_,(au (aL (fN yc (cL T.Ze (pv 2)) (cF (IT T) hr (af (pv 0) (af (pv 1) (af (pv 2) ao)))) (by with_unfolding_all rfl)))),?_⟩
 cb_eq
 refine cy (hs.mono wd.sub) ?_;rw[cY];refine⟨G,p,r,isDir,a,s,rfl,wd,hP,hs,hsl,hg,fun G1 H1 v s1 hv=>?_⟩;obtain⟨e,rfl,he⟩:=hv;refine yY (ak.of (s1.wd.sub _ _ he)) rfl (PQ _) (q _ _ _ s1 (congrArg V.bl ?_));rw[J3 (by decide),Qo,nu,decide_eq_true_iff];exact PN hg
noncomputable def jx(ld:aa)(n:Nat)(ll:aa):List (Str×V):=[("directory",.ref ld),("size",.int n),("lines",.ref ll)]
def jd(A:Ad)(G:Hp)(v:V)(s:ag):Prop:=match dG s with
 |none=>False
 |some J0=>v=.non
 |some (TL r)=>∃p,v=.ref p/\jj A G p r
structure pC(A:Ad)(G:Hp)(p:aa)(l:bE)(dx ld ll:aa)(vs:List V):Prop where
 at_:G p=TL (.ins A.plist dx (jx ld ((aD l.dir).length+l.text.length) ll))
 dir:G ld=TL (.lst (bv (aD l.dir)))
 lines:G ll=TL (.lst vs)
 each:bK (jd A G) vs (linesOf l.text)
 ok:oP l.dir
 dlen:(aD l.dir).length<=256
 tlen:l.text.length<=512
theorem jd.mono{G G':Hp}(e:bh G G'){v:V}{s:ag}(h:jd A G v s):jd A G' v s:=by
 unfold jd at h⊢;split at h
 .exact h
 .exact h
 .obtain⟨p,h1,h2⟩:=h;exact⟨p,h1,h2.mono e⟩
theorem pC.mono{G G':Hp}(e:bh G G'){p:aa}{l:bE}{dx ld ll:aa}{vs:List V}(h:pC A G p l dx ld ll vs):pC A G' p l dx ld ll vs:=
 ⟨e _ _ h.at_,e _ _ h.dir,e _ _ h.lines,cP (fun _ _ z=>z.mono e) h.each,h.ok,h.dlen,h.tlen⟩
theorem CB{ld ll:aa}{n:Nat}:(jx ld n ll).lookup ("directory":Str)=TL (.ref ld):=by rfl
theorem Uv{ld ll:aa}{n:Nat}:(jx ld n ll).lookup ("size":Str)=TL (.int n):=by rfl
theorem CC{ld ll:aa}{n:Nat}:(jx ld n ll).lookup ("lines":Str)=TL (.ref ll):=by rfl
structure iH(G:Hp)(kvs:List (aP×V))(g:jD):Prop where
 nd:(kvs.map (·.1)).Nodup
 key:∀k∈kvs.map (·.1),∃E:Nat,E<=300/\k=bZ (E:Int)
 at_:∀E:Nat,(g E=J0/\cj kvs (bZ (E:Int))=J0)\/∃(i n:Nat)(b:Bool)(t:aa),g E=TL (i,n,b)/\cj kvs (bZ (E:Int))=TL (.ref t)/\G t=TL (.tup [.int i,.int n,.bl b])
theorem iH.mono{G G':Hp}{kvs:List (aP×V)}{g:jD}(e:bh G G')(h:iH G kvs g):iH G' kvs g:=
 ⟨h.nd,h.key,fun E=>(h.at_ E).imp id fun⟨i,n,b,t,h1,h2,h3⟩=>⟨i,n,b,t,h1,h2,e _ _ h3⟩⟩
theorem iH.len{G:Hp}{kvs:List (aP×V)}{g:jD}(h:iH G kvs g):kvs.length<=301:=by
 have h2:=lO 301 ((kvs.map (·.1)).map fun(k:aP)=>match k with|.inl i=>i.toNat|.inr _=>0) ?_ ?_
 .rw[aE,aE]at h2;exact h2
 .refine lh.mpr (tf ?_ h.nd);intro a b ha hb hne q;obtain⟨c,_,rfl⟩:=h.key a ha;obtain⟨d,_,rfl⟩:=h.key b hb;have q:((c:Int)).toNat=((d:Int)).toNat:=q;rw[fD,fD]at q;exact hne (by rw[q])
 .intro x hx;obtain⟨k,hk,rfl⟩:=bS.mp hx;obtain⟨c,hc,rfl⟩:=h.key k hk;show(c:Int).toNat<301;lia
theorem UB{kvs:List (aP×V)}{k:aP}{v:V}{x:aP}(h:x∈(dr kvs k v).map (·.1)):x=k\/x∈kvs.map (·.1):=by
 cases e:cj (dr kvs k v) x with
 |none=>exact J5 h (Ec e)
 |some y=>
  rw[yP]at e;split at e
  .next z=>exact .inl z
  .exact .inr (YE e)
theorem iH.put{G:Hp}{kvs:List (aP×V)}{g:jD}(h:iH G kvs g){E i n:Nat}{b:Bool}{t:aa}(hE:E<=300)(ht:G t=TL (.tup [.int i,.int n,.bl b])):iH G (dr kvs (bZ (E:Int)) (.ref t)) (fun E'=>if E'=E then TL (i,n,b)else g E') where
 nd:=IH _ h.nd
 key k hk:=by
  rcases UB hk with z|z
  .exact⟨E,hE,z⟩
  .exact h.key k z
 at_ E':=by
  rw[yP];by_cases z:E'=E
  .subst z;exact .inr ⟨i,n,b,t,by rw[J4 rfl],by rw[J4 rfl],ht⟩
  .have hk: ¬((bZ (E':Int):aP)=bZ (E:Int)):=fun y=>z (by injection y with y;exact jc y);rw[J3 hk];show(((if E'=E then TL (i,n,b)else g E')=J0/\_)\/∃(i' n':Nat)(b':Bool)(t':aa),(if E'=E then TL (i,n,b)else g E')=TL (i',n',b')/\_);rw[J3 z];exact h.at_ E'
theorem ar.open_{A:Cn}{G He G1 H1:Hp}(wd:Wd A G He)(s:Step A G He G1 H1){q:aa}{o:HO}(x:ar A He G1 H1 q o):∃H0,H1=ah H0 q o/\H0 q=J0/\Step A G He G1 H0:=by
 refine⟨fun b=>if b=q then J0 else H1 b,?_,J4 rfl,⟨⟨fun b u e=>?_,fun m dx lc opt dd e=>?_,s.wd.inj,?_⟩,s.grow,fun b u e h=>?_,s.newc⟩⟩
 .funext b
  unfold ah;by_cases z:b=q
  .rw[J4 z,z];exact x.at_
  .rw[J3 z];show _=(if b=q then J0 else H1 b);rw[J3 z]
 .have z:b≠q:=fun z=>by rw[z,x.g]at e;cases e
  show(if b=q then J0 else H1 b)=TL u;rw[J3 z];exact s.wd.sub b u e
 .obtain⟨h1,kvs,cs,h2,h3,h4⟩:=s.wd.cach m dx lc opt dd e;have z:dd≠q:=fun z=>x.nc (.inr ⟨m,dx,lc,opt,by rw[<-z];exact e⟩);exact⟨h1,kvs,cs,by show(if dd=q then J0 else H1 dd)=_;rw[J3 z];exact h2,h3,h4⟩
 .obtain⟨h1,ps,h2,h3⟩:=s.wd.tab;have z:A.tab≠q:=fun z=>x.nc (.inl z.symm);exact⟨h1,ps,by show(if A.tab=q then J0 else H1 A.tab)=_;rw[J3 z];exact h2,h3⟩
 .have z:b≠q:=fun z=>by rw[z,x.new]at e;cases e
  show(if b=q then J0 else H1 b)=TL u;rw[J3 z];exact s.keep b u e h
def WS(K:aw)(A:Ad):Sp:=fun vs H Q _=>∃(G H0:Hp)(dc pl a:aa)(kvs:List (aP×V))(ls:List bE)(i:Nat)(l:bE)(q:bj)(isDir:Bool)(done:Nat->Nat->Prop)(g:jD)(dx ld ll:aa)(lv:List V),
 vs=[.ref dc,.int i,.ref pl,.bl isDir,.ref a]/\H=ah H0 dc (.dK kvs)/\H0 dc=J0/\Wd A.toCn G H0/\pC A G pl l dx ld ll lv/\ls[i]?=TL l/\q≠[]/\ck (l.dir++q)/\BL K G a (aD (l.dir++q))/\(aD (l.dir++q)).length<=256/\
 iH G kvs g/\kU ls (l.dir++q) isDir done g/\(∀n i' n',done i' n'-> ¬gj (gL ls i,i,n) (gL ls i',i',n'))/\
 ∀G' H' kvs' g',Step A.toCn G H0 G' H'->ar A.toCn H0 G' H' dc (.dK kvs')->iH G' kvs' g'->kU ls (l.dir++q) isDir (fun i' n'=>done i' n'\/(i'=i/\∃r,kC ls i n' l r)) g'->Q .non H'
theorem Pt{r:cZ}{isDir:Bool}{q:bj}(hq:ck q){e:Nat}(h:e∈iR r isDir (aD q)):e<=(aD q).length:=by
 obtain⟨j,h0,hj,rfl,_⟩:=(xT hq).mp h;have:=DW h0 hj;have h2:=congrArg eh this;rw[cQ]at h2;unfold cB;lia
theorem Rb(x:ag):(linesOf x).length<=x.length+1:=by
 have:=split_len 10 x;show(aG 10 x).length<=_;lia
theorem SL(T:aY K mg A):Kn P w K mg base aW "choose_lines" 6 ["chosen","number","pattern_list","is_directory","path"] (WS K A):=by
 have sc:aV ["chosen","number","pattern_list","is_directory","path","start","rest","index","pattern","end"] ["chosen","number","pattern_list","is_directory","path"] (aN JY):=bp;refine Kn.of T.aak sc (fun vs H Q E h=>?_) (fun f cdv A0 outer s0 H vs Q E hr h=>?_)
 .obtain⟨_,_,_,_,_,_,_,_,_,_,_,_,_,_,_,_,_,rfl,_⟩:=h;rfl
 obtain⟨G,H0,dc,pl,a,kvs,ls,i,l,q,isDir,done,g,dx,ld,ll,lv,rfl,rfl,hdc,wd,hPL,hli,hq,hgp,hs,hsl,hDi,hBe,hno,fin⟩:=h;have hu:=mL hr;have s1:=(Step.refl wd).new wd hdc (o:=.dK kvs);have o1:=ar.make wd (Step.refl wd) hdc (o:=.dK kvs)
 have hgq:ck q:=by
  have:=hgp.drop (k:=l.dir.length) (by rw[bw];have:=fG.mpr hq;lia);rw[Na (aF _),kq (aF _),nD]at this;exact this
 have hdrop:=Pn (q:=q) hPL.ok hq;have hstart:gD (aD l.dir).length<=257:=by unfold gD;have:=hPL.dlen;split<;>lia
 refine⟨_,(aq (pS 5 sc.nd (cL T.Ze (bN (pv 2) rfl)))
   (aq (bA (bL mV (pv 5) aB (bq _))
    (au (pS 5 sc.nd (bb dX (pv 5) aB)))
    bG)
   (aq (pS 6 sc.nd (iU iV (pv 4) (gd (pv 5)) mX))
   (au (gf ff rfl (oy rfl T.Zo (af (bN (pv 2) rfl) ao)) (ou rfl (ip (gN 7 sc.nd) (ip (gN 8 sc.nd) ow)))
    (au (bA (bL Cd (pv 8) lR (bq _))
     (au (gf ff rfl (dw (cF (IT T) hr (af (pv 8) (af (pv 3) (af (pv 6) ao))))) (gN 9 sc.nd)
      (au (yj hu (pv 0) (bb dX (pv 5) (pv 9)) (dY (af (pv 1) (af (bb dX (pv 7) aB) (af (bN (pv 8) rfl) ao)))) rfl))))
     bG))))))),?_⟩
 cb_eq
 refine bz (s1.wd.sub _ _ hPL.at_) T.Zm T.ZD CB ?_;refine cy (ak.of (s1.wd.sub _ _ hPL.dir)) ?_;rw[cY]
 cb_eq
 have main:∀st:Nat,st=gD (aD l.dir).length->∀(R:VK),(∀(G2 H2:Hp)(p2:aa),Step A.toCn G H0 G2 H2->ar A.toCn H0 G2 H2 dc (.dK kvs)->G2 p2=TL (.lst (bv (aD q)))->bh G G2->R (.ref p2) H2)->mZ K (.ref a) (TL (st:Int)) J0 (ah H0 dc (.dK kvs)) R:=by
  intro st hst R hR;refine iX (hs.mono s1.wd.sub) fun p2 hp2=>?_;rw[xo,xf,hst,hdrop];exact hR _ _ p2 (s1.newI wd hp2 aS) (o1.newI s1.wd hp2 aS) ax (bx (s1.wd.noG hp2))
 have hst1:0<(aD l.dir).length->(aD l.dir).length+1=gD (aD l.dir).length:=fun z=>by unfold gD;rw[J4 z]
 have hst2: ¬0<(aD l.dir).length->(aD l.dir).length=gD (aD l.dir).length:=fun z=>by unfold gD;rw[J3 z]
 by_cases hz:0<(aD l.dir).length
 case' pos=>
  rw[dT (by lia:(0:Int)<((aD l.dir).length:Nat))];simp only[if_true];rw[jT,hst1 hz]
 case' neg=>
  rw[dF (by lia: ¬(0:Int)<((aD l.dir).length:Nat))];simp only[aU,if_false];rw[show(((aD l.dir).length:Nat):Int)=((gD (aD l.dir).length:Nat):Int)from congrArg Int.ofNat (hst2 hz)]
 all_goals
  clear hst1 hst2 hz;refine main _ rfl _ fun G2 H2 p2 s2 o2 hp2 e02=>?_;generalize hst:gD (aD l.dir).length=st at*
  cb_eq
  have hPL2:=hPL.mono e02;refine bz (s2.wd.sub _ _ hPL2.at_) T.Zm T.ZE CC ?_
  refine qB (ak.of (s2.wd.sub _ _ hPL2.lines)) (fun j σ H'=>∃(x7 x8 x9:Option V)(G3:Hp)(kvs3:List (aP×V))(g3:jD),σ=[TL (.ref dc),TL (.int i),TL (.ref pl),TL (.bl isDir),TL (.ref a),TL (.int (st:Int)),TL (.ref p2),x7,x8,x9]/\Step A.toCn G H0 G3 H'/\ar A.toCn H0 G3 H' dc (.dK kvs3)/\bh G2 G3/\iH G3 kvs3 g3/\
    kU ls (l.dir++q) isDir (fun i' n'=>done i' n'\/(i'=i/\n'<=j/\∃r,kC ls i n' l r)) g3) ?_ ?_ ?_ ?_
  .refine⟨J0,J0,J0,G2,kvs,g,rfl,s2,o2,bh.refl _,hDi.mono e02,pQ hBe (fun _ _ z=>.inl z) ?_⟩;rintro i' n' k _ _ (z|⟨_,z,r,_,s',z2,_⟩) _
   .exact z
   .lia
  .rintro j σ H' _ ⟨_,_,_,G3,_,_,_,s3,_,e23,_⟩;exact ak.of (s3.wd.sub _ _ (e23 _ _ hPL2.lines))
  .rintro j v σ H' T0 hv ⟨x7,x8,x9,G3,kvs3,g3,rfl,s3,o3,e23,hD3,hB3⟩ hT;obtain⟨s,hsj,hLi⟩:=dP hPL2.each hv;have s4:=s3.new wd hT (o:=.tup [.int (j:Nat),v]);have o4:=o3.new_ hT (o':=.tup [.int (j:Nat),v]);have hLi:=hLi.mono e23
   cb_eq
   unfold jd at hLi;cases hlo:dG s with
   |none=>rw[hlo]at hLi;exact hLi.elim
   |some o=>
    cases o with
    |none=>
     rw[hlo]at hLi;have hLi:v=.non:=hLi;subst hLi;simp only[decide_true,fc,aU,if_false];refine⟨_,_,_,G3,kvs3,g3,rfl,s4,o4,e23,hD3,pQ hB3 ?_ ?_⟩
     .rintro i' n' (z|⟨z,z1,z2⟩)
      .exact .inl z
      .exact .inr ⟨z,by lia,z2⟩
     .rintro i' n' k _ _ (z|⟨z,z1,r,z2⟩) _
      .exact .inl z
      .refine .inr ⟨z,?_,r,z2⟩;by_cases e:n'=j+1
       .subst e;obtain⟨_,s',h1,h2,h3⟩:=z2;rw[zO,hsj]at h2;cases h2;unfold yp at h3;rw[hlo]at h3;cases h3
       .lia
    |some r=>
     rw[hlo]at hLi;obtain⟨pp,rfl,hP⟩:=hLi;rw[show decide (V.ref pp=V.non)=J2 from dF (fun z=>by cases z)];simp only[eJ,if_true];have hRA:kC ls i (j+1) l r:=⟨hli,s,by lia,by rw[zO];exact hsj,by unfold yp;rw[hlo];rfl⟩
     have hgt:nY (aD q):=by
      unfold nY;rw[hgq.split];exact hgq
     have hql:(aD q).length<=256:=by
      rw[<-hdrop,cM];lia
     refine⟨G3,pp,r,isDir,p2,aD q,rfl,s4.wd,hP,eK (e23 _ _ hp2),hql,hgt,fun G5 H5 v5 s5 hv5=>?_⟩;obtain⟨pe,rfl,hpe⟩:=hv5;have s45:=s4.trans wd s5;have o5:=o4.call s5;have e35:=s5.same s4.wd;obtain⟨dp,mp,cs,hpat,_⟩:=hP
     refine kh (ak.of (s5.wd.sub _ _ hpe)) (fun k σ H'=>∃(x9:Option V)(G6:Hp)(kvs6:List (aP×V))(g6:jD),σ=[TL (.ref dc),TL (.int i),TL (.ref pl),TL (.bl isDir),TL (.ref a),TL (.int (st:Int)),TL (.ref p2),TL (.int (j:Int)),TL (.ref pp),x9]/\Step A.toCn G H0 G6 H'/\ar A.toCn H0 G6 H' dc (.dK kvs6)/\bh G5 G6/\iH G6 kvs6 g6/\
       (∀E,(∃e,e∈(iR r isDir (aD q)).take k/\E=st+e)->g6 E=TL (i,j+1,r.neg))/\∀E,¬(∃e,e∈(iR r isDir (aD q)).take k/\E=st+e)->g6 E=g3 E) ?_ ?_ ?_ ?_
     .refine⟨_,G5,kvs3,g3,rfl,s45,o5,bh.refl _,hD3.mono e35,fun E⟨e,h,_⟩=>?_,fun E _=>rfl⟩;rw[eR]at h;cases h
     .rintro k σ H' _ ⟨_,G6,_,_,_,s6,_,e56,_⟩;exact ak.of (s6.wd.sub _ _ (e56 _ _ hpe))
     .rintro k x σ H' hx ⟨x9',G6,kvs6,g6,rfl,s6,o6,e56,hD6,hg1,hg2⟩;obtain⟨e,he,rfl⟩:=mO hx
      cb_eq
      have ee:bh G3 G6:=e35.trans e56;refine bz (s6.wd.sub _ _ (ee _ _ hpat)) T.Zl T.ZF Cq ?_;rw[jT];refine⟨by decide,fun t ht=>?_⟩;have s7:=s6.newI wd ht (o:=.tup [.int (i:Int),.int ((j+1:Nat):Int),.bl r.neg]) dh;have o7:=o6.newI s6.wd ht (o':=.tup [.int (i:Int),.int ((j+1:Nat):Int),.bl r.neg]) dh;have n67:=bx (o:=.tup [.int (i:Int),.int ((j+1:Nat):Int),.bl r.neg]) (s6.wd.noG ht);have hmem:e∈iR r isDir (aD q):=du he;have hel:=Pt hgq hmem
      have htot:st+e<=300:=by
       have h1:=congrArg eh hdrop;rw[cM]at h1;lia
      rw[show(st:Int)+(e:Int)=((st+e:Nat):Int) by lia];refine Ek (k:=bZ ((st+e:Nat):Int)) o7.at_ (cf (hD6.mono n67).len (by decide)) ?_;have hD7:=(hD6.mono n67).put (E:=st+e) (i:=i) (n:=j+1) (b:=r.neg) (t:=t) htot ax;refine⟨_,_,_,_,rfl,s7.put wd o7,o7.put_,e56.trans n67,hD7,?_,?_⟩
      .rintro E ⟨e',h1,rfl⟩;by_cases z:st+e'=st+e
       .rw[J4 z]
       .rw[J3 z];rw[PM.take_snoc he]at h1;rcases cn.mp h1 with h1|h1
        .exact hg1 _ ⟨e',h1,rfl⟩
        .exact J5 (by rw[cE.mp h1]) z
      .intro E h1;have z: ¬E=st+e:=fun z=>h1 ⟨e,by rw[PM.take_snoc he];simp,z⟩;rw[J3 z];exact hg2 _ fun⟨e',h2,h3⟩=>h1 ⟨e',by rw[PM.take_snoc he];exact cW _ h2,h3⟩
     .rintro σ H' ⟨x9',G6,kvs6,g6,rfl,s6,o6,e56,hD6,hg1,hg2⟩;rw[dO,cv]at hg1 hg2;have hB6:=Og hRA rfl hPL.ok hgp hq hB3 ?_ (by rw[hst];exact hg1) (by rw[hst];exact hg2)
      .refine⟨_,_,_,G6,kvs6,g6,rfl,s6,o6,e23.trans (e35.trans e56),hD6,pQ hB6 ?_ ?_⟩
       .rintro i' n' ((z|⟨z,z1,z2⟩)|⟨z,z1⟩)
        .exact .inl z
        .exact .inr ⟨z,by lia,z2⟩
        .exact .inr ⟨z,by lia,r,by rw[z1];exact hRA⟩
       .rintro i' n' k _ _ (z|⟨z,z1,r',z2⟩) _
        .exact .inl (.inl z)
        .by_cases e:n'=j+1
         .exact .inr ⟨z,e⟩
         .exact .inl (.inr ⟨z,by lia,r',z2⟩)
      .rintro i' n' (z|⟨rfl,z1,_⟩)
       .exact hno _ _ _ z
       .unfold gj;simp only[gI,true_and,false_or];lia
  .rintro σ H' ⟨x7,x8,x9,G3,kvs3,g3,rfl,s3,o3,e23,hD3,hB3⟩;refine fin _ _ kvs3 g3 s3 o3 hD3 (pQ hB3 ?_ ?_)
   .rintro i' n' (z|⟨z,_,z2⟩)
    .exact .inl z
    .exact .inr ⟨z,z2⟩
   .rintro i' n' k _ _ (z|⟨z,r,z2⟩) _
    .exact .inl z
    .refine .inr ⟨z,?_,r,z2⟩;obtain⟨_,s',h1,h2,_⟩:=z2;have:=(aK.mp h2).1;rw[bU hPL2.each];lia
def lj(A:Ad)(G:Hp)(as:List aa)(ls:List bE):Prop:=bK (fun p l=>∃dx ld ll lv,pC A G p l dx ld ll lv) as ls
theorem lj.mono{G G':Hp}(e:bh G G'){as:List aa}{ls:List bE}(h:lj A G as ls):lj A G' as ls:=cP (fun _ _⟨dx,ld,ll,lv,z⟩=>⟨dx,ld,ll,lv,z.mono e⟩) h
theorem Step.keepL{A:Cn}{G H G1 H1:Hp}(wd:Wd A G H)(s:Step A G H G1 H1){a:aa}{xs:List V}(h:H a=TL (.lst xs)):H1 a=TL (.lst xs):=s.keep a _ h (wd.notL h fun _ z=>by cases z)
def Lx(K:aw)(A:Ad):Sp:=fun vs H Q _=>∃(G:Hp)(la:aa)(as:List aa)(ls:List bE)(isDir:Bool)(a:aa)(p:bj),vs=[.ref la,.bl isDir,.ref a]/\Wd A.toCn G H/\H la=TL (.lst (as.map V.ref))/\lj A G as ls/\ls.length<=16/\ck p/\BL K G a (aD p)/\(aD p).length<=256/\
 ∀G' H' dc kvs g,Step A.toCn G H G' H'->ar A.toCn H G' H' dc (.dK kvs)->iH G' kvs g->(∀k,0<k->k<=p.length->g (cB p k)=(fL ls (p.take k) (eW p isDir k)).map fun x=>(x.1,x.2,negAt ls x.1 x.2))->Q (.ref dc) H'
noncomputable def Ao(x:Nat×Nat×Nat):List V:=if x.1=0 then [.int 0]else [.int (x.1:Int),.int (x.2.1:Int),.int (x.2.2:Int)]
def Lv(K:aw)(A:Ad):Sp:=fun vs H Q _=>∃(G:Hp)(la:aa)(as:List aa)(ls:List bE)(isDir:Bool)(a:aa)(p:bj),vs=[.ref la,.bl isDir,.ref a]/\Wd A.toCn G H/\H la=TL (.lst (as.map V.ref))/\lj A G as ls/\ls.length<=16/\ck p/\BL K G a (aD p)/\(aD p).length<=256/\
 cT A.toCn G H Q fun G' v=>∃e,v=.ref e/\G' e=TL (.lst (Ao (becomes ls p isDir)))
theorem SN(T:aY K mg A)(BU:aY K mg A->Kn P w K mg base aW "lines_that_count" 8 ["lists","is_directory","path"] (Lx K A)):Kn P w K mg base aW "fate" 9 ["lists","is_directory","path"] (Lv K A):=by
 have sc:aV ["lists","is_directory","path","chosen","end"] ["lists","is_directory","path"] (aN Ka):=bp;refine Kn.of T.aam sc (fun vs H Q E h=>?_) (fun f cdv A0 outer s0 H vs Q E hr h=>?_)
 .obtain⟨_,_,_,_,_,_,_,rfl,_⟩:=h;rfl
 obtain⟨G,la,as,ls,isDir,a,p,rfl,wd,hla,hLs,hll,hgp,hs,hsl,q⟩:=h;have hu:=mL hr;have hpos:0<p.length:=fG.mpr hgp.1
 refine⟨_,(aq (pS 3 sc.nd (cF (BU T) hr (af (pv 0) (af (pv 1) (af (pv 2) ao)))))
   (aq (gf ff rfl (dw (cF (SM T) hr (af (pv 2) ao))) (gN 4 sc.nd)
    (au (bA (PW.pt (uZ (sE (Cu hu (pv 4) (pv 3))) (va (lS (dZ (bP dk (mW hu (pv 3) (pv 4) (fun _ _=>rfl)) aB (fun _ _=>rfl)))))))
     (au (aL (bt (af aB (af (bP dk (mW hu (pv 3) (pv 4) (fun _ _=>rfl)) aB (fun _ _=>rfl)) (af (bP dk (mW hu (pv 3) (pv 4) (fun _ _=>rfl)) aB (fun _ _=>rfl)) ao))))))
     bG)))
   (aq (bA (sE (Cu hu (cL T.Ze (pv 2)) (pv 3)))
    (au (aL (bt (af aB (af (bP dk (mW hu (pv 3) (cL T.Ze (pv 2)) (fun _ _=>rfl)) aB (fun _ _=>rfl)) (af (bP dk (mW hu (pv 3) (cL T.Ze (pv 2)) (fun _ _=>rfl)) aB (fun _ _=>rfl)) ao))))))
    bG)
   (au (aL (bt (af aB ao))))))),?_⟩
 cb_eq
 refine⟨G,la,as,ls,isDir,a,p,rfl,wd,hla,hLs,hll,hgp,hs,hsl,fun G1 H1 dc kvs g s1 o1 hD1 hg=>?_⟩
 cb_eq
 refine⟨G1,a,aD p,rfl,s1.wd,hs.mono (s1.same wd),hsl,fun G2 H2 v s2 hv=>?_⟩;obtain⟨pe,rfl,hpe⟩:=hv;have s12:=s1.trans wd s2;have o2:=o1.call s2;have hD2:=hD1.mono (s2.same s1.wd);have hends:gM (aD p)=(er p.length).map fun k=>cB p (k+1):=AM hgp.1 (fun s hs=>sD (hgp.2 s hs).plain);rw[hends]at hpe;refine kh (ak.of (s12.wd.sub _ _ hpe)) (fun i σ H'=>∃x4,σ=[TL (.ref la),TL (.bl isDir),TL (.ref a),TL (.ref dc),x4]/\H'=H2/\(i<p.length->mH ls p isDir i)/\(i=p.length->mH ls p isDir (p.length-1)/\∀i n,fL ls p isDir=TL (i,n)->negAt ls i n=J1)) ?_ ?_ ?_ ?_
 .exact⟨J0,rfl,rfl,fun _=>YD hgp.1,fun z=>by lia⟩
 .rintro i σ H' _ ⟨_,_,rfl,_⟩;exact ak.of (s12.wd.sub _ _ hpe)
 .rintro k x σ H' hx ⟨x4,rfl,rfl,hup,_⟩;obtain⟨n,hn,rfl⟩:=mO hx;obtain⟨k',hk,rfl⟩:=eM hn;obtain⟨hki,hke⟩:=aK.mp hk;rw[List.getElem_range]at hke;rw[jf]at hki;subst hke;have hup:=hup hki;have hgk:=hg (k+1) (by lia) (by lia);have hat:=hD2.at_ (cB p (k+1))
  cb_eq
  refine vI (k:=bZ ((cB p (k+1):Nat):Int)) o2.at_ ?_
  cb_eq
  have keep:(∀i n,fL ls (p.take (k+1)) (eW p isDir (k+1))=TL (i,n)->negAt ls i n=J1)->(k+1<p.length->mH ls p isDir (k+1))/\(k+1=p.length->mH ls p isDir (p.length-1)/\∀i n,fL ls p isDir=TL (i,n)->negAt ls i n=J1):=by
   intro h;refine⟨fun z=>YC hup z h,fun z=>?_⟩;rw[z,cv,uh]at h;exact⟨by rw[show p.length-1=k by lia];exact hup,h⟩
  rcases hat with⟨h1,h2⟩|⟨i,n,b,t,h1,h2,h3⟩
  .rw[h2];simp only[qZ,qE,aU,if_false];refine⟨_,rfl,keep fun i n z=>?_⟩;rw[h1,z]at hgk;cases hgk
  .rw[h2];simp only[nG,qE,if_true];refine nj (k:=bZ ((cB p (k+1):Nat):Int)) o2.at_ h2 ?_;refine cH (k:=2) (bT.of (s12.wd.sub _ _ h3)) rfl ?_
   cb_eq
   have hdec:∃x,fL ls (p.take (k+1)) (eW p isDir (k+1))=TL x/\x.1=i/\x.2=n/\negAt ls x.1 x.2=b:=by
    rw[h1]at hgk;cases hd:fL ls (p.take (k+1)) (eW p isDir (k+1))with
    |none=>rw[hd]at hgk;cases hgk
    |some x=>
     rw[hd]at hgk;have hgk:TL (i,n,b)=TL (x.1,x.2,negAt ls x.1 x.2):=hgk;injection hgk with hgk;injection hgk with e1 e2;injection e2 with e2 e3;exact⟨x,rfl,e1.symm,e2.symm,e3.symm⟩
   obtain⟨⟨i',n'⟩,hd,rfl,rfl,hb⟩:=hdec;cases b with
   |true=>
    simp only[fc,aU,if_false];refine⟨_,rfl,keep fun i n z=>?_⟩;rw[hd]at z;cases z;exact hb
   |false=>
    simp only[eJ,if_true];refine nj (k:=bZ ((cB p (k+1):Nat):Int)) o2.at_ h2 ?_;refine cH (k:=0) (bT.of (s12.wd.sub _ _ h3)) rfl ?_;refine nj (k:=bZ ((cB p (k+1):Nat):Int)) o2.at_ h2 ?_;refine cH (k:=1) (bT.of (s12.wd.sub _ _ h3)) rfl ?_;refine⟨by decide,fun p9 hp9=>?_⟩;refine q _ _ _ (s12.newI wd hp9 aS) ⟨p9,rfl,?_⟩;rw[ax,YA hup hd hb];rfl
 .rintro σ H' ⟨x4,rfl,rfl,_,hup⟩;rw[dO,aE,jf]at hup;obtain⟨hup,hkeep⟩:=hup rfl;have hend:=YB hup hkeep;have hgk:=hg p.length hpos (aF _);rw[cv,uh,ui]at hgk;have hat:=hD2.at_ (aD p).length;have hs2:=(hs.mono (s12.same wd)).mono s12.wd.sub
  cb_eq
  refine cy hs2 ?_;rw[cY];refine vI (k:=bZ (((aD p).length:Nat):Int)) o2.at_ ?_
  cb_eq
  rcases hat with⟨h1,h2⟩|⟨i,n,b,t,h1,h2,h3⟩
  .rw[h2];simp only[qZ,qE,aU,if_false];refine⟨by decide,fun p9 hp9=>?_⟩;refine q _ _ _ (s12.newI wd hp9 aS) ⟨p9,rfl,?_⟩
   have hd:fL ls p isDir=none:=by
    cases hd:fL ls p isDir with
    |none=>rfl
    |some x=>rw[h1,hd]at hgk;cases hgk
   rw[ax,hend,hd];rfl
  .rw[h2];simp only[nG,qE,if_true]
   have hdec:∃x,fL ls p isDir=TL x/\x.1=i/\x.2=n:=by
    rw[h1]at hgk;cases hd:fL ls p isDir with
    |none=>rw[hd]at hgk;cases hgk
    |some x=>
     rw[hd]at hgk;have hgk:TL (i,n,b)=TL (x.1,x.2,negAt ls x.1 x.2):=hgk;injection hgk with hgk;injection hgk with e1 e2;injection e2 with e2 e3;exact⟨x,rfl,e1.symm,e2.symm⟩
   obtain⟨⟨i',n'⟩,hd,rfl,rfl⟩:=hdec;refine cy hs2 ?_;rw[cY];refine nj (k:=bZ (((aD p).length:Nat):Int)) o2.at_ h2 ?_;refine cH (k:=0) (bT.of (s12.wd.sub _ _ h3)) rfl ?_;refine cy hs2 ?_;rw[cY];refine nj (k:=bZ (((aD p).length:Nat):Int)) o2.at_ h2 ?_;refine cH (k:=1) (bT.of (s12.wd.sub _ _ h3)) rfl ?_;refine⟨by decide,fun p9 hp9=>?_⟩;refine q _ _ _ (s12.newI wd hp9 aS) ⟨p9,rfl,?_⟩;rw[ax,hend,hd];rfl
end
end PP
namespace L2
open PySem PySem.Spec
open PyProof.Rows hiding St
section
variable{P:aJ}{w:aH}{K:aw}{mg:Str->Option ae}{H:Hp}{h:aA}{a:aa}{xs:List V}
theorem LC(ok:cz P w H h)(kin:K.In h)(q:ak K H a xs):∃its:List ae,aX xs its/\PlainL h a its.toArray/\xs.length<=aZ:=by
 rcases q with q|⟨o,its,n,hk,hc,hd,hs,hz,r⟩
 .obtain⟨z,its,n,r,e⟩:=q.ok ok;exact⟨its,r,⟨_,n,e,rfl,rfl,rfl⟩,z⟩
 .have e:=r.length;simp only[fO]at e;exact⟨its.toList,r,⟨o,n,kin a o hk,hc,hd,by simpa using hs⟩,by lia⟩
structure zx(q vn:Str)(attr:Str)(params:oJ)(body:aM)(scope:cN):Prop where
 txt:∃p1 p2 p3 p4 p5 p6,body=.Call (.Name "len" p1) [.Attribute (.Subscript (.Name vn p2) (.Name "n" p3) p4) attr p5] [] p6
 kind:scope.kind=.function
 co:scope.isCoroutine=J2
 ge:scope.isGenerator=J2
 vn_:scope.names.lookup vn=TL .free
 n_:scope.names.lookup ("n":Str)=TL .local
 len_:scope.names.lookup ("len":Str)=TL .globalImplicit
 cell:∀x∈scope.names,x.2≠.cell
 bind:∀(cl:List (Str×aa))(pm cdv ct v:ae),bindArgs (PySem.W.kla_fn "<lambda>" q params body scope cl pm cdv ct) ⟨[v],[]⟩=pure [(("n":Str),v)]
 hd:(vn==("__debug__":Str))=J2
 hcd:(vn==("__classdict__":Str))=J2
theorem QH{A:bM}{s:aj}{base:aA}{q vn attr:Str}{params:oJ}{body:aM}{scope:cN}{clos:List (Str×aa)}{pm ctv:ae}{c' f cl la ea C dx:aa}{fs:List (Str×V)}{ld:aa}{ds:List V}{i:Nat}{t:Tok}
  (M:Mod K mg base)(bk:∀b o,base.get? b=TL o->s.heap.get? b=TL o)(ok:cz P w H s.heap)(hroom:A.depth<CN)
  (X:zx q vn attr params body scope)(ho:s.heap.get? f=TL (Fj "<lambda>" q params body scope clos pm c' ctv))(hcd:s.heap.CodeRec (.ref c') q)
  (hcl:clos.lookup vn=TL cl)(hcell:s.heap.IsCell cl (TL (.ref la)))(hla:ak K H la xs)(hi:xs[i]?=TL (.ref ea))(hea:H ea=TL (.ins C dx fs))(hC:dH K C)(hN:cS K C attr)(hfl:fs.lookup attr=TL (.ref ld))(hld:ak K H ld ds)
  (hmg:mg "len"=J0):
  az (aC P w) A (call (.ref f) [.int (i:Int) t]) (fun u s'=>∃h' tk t',u=.int (ds.length:Int) t'/\s'={s with heap:=h',toks:=tk}/\∀b o,s.heap.get? b=TL o->h'.get? b=TL o) (fun _ _=>False) s:=by
 obtain⟨p1,p2,p3,p4,p5,p6,hb⟩:=X.txt;refine yU (PySem.W.kla_callFunE hroom ho rfl X.co X.ge rfl hcd ?_);rw[X.bind];refine aT (wpAny_newFunctionEnv X.cell (fun y hy=>?_) (fun h₁ hns hsb=>?_) X.kind)
 .have:y=(("n":Str),kG (i:Int) t):=by simpa using hy
  rw[this];exact X.n_
 have keep:∀b o,s.heap.get? b=TL o->h₁.get? b=TL o:=fun b o e=>hsb.extBut b o (cJ (bR e)) (bV _ e);have bk1:∀b o,base.get? b=TL o->h₁.get? b=TL o:=fun b o e=>keep b o (bk b o e);have ok1:cz P w H h₁:=ok.kept keep;have kin1:K.In h₁:=M.kin.keeps bk1;refine⟨M.nolimit.keeps bk1,?_⟩;show hX _ _ (.expr body (PySem.W.envX q scope s.heap.objs.size f (.ref c') clos)) _ _;refine PySem.W.kla_codeExpr ?_;rw[hb];obtain⟨mb,hb1,hb2⟩:=M.blt;have nm:(fun x=>([(("n":Str),kG (i:Int) t)]:List (Str×ae)).reverse.lookup x) ("n":Str)=TL (.int (i:Int) t):=rfl;obtain⟨its,r,pl,hz⟩:=LC ok1 kin1 hla;obtain⟨eu,heu,reu⟩:=r.get hi;obtain rfl:eu=cO ea:=reu;obtain⟨mA,O,rO,_,_,_⟩:=xF ok1 hea;obtain⟨lu,hlu,rlu⟩:=fV.some_of (v:=V.ref ld) (o:=mA attr) (by rw[<-hfl];exact rO attr);obtain rfl:lu=cO ld:=rlu;obtain⟨ids,rd,pd,hzd⟩:=LC ok1 kin1 hld;have hn:=xK;have hlen:=rd.length;have hlr:=r.length;have hil:i<xs.length:=(aK.mp hi).1;refine oI (Es X.kind X.len_ (MQ (M.glob.keeps bk1) hmg (hb1.keeps bk1) ((hb2 "len" (by decide)).trans boot_len) ?_) (by decide));refine NB ?_ (by rfl) (by rfl);refine zg (FQ (by rfl) (Subscript_ (yT (YK X.kind X.vn_ hcl (hcell.keeps keep) (yT (MF X.kind X.n_ hns nm ?_) (by decide)) X.hcd) X.hd)));refine item_listR pl.isList (Int.natCast_nonneg i) (by have:(i:Int)<xs.length:=(by exact_mod_cast hil);have:=hz;lia) (by rw[fD];simpa using heu) ?_ (by rfl);refine Hg kin1 O (hC.get attr) hC.hd hN hlu rfl ?_;refine zh ?_;refine MP pd.isList (by simp only[fe]<;>lia) ?_;exact⟨h₁,_,_,by rw[fe,hlen],rfl,keep⟩
theorem OJ{A:bM}{E:ae->aj->Prop}{s:aj}{r:aa}{n:Nat}{t u v:Tok}{Q:List ae->aj->Prop}(hh:A.handled=J0)(hr:IsRange s.heap r 0 (n:Int) 1 t u v)(hn:n<=1000)
  (hQ:∀(vs:List ae) h' tk,jE vs ((er n).map fun(k:Nat)=>(k:Int))->(∀b o,s.heap.get? b=TL o->h'.get? b=TL o)->s.heap.objs.size<=h'.objs.size->Q vs {s with heap:=h',toks:=tk}):
  az (aC P w) A (collect (.ref r)) Q E s:=by
 have sm:Builtin.Range.small 0 (n:Int) 1=true:=small_one (by lia) (by lia) (by lia) (by lia);have rs:MO 0 (n:Int) 1=n:=by rw[rangeSize_one];split<;>lia
 have main:∀R:Result->aj->Prop,(∀h' tk acc' c',(∀b o,b≠s.heap.objs.size->(s.heap.push {cls:=.type "list",data:=.seq ([]:List ae).toArray}).get? b=TL o->h'.get? b=TL o)->h'.get? s.heap.objs.size=TL {cls:=.type "list",dict:=J0,data:=.seq acc' c',slots:= #[]}->
   ItemsOf (fun i v=>∃t,v=.int (0+i*1) t) acc' n->R (.ok (.ret (.ref s.heap.objs.size))) {s with heap:=h',toks:=tk})->hX (aC P w) A (.builtin "proto.collect" ⟨[.ref r],[]⟩) R s:=fun R hR=>by
  refine pT MT ?_;rw[qD MV _];show az _ A.in1 (newList []>>=fun l=>again (.builtin "list.__iadd__" ⟨[l,.ref r],[]⟩)) _ _ s;refine ay (ni ?_);refine aT ⟨qp zm _,pT F.entry_list_iadd ?_⟩;rw[qD zm _];show az _ A.in1 (zf (.ref s.heap.objs.size) (.ref r) (.ref s.heap.objs.size)) _ _ _;exact wpAny_extend_range (s:={s with heap:=s.heap.push {cls:=.type "list",data:=.seq ([]:List ae).toArray}}) hh (bV _ hr) sm rs (by lia) _ _ 0 (dD _ rfl) hR
 unfold collect;refine ay (MH (main _ fun h' tk acc c' hk hS ha=>?_));show az _ A (load s.heap.objs.size>>=_) _ _ _;refine ay (wpAny_load hS ?_);refine aT (hQ acc.toList h' tk ?_ (fun b o e=>hk b o (cJ (bR e)) (bV _ e)) (jH (bR hS)))
 have hi:acc.toList.map numOf=(er n).map fun(k:Nat)=>(k:Int):=by
  refine EH fun i=>?_;rw[cI,cI,iF];by_cases hi:i<n
  .have hs:i<acc.size:=by rw[ha.1];exact hi
   obtain⟨t,e⟩:=ha.2 i acc[i] (iY hs);rw[iY hs,zC hi,e];show TL (numOf (.int (0+(i:Int)*1) t))=TL ((i:Int));simp[numOf]
  .rw[zb (by rw[ha.1];lia),hU (by rw[jf];lia)];rfl
 rw[<-hi];refine intsAre_map _ fun v hv=>?_;obtain⟨i,hi⟩:=Ni.mp hv;rw[iF]at hi;obtain⟨t,e⟩:=ha.2 i v hi;exact⟨_,t,e⟩
theorem QE{ns:List Int}{vs out:List ae}{g:Int->Int}(hv:jE vs ns)(ko:KskOutSt J2 (ns.map g) vs out):
  ∃ks:List Int,jE out ks/\ks.Perm ns/\ks.Pairwise (fun x y=>g x<=g y)/\∀z,ks.filter (fun x=>g x==z)=ns.filter (fun x=>g x==z):=by
 obtain⟨ps,hp,rfl,hs,hst⟩:=ko;have hlen:=hv.length
 have rel:∀p,p∈(ns.map g).zip vs->p.1=g (numOf p.2)/\p.2∈vs:=fun p q=>by
  rw[<-hv.nums,gH,List.zip_map_left]at q;obtain⟨⟨x,y⟩,m,rfl⟩:=bS.mp q;obtain⟨e,mx⟩:x=y/\x∈vs:=mem_zip_self m;subst e;exact⟨rfl,mx⟩
 have relp:∀p,p∈ps->p.1=g (numOf p.2)/\p.2∈vs:=fun p q=>rel p (hp.mem_iff.mp q)
 have fl:∀(z:Int)(l:List (Int×ae)),(∀p,p∈l->p.1=g (numOf p.2))->((l.map Prod.snd).map numOf).filter (fun x=>g x==z)=((l.filter (fun p=>p.1==z)).map Prod.snd).map numOf:=fun z l hl=>by
  rw[gH,List.filter_map,gH];refine congrArg _ (List.filter_congr fun p q=>?_);show(g (numOf p.2)==z)=(p.1==z);rw[hl p q]
 have sn:((ns.map g).zip vs).map Prod.snd=vs:=List.map_snd_zip (by rw[aE];lia);refine⟨(ps.map Prod.snd).map numOf,intsAre_map _ fun v hm=>?_,?_,?_,fun z=>?_⟩
 .obtain⟨p,q,rfl⟩:=bS.mp hm;exact hv.all _ (relp p q).2
 .have e:=(hp.map Prod.snd).map numOf;rw[sn,hv.nums]at e;exact e
 .rw[lh,lh];refine hs.imp_of_mem fun{p q} mp mq o=>?_;have o:p.1<=q.1:=by simpa using o
  rw[(relp p mp).1,(relp q mq).1]at o;exact o
 .rw[fl z ps fun p q=>(relp p q).1,hst z,<-fl z _ fun p q=>(rel p q).1,sn,hv.nums]
end
section
variable{X:Cx}{pins:List (aa×Obj)}{σ:St}{H:Hp}{s:aj}
theorem HF:∀{vs:List ae}{ns:List Int},jE vs ns->aX (ns.map V.int) vs
 |_,_,.nil=>.nil
 |_,_,.cons n t h=>.cons ⟨t,rfl⟩ (HF h)
theorem WE{E:ae->aj->Prop}{r f:aa}{n:Nat}{t u v:Tok}{g:Int->Int}{Q:ae->aj->Prop}(I:Inv X pins σ H s)(hcalm:X.calm=J1)(hr:IsRange s.heap r 0 (n:Int) 1 t u v)(hn:n<=1000)
  (turn:∀(i:Nat)(t:Tok)(s':aj),i<n->(∀b o,b≠X.env.locals->s.heap.get? b=TL o->s'.heap.get? b=TL o)->
   az (aC X.prog X.w) X.A.in1.in1 (call (.ref f) [.int (i:Int) t]) (fun u s''=>∃h' tk t',u=.int (g (i:Int)) t'/\s''={s' with heap:=h',toks:=tk}/\∀b o,s'.heap.get? b=TL o->h'.get? b=TL o) (fun _ _=>False) s')
  (h:∀(D:aa)(ks:List Int)(s':aj),H D=J0->Inv X pins σ (ah H D (.lst (ks.map V.int))) s'->ks.Perm ((er n).map fun(k:Nat)=>(k:Int))->ks.Pairwise (fun x y=>g x<=g y)->
   (∀z,ks.filter (fun x=>g x==z)=((er n).map fun(k:Nat)=>(k:Int)).filter (fun x=>g x==z))->Q (.ref D) s'):
  az (aC X.prog X.w) X.A (call (.builtin "sorted") [.ref r] [(jK "key",.ref f)]) Q E s:=by
 obtain⟨m,F0⟩:=I.fr;have hL:X.env.locals<s.heap.objs.size:=I.lt;have hZ:aZ=16777216:=sI;refine call_function_entry_kw kind_sorted plain_sorted entry_sorted (ksk_s1 _ _) ?_;unfold Builtin.«sorted»;refine ay (m:=checkCount "sorted" 1 1 _) (aT ?_);refine ay (OJ (I.ok.hd hcalm) hr hn fun vs h1 tk hvs k1 z1=>?_)
 have hvl:vs.length=n:=by
  have e:=hvs.length;rw[aE,jf]at e;lia
 refine ay (wpAny_newList ?_ (by rw[hZ];lia));have k2:∀b o,s.heap.get? b=TL o->(h1.push (seqObj "list" vs.toArray 0)).get? b=TL o:=fun b o e=>bV _ (k1 b o e);have o2:(h1.push (seqObj "list" vs.toArray 0)).get? h1.objs.size=TL (seqObj "list" vs.toArray 0):=dD _ rfl;have gone:X.base.get? h1.objs.size=none:=MY (dM F0.above (dM (jH hL) z1));refine ay (sR (wpAny_call_entry_kw slot_list_sort ⟨_,o2,rfl⟩ entry_list_sort ?body (ksk_l1 _ _)))
 case body=>
  show az (aC X.prog X.w) X.A.in1.in1 (Builtin.«list.sort» ⟨[.ref h1.objs.size],[(jK "key",.ref f)]⟩) _ _ _;rw[ksk_t1]
  refine ksk_sortSt (h₀:=X.base) (L:=X.env.locals) (m:=m) (news:=wV X.base s.heap X.env.locals) (kz:=((er n).map fun(k:Nat)=>(k:Int)).map g) (F0.kept k2) (News.grown RS k2) o2 (qV (cR hL z1)) gone
   (fun p hp=>cJ (cR (bR (IR hp).2.2) z1)) (by rw[aE,aE,jf,hvl]) (by lia) (fun i x k hx hk hp tk own F N=>?_) fun h' tk out c F N ko=>⟨_,rfl,?_⟩
  .have hi:i<n:=by rw[<-hvl];exact(aK.mp hx).1
   rw[cI,cI,zC hi]at hk;have hk:TL (g (i:Int))=TL k:=hk;cases hk;obtain⟨t,e⟩:=hvs.get i (i:Int) (by rw[cI,zC hi];rfl);rw[hx]at e;cases e;refine aR (turn i t _ hi fun b o hb e=>?_) fun u s''⟨h',tk',t',e1,e2,kp⟩=>?_
   .cases q:X.base.get? b with
    |some y=>
     have e':=I.bk b y q;rw[e]at e';cases e';exact F.keep b _ q
    |none=>exact(N (b,o) (cW _ (IB hb q e))).1
   .exact⟨h',tk',t',e2,e1,F.kept kp,News.grown N kp⟩
  .obtain⟨ks,hks,hp,hs,hf⟩:=QE hvs ko;have hD:H h1.objs.size=none:=I.hok.fresh z1
   have kp:∀b o,b≠X.env.locals->s.heap.get? b=TL o->h'.get? b=TL o:=fun b o hb e=>by
    cases q:X.base.get? b with
    |some y=>
     have e':=I.bk b y q;rw[e]at e';cases e';exact F.keep b _ q
    |none=>exact(N (b,o) (.tail _ (IB hb q e))).1
   have at_:=(N (h1.objs.size,seqObj "list" out c) (.head _)).1;suffices J:Inv X pins σ (ah H h1.objs.size (.lst (ks.map V.int))) {s with heap:=h',toks:=tk}from aT ⟨_,rfl,h _ ks _ hD J hp hs hf⟩;refine I.step (g':=s.gens) (d':=s.drawn) (ch:=[]) (fun _ z=>nomatch z) (fun b o hb _ _ e _=>kp b o hb e) (fun b o hb _ _ e _=>⟨o.slots,kp b o hb e⟩) (fun b o _ e q=>?_) (fun b o _ e=>?_) (fun b xs e=>?_) (fun b o w' e=>?_) (fun b ps e=>⟨#[],?_⟩) (fun m' hm=>?_) (fun b w' e=>?_) I.bare
   .rw[aO (cJ (cR (bR e) z1))];exact q
   .by_cases hb:b=X.env.locals
    .obtain⟨oL,_,_,eL,_⟩:=F.ns;exact⟨oL,by rw[hb];exact eL⟩
    .exact⟨o,kp b o hb e⟩
   .rw[aO (dq e hD)];exact e
   .rw[aO (dq e hD)];exact e
   .rw[aO (dq e hD),e];simp
   .rw[hm.eq_nsMap,<-F0.ns.eq_nsMap];exact F.ns
   .by_cases hb:b=h1.objs.size
    .subst hb;rw[ax]at e;cases e;refine⟨?_,out.toList,c,HF hks,at_⟩;rw[aE,hp.length_eq,aE,jf];lia
    .rw[aO hb]at e;refine(I.hok b w' e).stay (fun y z hy q=>kp y z (fun e'=>?_) q) (fun y q=>by rw[aO (dq q hD)];exact q) fun y xs q=>by rw[aO (dq q hD)];exact q
     have hfree:=I.free;rcases hy with z|z
     .rw[<-e',z,e]at hfree;cases hfree
     .rw[<-e',z]at hfree;cases hfree
end
end L2
namespace PP
open PySem PySem.Spec L2
open PyProof.Rows hiding St
section
variable{X:Cx}{pins:List (aa×Obj)}{σ:L2.St}{H:Hp}{s:aj}
def pL(tab:aa)(lp:Pos)(q:Str)(H H2:Hp):Prop:=
 H2=H\/∃c,H c=J0/\H tab=TL (.tbl #[])/\H2=ah (ah H c (rM q c)) tab (.tbl #[cg lp.line,cg lp.col,.ref c])
theorem pL.keep{tab:aa}{lp:Pos}{q:Str}{H H2:Hp}(t:pL tab lp q H H2){b:aa}{o:HO}(h:H b=TL o)(n:∀ps,o≠.tbl ps):H2 b=TL o:=by
 rcases t with rfl|⟨c,hc,ht,rfl⟩
 .exact h
 .rw[aO (fun z=>by rw[z,ht]at h;cases h;exact n _ rfl),aO (dq h hc)];exact h
theorem pL.sql{K:aw}{tab:aa}{lp:Pos}{q:Str}{H H2:Hp}(t:pL tab lp q H H2){b:aa}{xs:List V}(h:ak K H b xs):ak K H2 b xs:=by
 rcases h with(h|⟨o,h⟩)|h
 .exact .inl (.inl (t.keep h fun _ z=>by cases z))
 .exact .inl (.inr ⟨o,t.keep h fun _ z=>by cases z⟩)
 .exact .inr h
theorem uf{q:Str}{c:aa}{h1 h2:aA}(p:h1.CodeRec (.ref c) q)(k:∀o,h1.get? c=TL o->h2.get? c=TL o):h2.CodeRec (.ref c) q:=by
 obtain⟨c',o,vs,t,e,ho,r⟩:=p;cases e;exact⟨c,o,vs,t,rfl,k o ho,r⟩
theorem Inv.grown{tab c:aa}{h':aA}{ob:Obj}{ps more:Array ae}{q:Str}{tk:Nat}(I:Inv X pins σ H s)(ht:H tab=TL (.tbl ps))(hx:aA.ExtBut tab s.heap h')(hge:s.heap.objs.size<=c)(hlt:c<h'.objs.size)(hrec:h'.CodeRec (.ref c) q)(htb:h'.get? tab=TL (tR (ps++more))):
  Inv X pins σ (ah (ah H c (rM q c)) tab (.tbl (ps++more))) {s with heap:=h'.push ob,toks:=tk}:=by
 have hc:H c=none:=I.hok.fresh hge;have nt:∀b,H b=J0->b≠tab:=fun b n z=>by rw[z,ht]at n;cases n
 have hct:c≠tab:=nt c hc;have k:∀b o,b≠tab->s.heap.get? b=TL o->(h'.push ob).get? b=TL o:=fun b o hb e=>bV _ (hx b o hb e);have kt:(h'.push ob).get? tab=TL (tR (ps++more)):=bV _ htb;have hcn:∀b o,s.heap.get? b=TL o->b≠c:=fun b o e=>cJ (cR (bR e) hge);have other:∀b u,H b=TL u->b≠tab->ah (ah H c (rM q c)) tab (.tbl (ps++more)) b=TL u:=fun b u e hb=>by rw[aO hb,aO (dq e hc)];exact e
 have nottab:∀b u,H b=TL u->(∀ps,u≠.tbl ps)->b≠tab:=fun b u e n z=>by rw[z,ht]at e;cases e;exact n _ rfl
 refine I.un (t':=tk) ⟨fun b o e n _ _=>k b o (nt b n) e,fun b o e n _ _=>⟨o.slots,k b o (nt b n) e⟩,fun b o e n _=>?_,fun b o e _=>?_,fun b xs e=>other b _ e (nottab b _ e fun _ z=>by cases z),fun b o u e=>other b _ e (nottab b _ e fun _ z=>by cases z),fun b qs e=>?_⟩ fun b u e=>?_
 .rw[aO (nt b n),aO (hcn b o e)];exact n
 .by_cases hb:b=tab
  .exact⟨_,by rw[hb];exact kt⟩
  .exact⟨o,k b o hb e⟩
 .by_cases hb:b=tab
  .subst hb;rw[ht]at e;cases e;exact⟨more,ax⟩
  .exact⟨#[],by rw[other b _ e hb];simp⟩
 .by_cases hb:b=tab
  .subst hb;rw[ax]at e;cases e;exact kt
  .rw[aO hb]at e;by_cases hb2:b=c
   .subst hb2;rw[ax]at e;cases e;have hr:(h'.push ob).CodeRec (.ref b) q:=uf hrec fun o e=>bV _ e;refine⟨hr,?_,fun h1 h2 p kk=>uf p kk⟩;obtain⟨c',o,vs,t,e,ho,_⟩:=hr;cases e;exact⟨o,ho⟩
   .rw[aO hb2]at e;refine(I.hok b u e).stay (fun y z hy r=>k y z ?_ r) (fun y r=>other y _ r (nottab y _ r fun _ z=>by cases z)) fun y xs r=>other y _ r (nottab y _ r fun _ z=>by cases z);rcases hy with z'|z'
    .rw[z'];exact hb
    .exact nottab y _ z' fun _ z=>by cases z
structure EC(X:Cx)(tab:aa)(lp:Pos)(q vn attr:Str)(params:oJ)(body:aM)(scope:cN):Prop where
 tx:zx q vn attr params body scope
 q_:q=X.env.qual++"<lambda>"
 def_:defaultsOf params X.env=([],[])
 free:∀y∈scope.names,y.2=.free->y.1=vn
 clo:∀cells:List (Str×aa),(dj cells scope.names []).lookup vn=TL ((cells.lookup vn).getD 0)
 slot:X.N[0]?=TL vn
 kind:X.env.kindOf vn=TL .cell
 code:∃cc,X.env.code=.ref cc/\∀h,X.K.In h->PySem.W.CodeHd h cc tab
 blt:∃bm o,X.mg "__builtins__"=TL (.ref bm)/\bm≠nV/\o.cls=.type "module"/\o.dict=TL nV/\o.data=.plain/\X.base.get? bm=TL o
 room:X.A.depth<CN
def Md(K:aw)(tab:aa)(lp:Pos)(q attr:Str)(ta:TA):TE:=fun σ H Q=>ta σ H fun vs H1=>∃(la:aa)(xs:List V)(g:Int->Int),σ[0]?=TL (TL (.ref la))/\vs=[.int (xs.length:Int)]/\xs.length<=1000/\
 (H1 tab=TL (.tbl #[])\/∃c,H1 tab=TL (.tbl #[cg lp.line,cg lp.col,.ref c])/\H1 c=TL (rM q c))/\ak K H1 la xs/\
 (∀(i:Nat) x,xs[i]?=TL x->∃ea C dx fs ld ds,x=.ref ea/\H1 ea=TL (.ins C dx fs)/\dH K C/\cS K C attr/\fs.lookup attr=TL (.ref ld)/\ak K H1 ld ds/\g (i:Int)=(ds.length:Int))/\
 ∀(H2:Hp)(D:aa)(ks:List Int),pL tab lp q H1 H2->H2 D=J0->ks.Perm ((er xs.length).map fun(k:Nat)=>(k:Int))->ks.Pairwise (fun x y=>g x<=g y)->(∀z,ks.filter (fun x=>g x==z)=((er xs.length).map fun(k:Nat)=>(k:Int)).filter (fun x=>g x==z))->Q (.ref D) (ah H2 D (.lst (ks.map V.int)))
theorem OH{lp:Pos}{c:aa}:codeAmong lp (#[cg lp.line,cg lp.col,.ref c]:Array ae).toList=TL (.ref c):=by
 show(if((lp.line:Int)==(lp.line:Int)&&(lp.col:Int)==(lp.col:Int))=J1 then TL (cO c)else _)=_;rw[J4 (by simp)]
theorem Uj{e:aM}{ta:TA}{params:oJ}{body:aM}{scope:cN}{lp p0 p1 p2 kp pos:Pos}{tab:aa}{q vn attr:Str}(L:EC X tab lp q vn attr params body scope)(hcalm:X.calm=J1)(hg:Gl X "sorted")(hm:X.mg "sorted"=J0)(hgr:Gl X "range")(hmr:X.mg "range"=J0)(hml:X.mg "len"=J0)
  (ha:PA X [e] ta)(hs:autoParam (bQ [e] X.env=[(J2,bF e X.env)]) J7):
  PE X (.Call (.Name "sorted" p0) [.Call (.Name "range" p1) [e] [] p2] [⟨TL (jK "key"),.Lambda params body scope lp,kp⟩] pos) (Md X.K tab lp q attr ta):=by
 intro pins s σ H Q I h;refine oI (rY I hg hm (by decide +kernel:rK "sorted"=TL (.builtin "sorted")) ?_);refine callWith_kw ?_;refine zg (Call_ (rY I hgr hmr boot_range (zY (aR (ha p2 pins s σ H _ I h) fun us s1⟨vs,H1,I1,r1,q1⟩=>?_) hs rfl)));obtain⟨la,xs,g,hσ,rfl,hxl,htab,hla,hat,hQ⟩:=q1;cases r1 with
 |cons r rr=>
  cases rr;obtain⟨t,rfl⟩:=r;refine call_range_1 (zh ?_);refine kws_cons ?_;have I2:=I1.kept (t':=s1.toks+1+1) (h':=s1.heap.push {cls:=.type "range",data:=.fields #[.int 0 s1.toks,.int (xs.length:Int) t,.int 1 (s1.toks+1)]}) fun b o e=>bV _ e;have hz:(s1.heap.push {cls:=.type "range",data:=.fields #[.int 0 s1.toks,.int (xs.length:Int) t,.int 1 (s1.toks+1)]}).get? s1.heap.objs.size=TL {cls:=.type "range",data:=.fields #[.int 0 s1.toks,.int (xs.length:Int) t,.int 1 (s1.toks+1)]}:=dD _ rfl
  have fin:∀(H2:Hp)(s3:aj)(f c':aa)(ctv pm:ae),pL tab lp q H1 H2->Inv X pins σ H2 s3->IsRange s3.heap s1.heap.objs.size 0 (xs.length:Int) 1 s1.toks t (s1.toks+1)->s3.heap.get? f=TL (Fj "<lambda>" q params body scope (dj X.env.cells scope.names []) pm c' ctv)->f≠X.env.locals->s3.heap.CodeRec (.ref c') q->H2 c'≠J0->
    az (aC X.prog X.w) X.A (call (.builtin "sorted") [.ref s1.heap.objs.size] [(jK "key",.ref f)]) (EP X pins σ Q) X.xe s3:=by
   intro H2 s3 f c' ctv pm ts I3 hr hf hfL hcr hc2;have hcL:c'≠X.env.locals:=fun z=>hc2 (by rw[z];exact I3.free);obtain⟨m,hn,hl⟩:=I3.loc;obtain⟨u,ru,lk⟩:=hl 0 vn (.ref la) L.slot hσ (.inr (.inl L.kind));obtain rfl:u=cO la:=ru
   have hcell:∃cl,X.env.cells.lookup vn=TL cl/\s3.heap.IsCell cl (TL (.ref la)):=by
    rcases lk with⟨k,_⟩|⟨_,c,e,z⟩
    .rw[L.kind]at k;cases k
    .exact⟨c,e,z⟩
   obtain⟨cl,hcl,hcel⟩:=hcell;refine WE I3 hcalm hr hxl (g:=g) (fun i t' s' hi kp=>?_) fun D ks s' hD J hp hs hf=>⟨.ref D,_,J,rfl,hQ H2 D ks ts hD hp hs hf⟩
   have hbL:∀b o,X.base.get? b=TL o->b≠X.env.locals:=fun b o e z=>by
    have:=bR e;rw[z]at this;exact J5 (cR this (dM I.ok.bsz I.ok.above)) (gI _)
   obtain⟨x,hx⟩:∃x,xs[i]?=TL x:=⟨_,bO hi⟩;obtain⟨ea,C,dx,fs,ld,ds,rfl,h1,h2,h3,h4,h5,h6⟩:=hat i x hx;rw[h6]
   have ok':cz X.prog X.w H2 s'.heap:=fun b w' e=>by
    refine(I3.hok b w' e).stay (fun y z hy r=>kp y z (fun e'=>?_) r) (fun _ r=>r) fun _ _ r=>r;have hfree:=I3.free;rcases hy with z|z
    .rw[<-e',z,e]at hfree;cases hfree
    .rw[<-e',z]at hfree;cases hfree
   refine QH I.mod (fun b o e=>kp b o (hbL b o e) (I3.bk b o e)) ok' L.room L.tx (kp _ _ hfL hf) (uf hcr fun o e=>kp _ _ hcL e) (by rw[L.clo,hcl]) ?_ (ts.sql hla) hx (ts.keep h1 fun _ z=>by cases z) h2 h3 h4 (ts.sql h5) hml;obtain⟨o,ho,hd⟩:=hcel;exact⟨o,kp _ _ (I3.cne vn cl hcl) ho,hd⟩
  obtain⟨cc,hcc,hhd⟩:=L.code;obtain⟨bm,ob,hb1,hb2,hb3,hb4,hb5,hb6⟩:=L.blt;have hgs:aA.Ns (s1.heap.push {cls:=.type "range",data:=.fields #[.int 0 s1.toks,.int (xs.length:Int) t,.int 1 (s1.toks+1)]}) fi X.mg:=I.mod.glob.keeps I2.bk
  have hclo:closureFor scope X.env=pure (dj X.env.cells scope.names []):=AI fun y hy k=>by
   rw[L.free y hy k];exact I.ok.has vn (.inl L.kind)
  have hbuilt:∀ps,H1 tab=TL (.tbl ps)->aA.BuiltinsAt (s1.heap.push {cls:=.type "range",data:=.fields #[.int 0 s1.toks,.int (xs.length:Int) t,.int 1 (s1.toks+1)]}) X.mg tab:=fun ps hp=>by
   have hb7:=I2.bk bm ob hb6;refine⟨bm,ob,hb1,hb2,fun z=>?_,fun z=>?_,hb7,hb3,hb4,hb5⟩
   .obtain⟨o,es,ep,e,d,_⟩:=hgs;rw[z]at hb7;have:=hb7.symm.trans e;cases this;rw[hb5]at d;cases d
   .have e:_=TL (tR ps):=I2.hok tab _ hp;rw[z]at hb7;have:=hb7.symm.trans e;cases this;cases hb3
  have hgt:∀ps,H1 tab=TL (.tbl ps)->fi≠tab:=fun ps hp z=>by
   have e:_=TL (tR ps):=I2.hok tab _ hp;obtain⟨o,es,ep,e',d,_⟩:=hgs;rw[z]at e';have:=e'.symm.trans e;cases this;cases d
  refine PySem.W.kla_eval L.def_ ?_;rw[<-L.q_];have szr:(s1.heap.push {cls:=.type "range",data:=.fields #[.int 0 s1.toks,.int (xs.length:Int) t,.int 1 (s1.toks+1)]}).objs.size=s1.heap.objs.size+1:=fQ ..;rcases htab with ht|⟨c,ht,hcO⟩
  .refine PySem.W.kla_makeFunction (mg:=X.mg) hclo I.ok.glob hgs hcc (hhd _ I2.kIn) (I2.hok tab _ ht) lE rfl (hgt _ ht) (hbuilt _ ht) fun c' ctv h' tk hx hge hlt hrec htb=>?_;refine kws_nil ?_;have I3:=Inv.grown (ob:=Fj "<lambda>" q params body scope (dj X.env.cells scope.names []) ((X.mg "__name__").getD .none) c' ctv) (tk:=tk) I2 ht hx hge hlt hrec htb;have hcn:H1 c'=none:=I2.hok.fresh hge
   have nt:tab≠s1.heap.objs.size:=fun z=>by
    have:=I1.hok.lt ht;rw[z]at this;exact J5 this (gI _)
   refine fin _ _ h'.objs.size c' ctv _ (.inr ⟨c',hcn,ht,by simp⟩) I3 (bV _ (hx _ _ (br nt) hz)) (dD _ rfl) ?_ (uf hrec fun o e=>bV _ e) ?_
   .have:=I2.lt;exact qV (qT (cR this hge) hlt)
   .rw[aO (dq ht hcn).symm,ax];simp
  .obtain⟨hcr,_⟩:=I2.hok c _ hcO;refine PySem.W.kla_makeFunctionHit (mg:=X.mg) hclo I.ok.glob hgs hcc (hhd _ I2.kIn) (I2.hok tab _ ht) lE OH (hbuilt _ ht) fun ctv h' tk hk hsz=>?_;refine kws_nil ?_;have I3:=I2.kept (t':=tk) (h':=h'.push {cls:=.type "function",data:=.func (PySem.W.kla_fn "<lambda>" q params body scope (dj X.env.cells scope.names []) ((X.mg "__name__").getD .none) (.ref c) ctv)}) fun b o e=>bV _ (hk b o e);refine fin _ _ h'.objs.size c ctv _ (.inl rfl) I3 (bV _ (hk _ _ hz)) (dD _ rfl) ?_ (uf hcr fun o e=>bV _ (hk _ _ e)) (by rw[hcO];simp);have:=I2.lt;exact qV (cR this hsz)
end
end PP
namespace PP
open PySem PySem.Spec L2
open PyProof.Rows hiding St
open Pg PM
theorem JA{g:Int->Int}:∀{ks:List Int},ks.Pairwise (fun x y=>g x<=g y)->(∀z,(ks.filter (fun x=>g x==z)).Pairwise (·<·))->ks.Pairwise (fun x y=>g x<g y\/(g x=g y/\x<y))
 | [],_,_=>.nil
 |a::l,h,hf=>by
  rw[mv]at h;have ha:((a::l).filter (fun x=>g x==g a)).Pairwise (·<·):=hf (g a);rw[List.filter_cons_of_pos (by simp),mv]at ha;refine mv.mpr ⟨fun y hy=>?_,JA h.2 fun z=>(hf z).sublist ((Nn a l).filter _)⟩;have h1:=h.1 y hy;by_cases e:g y=g a
  .exact .inr ⟨e.symm,ha.1 y (qR.mpr ⟨hy,by simp[e]⟩)⟩
  .exact .inl (by lia)
theorem Rc{ks:List Int}{n:Nat}{d:Nat->Nat}(hp:ks.Perm ((er n).map fun(k:Nat)=>(k:Int)))(hs:ks.Pairwise (fun x y=>((d x.toNat:Nat):Int)<=((d y.toNat:Nat):Int)))
  (hf:∀z,ks.filter (fun x=>((d x.toNat:Nat):Int)==z)=((er n).map fun(k:Nat)=>(k:Int)).filter (fun x=>((d x.toNat:Nat):Int)==z)):
  ∃is:List Nat,ks=is.map (fun(k:Nat)=>(k:Int))/\is.Perm (er n)/\is.Pairwise fun i j=>d i<d j\/(d i=d j/\i<j):=by
 have e:ks=(ks.map fR).map fun(k:Nat)=>(k:Int):=by
  rw[gH]
  have:∀x∈ks,((fun(k:Nat)=>(k:Int))∘fR) x=x:=fun x hx=>by
   obtain⟨k,_,rfl⟩:=bS.mp (hp.mem_iff.mp hx);simp
  rw[zE this,List.map_id']
 have hr:((er n).map fun(k:Nat)=>(k:Int)).Pairwise (·<·):=by
  rw[lh];exact wa.imp fun h=>by lia
 have pw:=JA (g:=fun x=>((d x.toNat:Nat):Int)) hs fun z=>by rw[hf z];exact hr.sublist List.filter_sublist
 refine⟨ks.map fR,e,?_,?_⟩
 .have:=hp.map fR;rw[gH,show(fR∘fun(k:Nat)=>(k:Int))=id from by funext k;simp,List.map_id]at this;exact this
 .rw[e,lh]at pw;refine pw.imp fun{i j} h=>?_;simp only[fD]at h;lia
theorem IP{A:Cn}{q:Str}{c:aa}:fU A (rM q c):=fun _ _ _ _ z=>by cases z
theorem Step.tabW{A:Cn}{G H G1 H1:Hp}(wd:Wd A G H)(s:Step A G H G1 H1){ps:Array ae}(h:tT A G1 ps):Step A G H G1 (ah H1 A.tab (.tbl ps)):=by
 obtain⟨t1,ps0,t2,t3⟩:=s.wd.tab;refine⟨⟨fun b o e=>?_,fun m dx lc opt dd e=>?_,s.wd.inj,t1,ps,ax,h⟩,s.grow,fun b o e q=>?_,s.newc⟩
 .rw[aO (fun z=>by rw[z,t1]at e;cases e)];exact s.wd.sub b o e
 .obtain⟨h1,kvs,cs,h2,h3,h4⟩:=s.wd.cach m dx lc opt dd e;exact⟨h1,kvs,cs,by rw[aO (fun z=>by rw[z,t2]at h2;cases h2)];exact h2,h3,h4⟩
 .rw[aO (fun z=>q (.inl z))];exact s.keep b o e q
theorem Step.tab{A:Cn}{G H G1 H1 H2:Hp}(wd:Wd A G H)(s:Step A G H G1 H1)(t:pL A.tab A.lp A.lq H1 H2):∃G2,Step A G H G2 H2/\bh G1 G2/\∀q o,ar A H G1 H1 q o->ar A H G2 H2 q o:=by
 rcases t with rfl|⟨c,hc,ht,rfl⟩
 .exact⟨G1,s,fun _ _ e=>e,fun _ _ x=>x⟩
 .have s2:=s.newI wd hc (IP (A:=A) (q:=A.lq) (c:=c));have g1:=s.wd.noG hc;refine⟨_,s2.tabW wd (.inr ⟨c,rfl,ax⟩),bx g1,fun q o x=>?_⟩;exact(x.newI s.wd hc IP).other fun z=>x.nc (.inl z)
structure zw(K:aw)(mg:Str->Option ae)(base:aA)(A:Ad):Prop where
 lp:A.lp=⟨54,48,54,81⟩
 lq:A.lq=("lines_that_count":Str)++".<locals>."++"<lambda>"
 code:∀f o fd,mg "lines_that_count"=TL (.ref f)->K.lookup f=TL o->o.data=.func fd->∃cc,fd.code=.ref cc/\∀h,K.In h->PySem.W.CodeHd h cc A.tab
 blt:∃bm o,mg "__builtins__"=TL (.ref bm)/\bm≠nV/\o.cls=.type "module"/\o.dict=TL nV/\o.data=.plain/\base.get? bm=TL o
section
variable{P:aJ}{w:aH}{K:aw}{mg:Str->Option ae}{base:aA}{A:Ad}
theorem Kn.ofC{x:Str}{st:aI}{N ps:List Str}{k:Nat}{sp:Sp}(D:Df K mg x st ps)(S:aV N ps (aN st))(len:∀vs H Q E,sp vs H Q E->vs.length=ps.length)
  (hbody:∀(f:aa)(fd:kn)(o:Obj),mg x=TL (.ref f)->K.lookup f=TL o->o.data=.func fd->∀(A:bM)(outer:List Env)(s:aj)(H:Hp)(vs:List V)(Q:VK)(E:XK),cA k (A.deeper (iS x (aN st) s.heap.objs.size f fd.code))->sp vs H Q E->
   ∃t,fA (iQ aW P w K mg base N x (aN st) f fd.code A outer s H E).nox (jq st) t/\t {nx:=fun _ H'=>Q .non H',rt:=Q} (start N vs) H):Kn P w K mg base aW x (k+1) ps sp:=by
 obtain⟨f,fd,F,hm,hb⟩:=D;obtain⟨oc,od,kV,doc,pm,an,cdv,ct,osl,rfl,lk,hcd⟩:=F.ex;refine⟨f,_,AU lk hcd S len fun A outer s H vs Q E hr hsp=>?_,hm,F.kp,hb⟩;obtain⟨t,h,q⟩:=hbody f _ _ hm lk rfl A outer s H vs Q E hr hsp;exact⟨t,h.nox,q⟩
noncomputable def HQ:oJ:={posonlyargs:=[],args:=[{arg:="n",annotation:=J0,pos:=⟨54,55,54,56⟩}],vararg:=J0,kwonlyargs:=[],kw_defaults:=[],kwarg:=J0,defaults:=[]}
noncomputable def HP:aM:=.Call (.Name "len" ⟨54,58,54,61⟩) [.Attribute (.Subscript (.Name "lists" ⟨54,62,54,67⟩) (.Name "n" ⟨54,68,54,69⟩) ⟨54,62,54,70⟩) "directory" ⟨54,62,54,80⟩] [] ⟨54,58,54,81⟩
noncomputable def HR:cN:={kind:=.function,names:=[(jK "n",.local),(jK "lists",.free),(jK "len",.globalImplicit)],isGenerator:=J2,isCoroutine:=J2,more:=[]}
theorem QI(q:Str):zx q "lists" "directory" HQ HP HR where
 txt:=⟨_,_,_,_,_,_,rfl⟩
 kind:=rfl
 co:=rfl
 ge:=rfl
 vn_:=rfl
 n_:=rfl
 len_:=rfl
 cell:=by decide
 bind:=fun _ _ _ _ _=>rfl
 hd:=by decide
 hcd:=by decide
theorem BU(T:aY K mg A)(LT:zw K mg base A):Kn P w K mg base aW "lines_that_count" 8 ["lists","is_directory","path"] (Lx K A):=by
 have sc:aV ["lists","is_directory","path","chosen","number"] ["lists","is_directory","path"] (aN Du):=bp;refine Kn.ofC T.aaz sc (fun vs H Q E h=>?_) (fun f fd o hm0 hk0 hd0 A0 outer s0 H vs Q E hr h=>?_)
 .obtain⟨_,_,_,_,_,_,_,rfl,_⟩:=h;rfl
 obtain⟨G,la,as,ls,isDir,a,p,rfl,wd,hla,hLs,hll,hgp,hs,hsl,q⟩:=h;have hu:=mL hr
 have LI:EC (iQ aW P w K mg base ["lists","is_directory","path","chosen","number"] "lines_that_count" (aN Du) f fd.code A0 outer s0 H E).nox A.tab A.lp A.lq "lists" "directory" HQ HP HR:={
  tx:=QI _
  q_:=LT.lq
  def_:=rfl
  free:=by decide
  clo:=fun _=>rfl
  slot:=rfl
  kind:=rfl
  code:=LT.code f o fd hm0 hk0 hd0
  blt:=LT.blt
  room:=hr.depth}
 have lp:=LT.lp
 refine⟨_,(aq (pS 3 sc.nd Jv)
   (aq (gf ff rfl (dw (Uj (by rw[lp]at LI;exact LI) rfl rfl T.ZQ rfl T.ZP T.Ze (af (cL T.Ze (pv 0)) ao))) (gN 4 sc.nd)
    (au (bA (dZ (cF (SZ T) hr (af (pv 2) (af (bN (bP eX (pv 0) (pv 4) (fun _ _=>rfl)) rfl) ao))))
     (au (eI (cF (SL T) hr (af (pv 3) (af (pv 4) (af (bP eX (pv 0) (pv 4) (fun _ _=>rfl)) (af (pv 1) (af (pv 2) ao))))))))
     bG)))
   (au (aL (pv 3))))),?_⟩
 cb_eq
 intro dc hdc;have s1:=(Step.refl wd).new wd hdc (o:=.dK []);have o1:=ar.make wd (Step.refl wd) hdc (o:=.dK []);have hal:as.length=ls.length:=bU hLs;unfold Md
 cb_eq
 refine cy (ak.of (s1.keepL wd hla)) ?_;refine⟨la,as.map V.ref,fun z=>((gL ls z.toNat:Nat):Int),rfl,rfl,by rw[aE];lia,?_,ak.of (s1.keepL wd hla),fun i x hx=>?_,fun H2 D ks ts hD hp hso hf=>?_⟩
 .obtain⟨t1,ps,t2,t3⟩:=s1.wd.tab;rcases t3 with rfl|⟨c,rfl,hc⟩
  .exact .inl t2
  .rw[lp]at t2;exact .inr ⟨c,t2,s1.wd.sub _ _ hc⟩
 .obtain⟨pa,hpa,rfl⟩:=eM hx;obtain⟨l,hl,dx,ld,ll,lv,hP⟩:=dP hLs hpa;refine⟨pa,A.plist,dx,_,ld,_,rfl,s1.wd.sub _ _ hP.at_,T.Zm,T.ZD,CB,ak.of (s1.wd.sub _ _ hP.dir),?_⟩;show((gL ls ((i:Int)).toNat:Nat):Int)=_;rw[fD,cY];unfold gL;rw[hl]
 rw[aE,hal]at hp hf;rw[<-lp]at ts;obtain⟨is,rfl,hperm,hpw⟩:=Rc (d:=gL ls) hp hso hf;clear hp hso hf;obtain⟨G2,s2,sm,own⟩:=s1.tab wd ts;have o2:=own _ _ o1;have s3:=s2.newI wd hD (aS (xs:=(is.map fun(k:Nat)=>(k:Int)).map V.int));have o3:=o2.newI s2.wd hD (aS (A:=A.toCn) (xs:=(is.map fun(k:Nat)=>(k:Int)).map V.int));refine kh (ak.of ax) (fun j σ H'=>∃(G4:Hp)(kvs:List (aP×V))(g:jD)(x4:Option V),σ=[TL (.ref la),TL (.bl isDir),TL (.ref a),TL (.ref dc),x4]/\Step A.toCn G H G4 H'/\ar A.toCn H G4 H' dc (.dK kvs)/\G4 D=TL (.lst ((is.map fun(k:Nat)=>(k:Int)).map V.int))/\iH G4 kvs g/\kU ls p isDir (fun i n=>i∈is.take j/\∃l r,kC ls i n l r) g) ?_ ?_ ?_ ?_
 .exact⟨_,[],fun _=>J0,J0,rfl,s3,o3,ax,⟨by simp,fun _ z=>(nomatch z),fun E=>.inl ⟨rfl,rfl⟩⟩,pQ Oh (fun _ _ h=>h.elim) fun i n k _ _ h _=>by simp at h⟩
 .rintro j σ H' _ ⟨G4,kvs,g,x4,rfl,s4,o4,hD4,_⟩;exact ak.of (s4.wd.sub _ _ hD4)
 .rintro j x σ H' hx ⟨G4,kvs,g,x4,rfl,s4,o4,hD4,hd4,hb4⟩;rw[gH]at hx;obtain⟨i,hji,rfl⟩:=eM hx;have hil:i<ls.length:=mr.mp (hperm.mem_iff.mp (du hji));obtain⟨l,hl⟩:∃l,ls[i]?=TL l:=⟨_,bO hil⟩;obtain⟨pa,hpa,dx,ld,ll,lv,hP⟩:=jW hLs hl;have hxa:(as.map V.ref)[i]?=TL (.ref pa):=by rw[cI,hpa];rfl
  have hP4:=hP.mono (s4.same wd);have oG:is.take (j+1)=is.take j++[i]:=by rw[List.take_add_one,hji];rfl
  cb_eq
  refine fB (k:=i) (ak.of (s4.keepL wd hla)) hxa ?_;refine bz (s4.wd.sub _ _ hP4.at_) T.Zm T.ZD CB ?_;refine⟨G4,a,ld,aD p,aD l.dir,rfl,s4.wd,hs.mono (s4.same wd),hP4.dir,hP4.dlen,fun G5 H5 v s5 hv=>?_⟩;subst hv;have s45:=s4.trans wd s5;have o5:=o4.call s5;have hD5:=s5.same s4.wd _ _ hD4
  cb_eq
  by_cases c:aD l.dir=[]\/(aD p).take ((aD l.dir).length+1)=aD l.dir++[47]
  .rw[dT c];simp only[if_true];obtain⟨q',hq',e⟩:=(FR hP.ok hgp).mp c;obtain⟨H0,e0,h0,s0⟩:=o5.open_ wd s45;refine fB (k:=i) (ak.of (s45.keepL wd hla)) hxa ?_;refine⟨G5,H0,dc,pa,a,kvs,ls,i,l,q',isDir,_,g,dx,ld,ll,lv,rfl,e0,h0,s0.wd,hP4.mono (s5.same s4.wd),hl,hq',by rw[<-e];exact hgp,by rw[<-e];exact hs.mono (s45.same wd),by rw[<-e];exact hsl,hd4.mono (s5.same s4.wd),by rw[<-e];exact hb4,?_,fun G6 H6 kvs' g' s6 o6 hd6 hb6=>?_⟩
   .rintro n i' n' ⟨hi',_⟩;obtain⟨j',hj'⟩:=Ni.mp hi';rw[List.getElem?_take]at hj';split at hj'
    .rename_i hlt
     obtain⟨b1,b2⟩:=aK.mp hj';obtain⟨b3,b4⟩:=aK.mp hji;have:=zJ.mp hpw j' j b1 b3 hlt;rw[b2,b4]at this;unfold gj;simp only;lia
    .cases hj'
   .rw[<-e]at hb6;refine⟨G6,kvs',g',_,rfl,s0.trans wd s6,⟨o5.new,o6.g,o6.nc,o6.at_⟩,s6.same s0.wd _ _ hD5,hd6,pQ hb6 ?_ ?_⟩
    .rintro i' n' (⟨h1,h2⟩|⟨rfl,r,hr⟩)
     .exact⟨by rw[oG];exact cW _ h1,h2⟩
     .exact⟨by rw[oG];exact dA _ (cE.mpr rfl),l,r,hr⟩
    .rintro i' n' k _ _ ⟨h1,l',r',h2⟩ _;rw[oG]at h1;rcases cn.mp h1 with h1|h1
     .exact .inl ⟨h1,l',r',h2⟩
     .obtain rfl:=cE.mp h1
      have:l'=l:=by
       have:=h2.1;rw[hl]at this;exact(dN this).symm
      subst this;exact .inr ⟨rfl,r',h2⟩
  .rw[dF c];simp only[aU,if_false];refine⟨G5,kvs,g,_,rfl,s45,o5,hD5,hd4.mono (s5.same s4.wd),pQ hb4 ?_ ?_⟩
   .rintro i' n' ⟨h1,h2⟩;exact⟨by rw[oG];exact cW _ h1,h2⟩
   .rintro i' n' k h0 hk ⟨h1,h2⟩ ⟨l',r',hra,hf⟩;rw[oG]at h1;rcases cn.mp h1 with h1|h1
    .exact⟨h1,h2⟩
    .obtain rfl:=cE.mp h1
     have:l'=l:=by
      have:=hra.1;rw[hl]at this;exact(dN this).symm
     subst this;obtain⟨z,ez,hz,_⟩:=vf.mp hf;refine J5 ((FR hP.ok hgp).mpr ⟨z++p.drop k,fun y=>hz (EE.mp y).1,?_⟩) c;rw[<-dt,<-ez,pk]
 .rintro σ H' ⟨G4,kvs,g,x4,rfl,s4,o4,hD4,hd4,hb4⟩
  cb_eq
  refine q G4 H' dc kvs g s4 o4 hd4 fun k h0 hk=>Of hgp hb4 ?_ h0 hk;rintro i n ⟨l,r,h⟩;refine⟨?_,l,r,h⟩;rw[aE,aE,cv];exact hperm.mem_iff.mpr (mr.mpr (aK.mp h.1).1)
noncomputable def qd(sa:aa)(e:Nat)(la:aa):List (Str×V):=[("starts",.ref sa),("end",.int e),("steps",.ref la)]
def iO(G:Hp)(p:aa)(l:List (Nat×Nat)):Prop:=∃ts:List aa,G p=TL (.lst (ts.map V.ref))/\bK (fun t x=>G t=TL (.tup [.int (x.1:Nat),.int (x.2:Nat)])) ts l
def pI(G:Hp)(p:aa)(st:List (List (Nat×Nat))):Prop:=∃as:List aa,G p=TL (.lst (as.map V.ref))/\bK (iO G) as st
def iK(A:Ad)(G:Hp)(p:aa)(M:ba):Prop:=∃dx sa la,G p=TL (.ins A.machine dx (qd sa M.fin la))/\G sa=TL (.lst (iv M.starts))/\pI G la M.steps
theorem iO.mono{G G':Hp}(e:bh G G'){p:aa}{l:List (Nat×Nat)}(h:iO G p l):iO G' p l:=by
 obtain⟨ts,h1,h2⟩:=h;exact⟨ts,e _ _ h1,cP (fun _ _ z=>e _ _ z) h2⟩
theorem pI.mono{G G':Hp}(e:bh G G'){p:aa}{l:List (List (Nat×Nat))}(h:pI G p l):pI G' p l:=by
 obtain⟨ts,h1,h2⟩:=h;exact⟨ts,e _ _ h1,cP (fun _ _ z=>z.mono e) h2⟩
theorem iK.mono{G G':Hp}(e:bh G G'){p:aa}{M:ba}(h:iK A G p M):iK A G' p M:=by
 obtain⟨dx,sa,la,h1,h2,h3⟩:=h;exact⟨dx,sa,la,e _ _ h1,e _ _ h2,h3.mono e⟩
theorem xP{sa la:aa}{e:Nat}:(qd sa e la).lookup ("starts":Str)=TL (.ref sa):=by rfl
theorem xO{sa la:aa}{e:Nat}:(qd sa e la).lookup ("end":Str)=TL (.int e):=by rfl
theorem uG{sa la:aa}{e:Nat}:(qd sa e la).lookup ("steps":Str)=TL (.ref la):=by rfl
theorem Si{A:Cn}{C dx sa la:aa}{e:Nat}:fU A (.ins C dx (qd sa e la)):=uN (by show TL ("starts":Str)≠TL "cells";decide +kernel)
def Lp:Ad->Sp:=fun A vs H Q _=>∃(x dx sa la:aa)(e:Nat),vs=[.ref x,.ref sa,.int e,.ref la]/\H x=TL (.ins A.machine dx [])/\Q .non (ah H x (.ins A.machine dx (qd sa e la)))
theorem BP(T:aY K mg A):fE P w K mg base aW A.machine "Machine" 1 ["self","starts","end","steps"] (Lp A):=by
 have sc:aV ["self","starts","end","steps"] ["self","starts","end","steps"] (aN CU):=bp;refine fE.of T.aa3 sc (fun vs H Q E h=>?_) (fun f cdv A0 outer s H vs Q E hr h=>?_)
 .obtain⟨_,_,_,_,_,rfl,_⟩:=h;rfl
 obtain⟨x,dx,sa,la,e,rfl,h1,q⟩:=h
 refine⟨_,(aq (fj (pv 0) (pv 1) rfl)
   (aq (fj (pv 0) (pv 2) rfl)
   (au (fj (pv 0) (pv 3) rfl)))),?_⟩
 cb_eq
 refine fq h1 T.Zh T.Zx (by decide) ?_
 cb_eq
 refine fq ax T.Zh T.Zw qc ?_
 cb_eq
 refine fq ax T.Zh T.Zu uF ?_;rw[gX,gX];exact q
theorem AO{G H G1 H1:Hp}{Q:VK}{sa la:aa}{M:ba}{e:Int}(wd:Wd A.toCn G H)(s:Step A.toCn G H G1 H1)(he:e=(M.fin:Int))(h1:G1 sa=TL (.lst (iv M.starts)))(h2:pI G1 la M.steps)(q:∀G' H' p,Step A.toCn G H G' H'->iK A G' p M->Q (.ref p) H'):
  ∀x dx,H1 x=J0->H1 dx=J0->dx≠x->Lp A [.ref x,.ref sa,.int e,.ref la] (ah (ah H1 dx (.own x)) x (.ins A.machine dx [])) (fun v H2=>v=.non/\Q (.ref x) H2) E0:=by
 intro x dx hx hd hne;subst he;refine⟨x,dx,sa,la,M.fin,rfl,ax,rfl,?_⟩;rw[gX];have n:=bx (o:=.ins A.machine dx (qd sa M.fin la)) (s.wd.noG hx);exact q _ _ _ (s.mkI wd hx hd hne Si) ⟨dx,sa,la,ax,n _ _ h1,h2.mono n⟩
def Xq(A:Ad):Sp:=fun vs H Q _=>∃G,vs=[]/\Wd A.toCn G H/\∀G' H' p,Step A.toCn G H G' H'->iK A G' p jw->Q (.ref p) H'
theorem Wr:(1:Int)*2^(fR 46)=((eC:Nat):Int):=by decide
theorem Tc(T:aY K mg A):Kn P w K mg base aW "path_machine" 4 [] (Xq A):=by
 have sc:aV ["dot","no_dot","steps"] [] (aN Kv):=bp;refine Kn.of T.aaH sc (fun vs H Q E h=>?_) (fun f cdv A0 outer s0 H vs Q E hr h=>?_)
 .obtain⟨_,rfl,_⟩:=h;rfl
 obtain⟨G,rfl,wd,q⟩:=h
 refine⟨_,(aq (pS 0 sc.nd (bb ju aB (bC T.ZH rfl)))
   (aq (pS 1 sc.nd (bb Ce (ig (qj T) (hr.mono (by decide)) bB rfl) (pv 0)))
   (aq (pS 2 sc.nd (bt (af (bt (af (dY (af (pv 0) (af (bC T.abG rfl) ao))) (af (dY (af (pv 1) (af (bC T.ZC rfl) ao))) ao))) (af (bt (af (dY (af (pv 0) (af (bC T.abK rfl) ao))) (af (dY (af (pv 1) (af (bC T.ZC rfl) ao))) ao))) (af (bt (af (dY (af (ig (qj T) (hr.mono (by decide)) bB rfl) (af (bC T.ZC rfl) ao))) ao)) (af (bt (af (dY (af (ig (qj T) (hr.mono (by decide)) bB rfl) (af (bC T.ZC rfl) ao))) (af (dY (af (bb ju aB (bC T.Zk rfl)) (af (bC T.ZZ rfl) ao))) ao))) ao))))))
   (au (aL (jY (BP T) (hr.mono (by decide)) bB rfl (af (bt (af (bC T.ZZ rfl) ao)) (af (bC T.ZC rfl) (af (pv 2) ao))))))))),?_⟩
 cb_eq
 refine⟨jo (m:=1) (k:=46) (n:=1) (by decide) (by decide),rfl,?_⟩;rw[Wr]
 cb_eq
 rw[Ay];refine⟨by decide,fun t1 h1=>⟨by decide,fun t2 h2=>⟨by decide,fun l1 k1=>?_⟩⟩⟩;refine⟨by decide,fun t3 h3=>⟨by decide,fun t4 h4=>⟨by decide,fun l2 k2=>?_⟩⟩⟩;refine⟨rfl,by decide,fun t5 h5=>⟨by decide,fun l3 k3=>?_⟩⟩;refine⟨rfl,by decide,fun t6 h6=>?_⟩;refine⟨jo (m:=1) (k:=47) (n:=1) (by decide) (by decide),?_⟩;rw[yw];refine⟨by decide,fun t7 h7=>⟨by decide,fun l4 k4=>⟨by decide,fun la k5=>?_⟩⟩⟩;have e1:=(Step.refl wd).newI wd h1 (o:=.tup [.int (eC:Nat),.int 1]) dh;have e2:=e1.newI wd h2 (o:=.tup [.int (dW:Nat),.int 3]) dh;have e3:=e2.newI wd k1 (o:=.lst [.ref t1,.ref t2]) aS;have e4:=e3.newI wd h3 (o:=.tup [.int (eC:Nat),.int 2]) dh;have e5:=e4.newI wd h4 (o:=.tup [.int (dW:Nat),.int 3]) dh;have e6:=e5.newI wd k2 (o:=.lst [.ref t3,.ref t4]) aS;have e7:=e6.newI wd h5 (o:=.tup [.int (aQ:Nat),.int 3]) dh;have e8:=e7.newI wd k3 (o:=.lst [.ref t5]) aS;have e9:=e8.newI wd h6 (o:=.tup [.int (aQ:Nat),.int 3]) dh;have e10:=e9.newI wd h7 (o:=.tup [.int (cb:Nat),.int 0]) dh;have e11:=e10.newI wd k4 (o:=.lst [.ref t6,.ref t7]) aS;have e12:=e11.newI wd k5 (o:=.lst [.ref l1,.ref l2,.ref l3,.ref l4]) aS;have n12:=bx (o:=.lst [.ref l1,.ref l2,.ref l3,.ref l4]) (e11.wd.noG k5);have n11:=(bx (o:=.lst [.ref t6,.ref t7]) (e10.wd.noG k4)).trans n12;have n10:=(bx (o:=.tup [.int (cb:Nat),.int 0]) (e9.wd.noG h7)).trans n11;have n9:=(bx (o:=.tup [.int (aQ:Nat),.int 3]) (e8.wd.noG h6)).trans n10;have n8:=(bx (o:=.lst [.ref t5]) (e7.wd.noG k3)).trans n9;have n7:=(bx (o:=.tup [.int (aQ:Nat),.int 3]) (e6.wd.noG h5)).trans n8;have n6:=(bx (o:=.lst [.ref t3,.ref t4]) (e5.wd.noG k2)).trans n7;have n5:=(bx (o:=.tup [.int (dW:Nat),.int 3]) (e4.wd.noG h4)).trans n6;have n4:=(bx (o:=.tup [.int (eC:Nat),.int 2]) (e3.wd.noG h3)).trans n5;have n3:=(bx (o:=.lst [.ref t1,.ref t2]) (e2.wd.noG k1)).trans n4;have n2:=(bx (o:=.tup [.int (dW:Nat),.int 3]) (e1.wd.noG h2)).trans n3
 have st:pI (ah (ah (ah (ah (ah (ah (ah (ah (ah (ah (ah (ah G t1 (.tup [.int (eC:Nat),.int 1])) t2 (.tup [.int (dW:Nat),.int 3])) l1 (.lst [.ref t1,.ref t2])) t3 (.tup [.int (eC:Nat),.int 2])) t4 (.tup [.int (dW:Nat),.int 3])) l2 (.lst [.ref t3,.ref t4])) t5 (.tup [.int (aQ:Nat),.int 3])) l3 (.lst [.ref t5])) t6 (.tup [.int (aQ:Nat),.int 3])) t7 (.tup [.int (cb:Nat),.int 0])) l4 (.lst [.ref t6,.ref t7])) la (.lst [.ref l1,.ref l2,.ref l3,.ref l4])) la jw.steps:=
  ⟨[l1,l2,l3,l4],ax,.cons ⟨[t1,t2],n4 _ _ ax,.cons (n2 _ _ ax) (.cons (n3 _ _ ax) .nil)⟩ (.cons ⟨[t3,t4],n7 _ _ ax,.cons (n5 _ _ ax) (.cons (n6 _ _ ax) .nil)⟩
   (.cons ⟨[t5],n9 _ _ ax,.cons (n8 _ _ ax) .nil⟩ (.cons ⟨[t6,t7],n12 _ _ ax,.cons (n10 _ _ ax) (.cons (n11 _ _ ax) .nil)⟩ .nil)))⟩
 cb_eq
 refine⟨by decide,fun sa k6=>?_⟩;have e13:=e12.newI wd k6 (o:=.lst [.int 0]) aS;exact AO (M:=jw) wd e13 rfl ax (st.mono (bx (e12.wd.noG k6))) q
def Xw(A:Ad):Sp:=fun vs H Q _=>∃(G:Hp)(n:Nat),vs=[.int n]/\Wd A.toCn G H/\n<2^10000/\∀G' H' p l,Step A.toCn G H G' H'->G' p=TL (.lst (iv l))->l.length<=10000->l.Nodup->(∀t,t∈l↔n.testBit t=J1)->Q (.ref p) H'
theorem IW(T:aY K mg A):Kn P w K mg base aW "places_in" 1 ["places"] (Xw A):=by
 have sc:aV ["places","place"] ["places"] (aN KA):=bp;refine Kn.of T.aaM sc (fun vs H Q E h=>?_) (fun f cdv A0 outer s0 H vs Q E hr h=>?_)
 .obtain⟨_,_,rfl,_⟩:=h;rfl
 obtain⟨G,n,rfl,wd,hn,q⟩:=h;have hbits:lZ (n:Int)<=10000:=wG.mpr (by rw[zq];exact hn)
 have hlow:n<2^lZ (n:Int):=by
  have:=wG.mp (aF (lZ (n:Int)));rw[zq]at this;exact this
 generalize hb:lZ (n:Int)=b at hbits hlow;refine⟨_,(au (aL (ij rfl sc.nd (Ut rfl T.ZP (af (Ju NF NG NH IF (pv 0)) ao)) (own:=[("place",1)]) (fI (by kernel_rfl)) (fun _ _ _ _ _=>by exact(gN 1 sc.nd)) (fun _ _ _ _ _=>by exact(oA (bL eF (bb jU (bb uV (pv 0) (pv 1)) aB) aB (bq _)))) (fun _ _ _ _ _=>by exact(pv 1))))),?_⟩
 cb_eq
 refine⟨rfl,MJ ?_⟩;rw[hb];refine YR (by lia) (fun D i H'=>Step A.toCn G H G H'/\ar A.toCn H G H' D (.lst (iv ((er i).filter fun t=>n.testBit t)))) ?_ ?_ ?_
 .intro D hD;exact⟨(Step.refl wd).new wd hD,ar.make wd (Step.refl wd) hD⟩
 .rintro D i H' hi ⟨s1,o1⟩
  cb_eq
  refine⟨by lia,?_⟩;rw[ua];rw[List.range_succ,qN];cases ht:n.testBit i with
  |true=>
   simp only[if_true];refine⟨_,o1.at_,?_,s1.put wd o1,?_⟩
   .rw[dO];have:=pj (fun t=>n.testBit t) (er i);rw[jf]at this;exact cf (m:=10000) (by lia) (by decide)
   .rw[kZ,J4 ht,pf,<-iA];exact o1.put_
  |false=>
   simp only[aU,if_false];refine⟨s1,?_⟩;rw[kZ,J3 (by rw[ht];decide),pf,cD];exact o1
 .rintro D H' ⟨s1,o1⟩
  cb_eq
  refine q _ _ D _ (s1.sealO wd o1 aS) ax ?_ (List.Pairwise.filter _ List.nodup_range) fun t=>?_
  .have:=pj (fun t=>n.testBit t) (er b);rw[jf]at this;lia
  .rw[qR,mr];refine⟨fun z=>z.2,fun z=>⟨?_,z⟩⟩;by_cases hlt:t<b
   .exact hlt
   .rw[wo (cR hlow (kx (by decide) (by lia)))]at z;cases z
theorem uj{cs:List MC}{opt k r t:Nat}(ho:iw cs (·.opt) opt)(hk:k<=cs.length)(he:oR opt (2^k) r):r.testBit t=J1↔k<=t/\t<=cs.length/\∀i,k<=i->i<t->∃d,cs[i]?=TL d/\d.opt=true:=by
 rw[he t];constructor
 .rintro⟨j,h1,h2,h3⟩;rw[pA,decide_eq_true_iff]at h2;subst h2;have hall:∀i,k<=i->i<t->∃d,cs[i]?=TL d/\d.opt=true:=fun i a b=>(ho i).mp (h3 i a b);refine⟨h1,?_,hall⟩;by_cases z:t=k
  .lia
  .obtain⟨d,hd,_⟩:=hall (t-1) (by lia) (by lia);have:=(aK.mp hd).1;lia
 .rintro⟨h1,_,h3⟩;exact⟨k,h1,by rw[pA];simp,fun i a b=>(ho i).mpr (h3 i a b)⟩
def Xs(A:Ad):Sp:=fun vs H Q _=>∃(G:Hp)(m:aa)(cs:List MC),vs=[.ref m]/\Wd A.toCn G H/\gk A.toCn G m cs/\cs.length<=1000/\∀G' H' p M,Step A.toCn G H G' H'->iK A G' p M->jI cs M->(∀k,(M.from k).length<=cs.length+2)->M.starts.length<=cs.length+2->Q (.ref p) H'
def MR(cs:List MC)(k:Nat)(l:List (Nat×Nat)):Prop:=∀c,cs[k]?=TL c->∀S t,(S,t)∈l↔(S=c.stays/\t=k)\/(S=c.moves/\k+1<=t/\t<=cs.length/\∀i,k+1<=i->i<t->∃d,cs[i]?=TL d/\d.opt=J1)
theorem Te(T:aY K mg A):Kn P w K mg base aW "pattern_machine" 3 ["matcher"] (Xs A):=by
 have sc:aV ["matcher","steps","place","cell","onward","target"] ["matcher"] (aN Kx):=bp;refine Kn.of T.aaJ sc (fun vs H Q E h=>?_) (fun f cdv A0 outer s0 H vs Q E hr h=>?_)
 .obtain⟨_,_,_,rfl,_⟩:=h;rfl
 obtain⟨G,m,cs,rfl,wd,⟨dx,lc,opt,dd,hm,⟨as,ha,pr⟩,ho⟩,hl,q⟩:=h;have hM:gk A.toCn G m cs:=⟨dx,lc,opt,dd,hm,⟨as,ha,pr⟩,ho⟩
 refine⟨_,(aq (pS 1 sc.nd (bt ao))
   (aq (gf ff rfl (oy rfl T.Zo (af (bN (pv 0) rfl) ao)) (ou rfl (ip (gN 2 sc.nd) (ip (gN 3 sc.nd) ow)))
    (aq (CD rfl sc.nd (i:=4) rfl rfl (yF rfl rfl rfl rfl) (dw (cF (IW T) hr (af (ik (pv 0) T.Zg (xW T) (hr.mono (by decide)) bB (af (bb ju aB (bb dX (pv 2) aB)) ao)) ao))) (own:=[("target",5)]) (fI (by kernel_rfl)) (fun _ _ _ _ _=>by exact(gN 5 sc.nd)) (fun _ _ _ _ _=>by exact jZ) (fun _ _ _ _ _=>by exact(dY (af (sC (K:=K) rfl (pv 3) rfl) (af (pv 5) ao)))))
    (au (eI (eN eT gn gr gc (pv 1) (af (bb sx (bt (af (dY (af (bN (pv 3) rfl) (af (pv 2) ao))) ao)) (pv 4)) ao))))))
   (aq (eI (eN eT gn gr gc (pv 1) (af (bt ao) ao)))
   (au (aL (jY (BP T) (hr.mono (by decide)) bB rfl (af (cF (IW T) hr (af (ik (pv 0) T.Zg (xW T) (hr.mono (by decide)) bB (af aB ao)) ao)) (af (cL T.Ze (bN (pv 0) rfl)) (af (pv 1) ao))))))))),?_⟩
 cb_eq
 refine⟨by decide,fun p hp=>?_⟩;have s1:=(Step.refl wd).new wd hp (o:=.lst []);have o1:=ar.make wd (Step.refl wd) hp (o:=.lst []);refine bz (s1.wd.sub _ _ hm) T.Zg T.Zv uK ?_;refine qB (ak.of (s1.wd.sub _ _ ha)) (fun i σ H'=>∃(x2 x3 x4 x5:Option V)(G1:Hp)(st:List (List (Nat×Nat)))(sa:List aa),σ=[TL (.ref m),TL (.ref p),x2,x3,x4,x5]/\Step A.toCn G H G1 H'/\ar A.toCn H G1 H' p (.lst (sa.map V.ref))/\bK (iO G1) sa st/\st.length=i/\(∀k l,st[k]?=TL l->MR cs k l/\l.length<=cs.length+2)) ?_ ?_ ?_ ?_
 .exact⟨J0,J0,J0,J0,G,[],[],rfl,s1,o1,.nil,rfl,fun k l h=>by simp at h⟩
 .rintro i σ H' _ ⟨_,_,_,_,G1,_,_,_,s2,_⟩;exact ak.of (s2.wd.sub _ _ (s2.same wd _ _ ha))
 .rintro i v σ H' T0 hv ⟨x2,x3,x4,x5,G1,st,sa,rfl,s2,o2,pst,hsl,hst⟩ hT;obtain⟨pc,hpc,rfl⟩:=eM hv;obtain⟨c,hci,dc,hcell⟩:=dP pr hpc;have hi:i<cs.length:=(aK.mp hci).1;have s3:=s2.new wd hT (o:=.tup [.int (i:Nat),.ref pc]);have o3:=o2.new_ hT (o':=.tup [.int (i:Nat),.ref pc])
  cb_eq
  refine eO (s3.wd.sub _ _ (s3.same wd _ _ hm)) xR ?_;rw[jT];refine⟨jo (m:=1) (n:=1) (by decide) (by lia),?_⟩;rw[ya];refine⟨G1,m,cs,2^(i+1),rfl,s3.wd,s3.matAt wd hM,by lia,fun opt' r ho' he=>?_⟩;have hr:r<2^(cs.length+1):=GQ (uI ho') (pz (by decide) (by lia)) he;refine⟨G1,r,rfl,s3.wd,cR hr (kx (by decide) (by lia)),fun G4 H4 pl l s4 hpl hll hlnd hlm=>?_⟩;have s34:=s3.trans wd s4;have o4:=o3.call s4;have pst4:=cP (fun _ _ z=>iO.mono (s4.same s3.wd) z) pst;refine gY (ak.of (s34.wd.sub _ _ hpl)) (fun D j H'=>∃(G5:Hp)(ts:List aa),Step A.toCn G H G5 H'/\bh G4 G5/\ar A.toCn H G5 H' p (.lst (sa.map V.ref))/\ar A.toCn H G5 H' D (.lst (ts.map V.ref))/\D≠p/\bK (fun t x=>G5 t=TL (.tup [.int (c.moves:Nat),.int (x:Nat)])) ts (l.take j)) ?_ ?_ ?_ ?_
  .intro D hD;exact⟨G4,[],s34.new wd hD,bh.refl _,o4.new_ hD,ar.make wd s34 hD,(fun z=>by rw[z,o4.at_]at hD;cases hD),.nil⟩
  .rintro D j H' _ ⟨G5,_,s5,e45,_⟩;exact ak.of (s5.wd.sub _ _ (e45 _ _ hpl))
  .rintro D j x H' hx ⟨G5,ts,s5,e45,o5,od,hne,pts⟩;obtain⟨t,htj,rfl⟩:=mO hx
   cb_eq
   refine bz (s5.wd.sub _ _ (s5.same wd _ _ hcell)) T.Zp T.ZI Gi ?_;refine⟨by decide,fun tp htp=>?_⟩;have s6:=s5.newI wd htp (o:=.tup [.int (c.moves:Nat),.int (t:Nat)]) dh;have o6:=o5.newI s5.wd htp (o':=.tup [.int (c.moves:Nat),.int (t:Nat)]) dh;have od6:=od.newI s5.wd htp (o':=.tup [.int (c.moves:Nat),.int (t:Nat)]) dh;have n56:=bx (o:=.tup [.int (c.moves:Nat),.int (t:Nat)]) (s5.wd.noG htp);have hj:j<l.length:=(aK.mp htj).1;have htl:=bU pts;rw[cQ]at htl;refine⟨_,od6.at_,?_,_,ts++[tp],s6.put wd od6,e45.trans n56,o6.other (br hne),?_,hne,?_⟩
   .rw[aE];exact cf (m:=10000) (by lia) (by decide)
   .rw[cx];exact od6.put_
   .rw[PM.take_snoc htj];exact ji (cP (fun _ _ z=>n56 _ _ z) pts) ax
  .rintro D H' ⟨G5,ts,s5,e45,o5,od,hne,pts⟩;rw[dO,cv]at pts
   cb_eq
   refine⟨eP (ak.of o5.at_),?_⟩;refine bz (s5.wd.sub _ _ (s5.same wd _ _ hcell)) T.Zp T.ZJ Gj ?_;refine⟨by decide,fun t1 ht1=>⟨by decide,fun l1 hl1=>?_⟩⟩;have s6:=s5.newI wd ht1 (o:=.tup [.int (c.stays:Nat),.int (i:Nat)]) dh;have o6:=o5.newI s5.wd ht1 (o':=.tup [.int (c.stays:Nat),.int (i:Nat)]) dh;have od6:=od.newI s5.wd ht1 (o':=.tup [.int (c.stays:Nat),.int (i:Nat)]) dh;have n56:=bx (o:=.tup [.int (c.stays:Nat),.int (i:Nat)]) (s5.wd.noG ht1);have s7:=s6.new wd hl1 (o:=.lst [.ref t1]);have o7:=o6.new_ hl1 (o':=.lst [.ref t1]);have od7:=od6.new_ hl1 (o':=.lst [.ref t1]);have htl:=bU pts;refine sU ax od7.at_ (by rw[aE];exact jH (cf (m:=10001) (by show 1+ts.length<=10001;lia) (by decide))) fun l2 hl2=>?_;have s8:=s7.newI wd hl2 (o:=.lst ([.ref t1]++ts.map V.ref)) aS;have o8:=o7.newI s7.wd hl2 (o':=.lst ([.ref t1]++ts.map V.ref)) aS;have n68:=bx (o:=.lst ([.ref t1]++ts.map V.ref)) (s7.wd.noG hl2);have hstl:=bU pst;refine gh o8.at_ (by rw[aE,hstl];exact cf (m:=1000) (by lia) (by decide)) ?_;have e48:bh G4 _:=e45.trans (n56.trans n68);refine⟨_,_,_,_,_,st++[(c.stays,i)::l.map fun t=>(c.moves,t)],sa++[l2],rfl,s8.put wd o8,by rw[cx];exact o8.put_,?_,by rw[bw,dR];lia,?_⟩
   .refine ji (cP (fun _ _ z=>iO.mono e48 z) pst4) ⟨t1::ts,ax,.cons (n68 _ _ ax) ?_⟩
    have:∀{ts:List aa}{l:List Nat}{G5 G6:Hp},bh G5 G6->bK (fun t x=>G5 t=TL (.tup [.int (c.moves:Nat),.int (x:Nat)])) ts l->bK (fun t(x:Nat×Nat)=>G6 t=TL (.tup [.int (x.1:Nat),.int (x.2:Nat)])) ts (l.map fun t=>(c.moves,t)):=by
     intro ts l G5 G6 e h
     induction h with
     |nil=>exact .nil
     |cons h _ ih=>exact .cons (e _ _ h) ih
    exact this (n56.trans n68) pts
   .intro k l' hk;by_cases z:k<st.length
    .rw[jF z]at hk;exact hst k l' hk
    .have hk':=(aK.mp hk).1;rw[bw,dR]at hk';have e:k=st.length:=by lia
     subst e;rw[ph (aF _),qW]at hk;have hk:TL ((c.stays,i)::l.map fun t=>(c.moves,t))=TL l':=hk;cases hk;rw[hsl];refine⟨fun c' hc' S t=>?_,by rw[bH,aE];have:=lO (cs.length+1) l hlnd (fun t ht=>by have:=((uj ho' (by lia) he).mp ((hlm t).mp ht)).2.1;lia);lia⟩;rw[hci]at hc';cases hc';rw[bg,bS];constructor
     .rintro(z|⟨t',h1,h2⟩)
      .cases z;exact .inl ⟨rfl,rfl⟩
      .cases h2;exact .inr ⟨rfl,(uj ho' (by lia) he).mp ((hlm _).mp h1)⟩
     .rintro(⟨rfl,rfl⟩|⟨rfl,z⟩)
      .exact .inl rfl
      .exact .inr ⟨t,(hlm t).mpr ((uj ho' (by lia) he).mpr z),rfl⟩
 .rintro σ H' ⟨x2,x3,x4,x5,G1,st,sa,rfl,s2,o2,pst,hsl,hst⟩;rw[aE,bU pr]at hsl
  cb_eq
  refine⟨eP (ak.of o2.at_),by decide,fun l1 hl1=>?_⟩;have s3:=s2.newI wd hl1 (o:=.lst []) aS;have o3:=o2.newI s2.wd hl1 (o':=.lst []) aS;have n23:=bx (o:=.lst []) (s2.wd.noG hl1);have hstl:=bU pst;refine gh o3.at_ (by rw[aE,hstl];exact cf (m:=1000) (by lia) (by decide)) ?_;have s4:=s3.put wd o3 (o':=.lst (sa.map V.ref++[.ref l1]));have o4:=o3.put_ (o':=.lst (sa.map V.ref++[.ref l1]));have s5:=s4.sealO wd o4 aS;have n45:=bx (o:=.lst (sa.map V.ref++[.ref l1])) o4.g
  have hSt:pI (ah (ah G1 l1 (.lst [])) p (.lst (sa.map V.ref++[.ref l1]))) p (st++[[]]):=
   ⟨sa++[l1],by rw[ax,cx];rfl,ji (cP (fun _ _ z=>iO.mono (n23.trans n45) z) pst) ⟨[],n45 _ _ ax,.nil⟩⟩
  cb_eq
  refine eO (s5.wd.sub _ _ (s5.same wd _ _ hm)) xR ?_;refine⟨_,m,cs,1,rfl,s5.wd,s5.matAt wd hM,by lia,fun opt' r ho' he=>?_⟩;have he':oR opt' (2^0) r:=he;have hr:r<2^(cs.length+1):=GQ (uI ho') (pz (by decide) (by lia)) he';refine⟨_,r,rfl,s5.wd,cR hr (kx (by decide) (by lia)),fun G6 H6 pl l s6 hpl hll hlnd hlm=>?_⟩;have s56:=s5.trans wd s6;have e56:=s6.same s5.wd
  cb_eq
  refine bz (s56.wd.sub _ _ (s56.same wd _ _ hm)) T.Zg T.Zv uK ?_;refine cy (ak.of (s56.wd.sub _ _ (s56.same wd _ _ ha))) ?_
  have hat:∀k,ba.from ⟨l,cs.length,st++[[]]⟩ k=if k<cs.length then(st[k]?).getD []else []:=by
   intro k;unfold ba.from;show((st++[[]])[k]?).getD []=_;by_cases z:k<cs.length
   .rw[J4 z,jF (by lia)]
   .rw[J3 z,ph (by lia)];cases h:([[]]:List (List (Nat×Nat)))[k-st.length]? with
    |none=>rfl
    |some x=>
     have h1:=(aK.mp h).1;simp at h1;have:k-st.length=0:=by lia
     rw[this]at h;cases h;rfl
  refine AO (M:=⟨l,cs.length,st++[[]]⟩) wd s56 ?_ hpl (hSt.mono e56) fun G7 H7 p7 s7 hM7=>q _ _ p7 _ s7 hM7 ⟨rfl,?_,?_,?_,?_⟩ ?_ ?_
  .rw[aE,bU pr]
  .show(st++[[]]).length=_;rw[bw,dR,hsl]
  .intro t;show t∈l↔_;rw[hlm t,uj ho' (bI _) he'];exact⟨fun⟨_,h2,h3⟩=>⟨h2,fun i hi=>h3 i (bI _) hi⟩,fun⟨h2,h3⟩=>⟨bI _,h2,fun i _ hi=>h3 i hi⟩⟩
  .intro k c hc S t;have hk:k<cs.length:=(aK.mp hc).1;have e:st[k]?=TL st[k]:=bO (by lia);rw[hat,J4 hk,e];exact(hst k _ e).1 c hc S t
  .rw[hat,J3 (gI _)]
  .intro k;rw[hat];split
   .next hk=>
    have e:st[k]?=TL st[k]:=bO (by lia);rw[e];exact(hst k _ e).2
   .exact bI _
  .show l.length<=_;have:=lO (cs.length+1) l hlnd (fun t ht=>by have:=((uj ho' (bI _) he').mp ((hlm t).mp ht)).2.1;lia);lia
theorem ar.re{A:Cn}{H0 H1 G H:Hp}{q:aa}{o:HO}(x:ar A H1 G H q o)(h:H0 q=J0):ar A H0 G H q o:=⟨h,x.g,x.nc,x.at_⟩
theorem ye{A:Cn}{G He G1 H1:Hp}(wd:Wd A G He)(s:Step A G He G1 H1){m n:aa}{o1 o2:HO}(x:ar A He G1 H1 m o1)(y:ar A He G1 H1 n o2)(hne:m≠n):
  ∃Hb,H1=ah (ah Hb m o1) n o2/\Hb m=J0/\Hb n=J0/\Step A G He G1 Hb/\∀q o,ar A He G1 H1 q o->q≠m->q≠n->ar A He G1 Hb q o:=by
 obtain⟨Ha,e1,h1,sa⟩:=y.open_ wd s;have xa:ar A He G1 Ha m o1:=⟨x.new,x.g,x.nc,by have:=x.at_;rw[e1,aO hne]at this;exact this⟩;obtain⟨Hb,e2,h2,sb⟩:=xa.open_ wd sa;refine⟨Hb,by rw[e1,e2],h2,by have:=h1;rw[e2,aO (br hne)]at this;exact this,sb,fun q o z hm hn=>⟨z.new,z.g,z.nc,?_⟩⟩;have:=z.at_;rw[e1,aO hn,e2,aO hm]at this;exact this
noncomputable def ie(x:Nat×Nat):List aP:=[bZ (x.1:Int),bZ (x.2:Int)]
noncomputable def dU:Nat->List (Nat×Nat)->List (List aP×V)
 |_,[]=> []
 |n,x::r=>(ie x,V.int (n:Nat))::dU (n+1) r
theorem Jk{x y:Nat×Nat}(h:ie x=ie y):x=y:=by
 unfold ie at h;injection h with h1 h2;injection h2 with h2 _;injection h1 with h1;injection h2 with h2;exact Prod.ext (jc h1) (jc h2)
theorem HL:∀(l:List (Nat×Nat))(n:Nat)(x:Nat×Nat),dU n (l++[x])=dU n l++[(ie x,V.int ((n+l.length:Nat):Int))]
 | [],n,x=>rfl
 |y::l,n,x=>by
  show(ie y,V.int (n:Nat))::dU (n+1) (l++[x])=_;rw[HL l (n+1) x,show n+1+l.length=n+(y::l).length by rw[bH];lia];rfl
theorem HM:∀(l:List (Nat×Nat))(n:Nat),(dU n l).length=l.length
 | [],_=>rfl
 |_::l,n=>by show(dU (n+1) l).length+1=_;rw[HM l (n+1)];rfl
theorem HN:∀(l:List (Nat×Nat))(n:Nat){x:Nat×Nat},x∉l->cj (dU n l) (ie x)=J0
 | [],_,_,_=>rfl
 |y::l,n,x,h=>by
  show cj ((ie y,V.int (n:Nat))::dU (n+1) l) (ie x)=J0;rw[iD (fun z=>h (by rw[Jk z];exact dI))];exact HN l (n+1) (fun z=>h (bX _ z))
theorem Bi:∀(l:List (Nat×Nat))(n i:Nat){x:Nat×Nat},l.Nodup->l[i]?=TL x->cj (dU n l) (ie x)=TL (.int ((n+i:Nat):Int))
 | [],_,i,_,_,h=>by simp at h
 |y::l,n,0,x,_,h=>by
  have h:TL y=TL x:=h;cases h;show cj ((ie y,V.int (n:Nat))::dU (n+1) l) (ie y)=_;rw[jz rfl];rfl
 |y::l,n,i+1,x,hd,h=>by
  have h:l[i]?=TL x:=h;show cj ((ie y,V.int (n:Nat))::dU (n+1) l) (ie x)=_;rw[iD (fun z=>(jG.mp hd).1 (by rw[Jk z];exact du h)),Bi l (n+1) i (jG.mp hd).2 h,show n+1+i=n+(i+1) by lia]
noncomputable def lP(ml nd:aa):List (Str×V):=[("met",.ref ml),("numbers",.ref nd)]
theorem yf{ml nd:aa}:(lP ml nd).lookup ("met":Str)=TL (.ref ml):=by rfl
theorem yg{ml nd:aa}:(lP ml nd).lookup ("numbers":Str)=TL (.ref nd):=by rfl
theorem Cj{ml nd:aa}:(lP ml nd).lookup ("number_of":Str)=none:=by rfl
theorem BK{A:Cn}{C dx ml nd:aa}:fU A (.ins C dx (lP ml nd)):=uN (by show TL ("met":Str)≠TL "cells";decide +kernel)
def WI(A:Ad):Sp:=fun vs H Q _=>∃(G H1:Hp)(x dx:aa),vs=[.ref x]/\H=ah (ah H1 dx (.own x)) x (.ins A.pairs dx [])/\H1 x=J0/\H1 dx=J0/\dx≠x/\Wd A.toCn G H1/\
 ∀H' ml nd,Step A.toCn G H1 G H'->ar A.toCn H1 G H' x (.ins A.pairs dx (lP ml nd))->ar A.toCn H1 G H' ml (.lst [])->ar A.toCn H1 G H' nd (.dT [])->ml≠nd->Q .non H'
theorem Su(T:aY K mg A):fE P w K mg base aW A.pairs "Pairs" 1 ["self"] (WI A):=by
 have sc:aV ["self"] ["self"] (aN Dd):=bp;refine fE.of T.aa5 sc (fun vs H Q E h=>?_) (fun f cdv A0 outer s0 H vs Q E hr h=>?_)
 .obtain⟨_,_,_,_,rfl,_⟩:=h;rfl
 obtain⟨G,H1,x,dx,rfl,rfl,hx,hdx,hne,wd,q⟩:=h;have s1:Step A.toCn G H1 G (ah H1 dx (.own x)):=(Step.refl wd).new wd hdx;have hx1:ah H1 dx (.own x) x=none:=by rw[aO (br hne)];exact hx
 have s2:=s1.new wd hx1 (o:=.ins A.pairs dx []);have o2:=ar.make wd s1 hx1 (o:=.ins A.pairs dx [])
 refine⟨_,(aq (fj (pv 0) (bt ao) rfl)
   (au (fj (pv 0) Uh rfl))),?_⟩
 cb_eq
 refine⟨by decide,fun ml hml=>?_⟩;have s3:=s2.new wd hml (o:=.lst []);have o3:=o2.new_ hml (o':=.lst []);have om3:=ar.make wd s2 hml (o:=.lst []);refine fq o3.at_ T.Zj T.Zz (by decide) ?_;have hxm:x≠ml:=mS o3.at_ om3.at_ (by intro z;cases z);have s4:=s3.put wd o3 (o':=.ins A.pairs dx (bW "met" (.ref ml) []));have o4:=o3.put_ (o':=.ins A.pairs dx (bW "met" (.ref ml) []));have om4:=om3.other (br hxm) (o':=.ins A.pairs dx (bW "met" (.ref ml) []))
 cb_eq
 intro nd hnd;have s5:=s4.new wd hnd (o:=.dT []);have o5:=o4.new_ hnd (o':=.dT []);have om5:=om4.new_ hnd (o':=.dT []);have on5:=ar.make wd s4 hnd (o:=.dT []);refine fq o5.at_ T.Zj T.ZA qc ?_;have hxn:x≠nd:=mS o5.at_ on5.at_ (by intro z;cases z);have hmn:ml≠nd:=mS om5.at_ on5.at_ (by intro z;cases z);exact q _ ml nd (s5.put wd o5) o5.put_ (om5.other (br hxm)) (on5.other (br hxn)) hmn
def nH(G:Hp)(mts:List aa)(met:List (Nat×Nat)):Prop:=bK (fun t(x:Nat×Nat)=>G t=TL (.tup [.int (x.1:Nat),.int (x.2:Nat)])) mts met
theorem nH.mono{G G':Hp}(e:bh G G'){mts:List aa}{met:List (Nat×Nat)}(h:nH G mts met):nH G' mts met:=cP (fun t x z=>e t _ z) h
def Ly(A:Ad):Sp:=fun vs H Q _=>∃(G H0:Hp)(pp dx ml nd:aa)(met:List (Nat×Nat))(mts:List aa)(p q:Nat),vs=[.ref pp,.int p,.int q]/\H=ah (ah H0 ml (.lst (mts.map V.ref))) nd (.dT (dU 0 met))/\H0 ml=J0/\H0 nd=J0/\ml≠nd/\Wd A.toCn G H0/\G pp=TL (.ins A.pairs dx (lP ml nd))/\
 nH G mts met/\met.Nodup/\met.length<=1000000/\
 ∀G' H' met' mts' n,Step A.toCn G H0 G' H'->ar A.toCn H0 G' H' ml (.lst (mts'.map V.ref))->ar A.toCn H0 G' H' nd (.dT (dU 0 met'))->nH G' mts' met'->met'=(if(p,q)∈met then met else met++[(p,q)])->met'.Nodup->met'[n]?=TL (p,q)->Q (.int (n:Nat)) H'
section
variable{H:Hp}{Q:VK}{a b:aa}{kvs:List (List aP×V)}{k:List aP}{v:V}
theorem YM{n:Bool}(h:H a=TL (.dT kvs))(hb:H b=TL (.tup (k.map kV)))(q:Q (.bl (n^^(cj kvs k).isSome)) H):qI n (.ref a) (.ref b) H Q:=⟨a,_,rfl,fw.t h hb,q⟩
theorem MK(h:H a=TL (.dT kvs))(hb:H b=TL (.tup (k.map kV)))(e:cj kvs k=TL v)(q:Q v H):zj (.ref a) (.ref b) H Q:=⟨a,v,rfl,by rw[<-e];exact fw.t h hb,q⟩
theorem YN{R:Hp->Prop}(h:H a=TL (.dT kvs))(hb:H b=TL (.tup (k.map kV)))(l:kvs.length<aZ)(q:R (ah H a (.dT (dr kvs k v)))):zk (.ref a) (.ref b) v H R:=⟨a,_,rfl,md.t h hb l,q⟩
end
theorem BQ(T:aY K mg A):cK P w K mg base aW A.pairs "number_of" 1 ["self","first","second"] (Ly A):=by
 have sc:aV ["self","first","second","pair"] ["self","first","second"] (aN De):=bp;refine cK.of T.abf sc (fun vs H Q E h=>?_) (fun f cdv A0 outer s0 H vs Q E hr h=>?_)
 .obtain⟨_,_,_,_,_,_,_,_,_,_,rfl,_⟩:=h;rfl
 obtain⟨G,H0,pp,dx,ml,nd,met,mts,p,q,rfl,rfl,hml,hnd,hne,wd,hpp,hpi,hnod,hlen,fin⟩:=h;have hu:=mL hr;have s1:=(Step.refl wd).new wd hml (o:=.lst (mts.map V.ref));have om1:=ar.make wd (Step.refl wd) hml (o:=.lst (mts.map V.ref));have hnd1:ah H0 ml (.lst (mts.map V.ref)) nd=none:=by rw[aO (br hne)];exact hnd
 have s2:=s1.new wd hnd1 (o:=.dT (dU 0 met));have om2:=om1.new_ hnd1 (o':=.dT (dU 0 met));have on2:=ar.make wd s1 hnd1 (o:=.dT (dU 0 met))
 refine⟨_,(aq (pS 3 sc.nd (dY (af (pv 1) (af (pv 2) ao))))
   (aq (bA (sE (Cv hu (pv 3) (bN (pv 0) rfl)))
    (aq (yj hu (bN (pv 0) rfl) (pv 3) (cL T.Ze (bN (pv 0) rfl)) rfl)
    (au (eI (eN eT gn gr gc (bN (pv 0) rfl) (af (pv 3) ao)))))
    bG)
   (au (aL (mW hu (bN (pv 0) rfl) (pv 3) (fun _ _=>rfl)))))),?_⟩
 cb_eq
 refine⟨by decide,fun t ht=>?_⟩;have s3:=s2.newI wd ht (o:=.tup [.int (p:Int),.int (q:Int)]) dh;have om3:=om2.newI s2.wd ht (o':=.tup [.int (p:Int),.int (q:Int)]) dh;have on3:=on2.newI s2.wd ht (o':=.tup [.int (p:Int),.int (q:Int)]) dh;have n23:=bx (o:=.tup [.int (p:Int),.int (q:Int)]) (s2.wd.noG ht);have hpp3:=n23 _ _ hpp;have hpi3:=hpi.mono n23;have htG:ah G t (.tup [.int (p:Int),.int (q:Int)]) t=TL (.tup ((ie (p,q)).map kV)):=ax;refine bz (s3.wd.sub _ _ hpp3) T.Zj T.ZA yg ?_;refine YM on3.at_ (s3.wd.sub _ _ htG) ?_
 cb_eq
 by_cases hm:(p,q)∈met
 .obtain⟨i,hi,ei⟩:=je hm;have hi':met[i]?=TL (p,q):=by rw[bO hi,ei]
  have hv:=Bi met 0 i hnod hi';rw[hv];simp only[nG,qG,fc,aU,if_false];refine bz (s3.wd.sub _ _ hpp3) T.Zj T.ZA yg ?_;refine MK on3.at_ (s3.wd.sub _ _ htG) hv ?_;rw[qX];exact fin _ _ met mts i s3 om3 on3 hpi3 (by rw[J4 hm]) hnod hi'
 .have hv:=HN met 0 hm;rw[hv];simp only[qZ,qG,eJ,if_true];refine bz (s3.wd.sub _ _ hpp3) T.Zj T.Zz yf ?_;refine cy (ak.of om3.at_) ?_;rw[aE,bU hpi]
  cb_eq
  refine bz (s3.wd.sub _ _ hpp3) T.Zj T.ZA yg ?_;refine YN on3.at_ (s3.wd.sub _ _ htG) (by rw[HM];exact cf (m:=1000000) hlen (by decide)) ?_
  have ek:dr (dU 0 met) (ie (p,q)) (V.int (met.length:Nat))=dU 0 (met++[(p,q)]):=by
   rw[CG _ hv,HL,qX]
  have s4:=s3.put wd on3 (o':=.dT (dU 0 (met++[(p,q)])));have on4:=on3.put_ (o':=.dT (dU 0 (met++[(p,q)])));have om4:=om3.other hne (o':=.dT (dU 0 (met++[(p,q)])));rw[ek]
  cb_eq
  refine bz (s4.wd.sub _ _ hpp3) T.Zj T.Zz yf ?_;refine⟨eP (ak.of om4.at_),gh om4.at_ (by rw[aE,bU hpi];exact cf (m:=1000000) hlen (by decide)) ?_⟩;have s5:=s4.put wd om4 (o':=.lst (mts.map V.ref++[.ref t]));have om5:=om4.put_ (o':=.lst (mts.map V.ref++[.ref t]));have on5:=on4.other (br hne) (o':=.lst (mts.map V.ref++[.ref t]));have hnod':(met++[(p,q)]).Nodup:=zH.mpr ⟨hnod,by simp,fun x hx y hy e=>hm (by rw[cE.mp hy]at e;rw[<-e];exact hx)⟩;have hi':(met++[(p,q)])[met.length]?=TL (p,q):=by rw[ph (aF _),qW];rfl
  cb_eq
  refine bz (s5.wd.sub _ _ hpp3) T.Zj T.ZA yg ?_;refine MK on5.at_ (s5.wd.sub _ _ htG) (Bi _ 0 met.length hnod' hi') ?_;rw[qX];exact fin _ _ (met++[(p,q)]) (mts++[t]) met.length s5 (by rw[cx];exact om5) on5 (ji hpi3 ax) (by rw[J3 hm]) hnod' hi'
end
section
variable{P:aJ}{w:aH}{K:aw}{mg:Str->Option ae}{base:aA}{A:Ad}
structure PS(A:Ad)(He G H:Hp)(pp dx ml nd:aa)(met:List (Nat×Nat))(mts:List aa)(a b:Nat):Prop where
 om:ar A.toCn He G H ml (.lst (mts.map V.ref))
 on:ar A.toCn He G H nd (.dT (dU 0 met))
 ne:ml≠nd
 at_:G pp=TL (.ins A.pairs dx (lP ml nd))
 pi:nH G mts met
 nod:met.Nodup
 bd:∀x∈met,x.1<a/\x.2<b
theorem BO{He G G1 H1:Hp}{pp dx ml nd:aa}{met:List (Nat×Nat)}{mts:List aa}{a b p q:Nat}{Q':VK}{E:XK}(wd:Wd A.toCn G He)(s:Step A.toCn G He G1 H1)(ps:PS A He G1 H1 pp dx ml nd met mts a b)(hp:p<a)(hq:q<b)(hab:a*b<=1000000)
  (k:∀G2 H2 met' mts' n,Step A.toCn G He G2 H2->bh G1 G2->PS A He G2 H2 pp dx ml nd met' mts' a b->(∃more,met'=met++more)->met'[n]?=TL (p,q)->(∀z o,ar A.toCn He G1 H1 z o->z≠ml->z≠nd->ar A.toCn He G2 H2 z o)->Q' (.int (n:Nat)) H2):
  Ly A [.ref pp,.int (p:Nat),.int (q:Nat)] H1 Q' E:=by
 obtain⟨Hb,e1,h1,h2,sb,hoth⟩:=ye wd s ps.om ps.on ps.ne;refine⟨G1,Hb,pp,dx,ml,nd,met,mts,p,q,rfl,e1,h1,h2,ps.ne,sb.wd,ps.at_,ps.pi,ps.nod,dM (Ck ps.nod ps.bd) hab,fun G2 H2 met' mts' n s2 om on hpi hmet hnod hn=>?_⟩;have e12:=s2.same sb.wd;refine k G2 H2 met' mts' n (sb.trans wd s2) e12 ⟨om.re ps.om.new,on.re ps.on.new,ps.ne,e12 _ _ ps.at_,hpi,hnod,fun x hx=>?_⟩ ?_ hn fun z o ho hz1 hz2=>(hoth z o ho hz1 hz2).call s2
 .rw[hmet]at hx;split at hx
  .exact ps.bd x hx
  .rcases cn.mp hx with hx|hx
   .exact ps.bd x hx
   .rw[cE.mp hx];exact⟨hp,hq⟩
 .rw[hmet];split
  .exact⟨[],by rw[cD]⟩
  .exact⟨_,rfl⟩
theorem PS.step{He G G1 H H1:Hp}{pp dx ml nd:aa}{met:List (Nat×Nat)}{mts:List aa}{a b:Nat}(ps:PS A He G H pp dx ml nd met mts a b)(e:bh G G1)(h:∀z o,z=ml\/z=nd->ar A.toCn He G H z o->ar A.toCn He G1 H1 z o):PS A He G1 H1 pp dx ml nd met mts a b:=
 ⟨h _ _ (.inl rfl) ps.om,h _ _ (.inr rfl) ps.on,ps.ne,e _ _ ps.at_,ps.pi.mono e,ps.nod,ps.bd⟩
structure qH(D:(Nat×Nat)->(Nat×Nat)->Prop)(met:List (Nat×Nat))(l:List (Nat×Nat)):Prop where
 here:∀Z n,(Z,n)∈l->∃x y,D x y/\Z=x.1&&&y.1/\Z≠0/\met[n]?=TL (x.2,y.2)
 all:∀x y,D x y->x.1&&&y.1≠0->∃n,(x.1&&&y.1,n)∈l/\met[n]?=TL (x.2,y.2)
theorem jQ{met:List (Nat×Nat)}{n:Nat}{x:Nat×Nat}(h:met[n]?=TL x)(more:List (Nat×Nat)):(met++more)[n]?=TL x:=by
 rw[jF (aK.mp h).1];exact h
theorem qH.more{D D':(Nat×Nat)->(Nat×Nat)->Prop}{met:List (Nat×Nat)}{l:List (Nat×Nat)}(h:qH D met l)(more:List (Nat×Nat))(h1:∀x y,D x y↔D' x y):qH D' (met++more) l:=
 ⟨fun Z n hz=>by
  obtain⟨x,y,a,b,c,d⟩:=h.here Z n hz;exact⟨x,y,(h1 x y).mp a,b,c,jQ d more⟩,fun x y hd hz=>by
  obtain⟨n,a,b⟩:=h.all x y ((h1 x y).mpr hd) hz;exact⟨n,a,jQ b more⟩⟩
def XH(K:aw)(A:Ad):Sp:=fun vs H Q _=>∃(G H0:Hp)(pp dx ml nd:aa)(met:List (Nat×Nat))(mts:List aa)(fa sa:aa)(lA lB:List (Nat×Nat))(a b:Nat),vs=[.ref fa,.ref sa,.ref pp]/\H=ah (ah H0 ml (.lst (mts.map V.ref))) nd (.dT (dU 0 met))/\H0 ml=J0/\H0 nd=J0/\ml≠nd/\Wd A.toCn G H0/\G pp=TL (.ins A.pairs dx (lP ml nd))/\
 nH G mts met/\met.Nodup/\(∀x∈met,x.1<a/\x.2<b)/\iO G fa lA/\iO G sa lB/\(∀x∈lA,x.2<a)/\(∀x∈lB,x.2<b)/\a*b<=1000000/\lA.length*lB.length<=1000000/\
 ∀G' H' met' mts' pr l,Step A.toCn G H0 G' H'->PS A H0 G' H' pp dx ml nd met' mts' a b->(∃more,met'=met++more)->iO G' pr l->qH (fun x y=>x∈lA/\y∈lB) met' l->l.length<=lA.length*lB.length->Q (.ref pr) H'
theorem Tq(T:aY K mg A):Kn P w K mg base aW "shared_steps" 2 ["first_steps","second_steps","pairs"] (XH K A):=by
 have sc:aV ["first_steps","second_steps","pairs","shared","step","other","byte_set"] ["first_steps","second_steps","pairs"] (aN KN):=bp;refine Kn.of T.aaY sc (fun vs H Q E h=>?_) (fun f cdv A0 outer s0 H vs Q E hr h=>?_)
 .obtain⟨_,_,_,_,_,_,_,_,_,_,_,_,_,_,rfl,_⟩:=h;rfl
 obtain⟨G,H0,pp,dx,ml,nd,met,mts,fa,sa,lA,lB,a,b,rfl,rfl,hml,hnd,hne,wd,hpp,hpi,hnod,hbd,⟨ta,hfa,pra⟩,⟨tb,hsa,prb⟩,hA,hB,hab,hll,fin⟩:=h;have s1:=(Step.refl wd).new wd hml (o:=.lst (mts.map V.ref));have om1:=ar.make wd (Step.refl wd) hml (o:=.lst (mts.map V.ref));have hnd1:ah H0 ml (.lst (mts.map V.ref)) nd=none:=by rw[aO (br hne)];exact hnd
 have s2:=s1.new wd hnd1 (o:=.dT (dU 0 met));have om2:=om1.new_ hnd1 (o':=.dT (dU 0 met));have on2:=ar.make wd s1 hnd1 (o:=.dT (dU 0 met));have lenA:=bU pra;have lenB:=bU prb
 refine⟨_,(aq (pS 3 sc.nd (bt ao))
   (aq (gf ff rfl (dw (pv 0)) (gN 4 sc.nd)
    (au (gf ff rfl (dw (pv 1)) (gN 5 sc.nd)
     (aq (pS 6 sc.nd (bb jU (bP dk (pv 4) aB (fun _ _=>rfl)) (bP dk (pv 5) aB (fun _ _=>rfl))))
     (au (bA (bL uU (pv 6) aB (bq _))
      (au (eI (eN eT gn gr gc (pv 3) (af (dY (af (pv 6) (af (ik (pv 2) T.Zj (BQ T) (hr.mono (by decide)) bB (af (bP dk (pv 4) aB (fun _ _=>rfl)) (af (bP dk (pv 5) aB (fun _ _=>rfl)) ao))) ao))) ao))))
      bG))))))
   (au (aL (pv 3))))),?_⟩
 cb_eq
 refine⟨by decide,fun sh hsh=>?_⟩;have s3:=s2.new wd hsh (o:=.lst []);have om3:=om2.new_ hsh (o':=.lst []);have on3:=on2.new_ hsh (o':=.lst []);have os3:=ar.make wd s2 hsh (o:=.lst []);have hshm:sh≠ml:=fun z=>by rw[z,om2.at_]at hsh;cases hsh
 have hshn:sh≠nd:=fun z=>by rw[z,on2.at_]at hsh;cases hsh
 let Inv:=fun(D:(Nat×Nat)->(Nat×Nat)->Prop)(bound:Nat)(H':Hp)=>∃(G1:Hp)(met1:List (Nat×Nat))(mts1:List aa)(l:List (Nat×Nat))(ts:List aa),Step A.toCn G H0 G1 H'/\PS A H0 G1 H' pp dx ml nd met1 mts1 a b/\(∃more,met1=met++more)/\ar A.toCn H0 G1 H' sh (.lst (ts.map V.ref))/\nH G1 ts l/\qH D met1 l/\l.length<=bound
 refine kh (ak.of (s3.wd.sub _ _ hfa)) (fun i σ H'=>∃(x4 x5 x6:Option V),σ=[TL (.ref fa),TL (.ref sa),TL (.ref pp),TL (.ref sh),x4,x5,x6]/\Inv (fun x y=>x∈lA.take i/\y∈lB) (i*lB.length) H') ?_ ?_ ?_ ?_
 .refine⟨J0,J0,J0,rfl,G,met,mts,[],[],s3,⟨om3,on3,hne,hpp,hpi,hnod,hbd⟩,⟨[],by rw[cD]⟩,os3,.nil,⟨(fun Z n h=>by cases h),fun x y h=>?_⟩,bI _⟩;rw[eR]at h;cases h.1
 .rintro i σ H' _ ⟨_,_,_,_,G1,_,_,_,_,s4,_⟩;exact ak.of (s4.wd.sub _ _ (s4.same wd _ _ hfa))
 .rintro i v σ H' hv ⟨x4,x5,x6,rfl,G1,met1,mts1,l,ts,s4,ps4,hmore,os4,hpl,hcov,hlb⟩;obtain⟨t1,ht1,rfl⟩:=eM hv;obtain⟨x,hxi,hxt⟩:=dP pra ht1;have hi:i<lA.length:=(aK.mp hxi).1
  have hiL:i*lB.length+lB.length<=lA.length*lB.length:=by
   have:(i+1)*lB.length<=lA.length*lB.length:=wk _ hi;rw[px,wm]at this;exact this
  cb_eq
  refine kh (ak.of (s4.wd.sub _ _ (s4.same wd _ _ hsa))) (fun j σ H'=>∃(x5 x6:Option V),σ=[TL (.ref fa),TL (.ref sa),TL (.ref pp),TL (.ref sh),TL (.ref t1),x5,x6]/\Inv (fun x' y=>(x'∈lA.take i/\y∈lB)\/(x'=x/\y∈lB.take j)) (i*lB.length+j) H') ?_ ?_ ?_ ?_
  .refine⟨_,_,rfl,G1,met1,mts1,l,ts,s4,ps4,hmore,os4,hpl,?_,hlb⟩;have:=hcov.more (D':=fun x' y=>(x'∈lA.take i/\y∈lB)\/(x'=x/\y∈lB.take 0)) [] (fun x' y=>⟨.inl,fun z=>z.elim id (fun z=>by rw[eR]at z;cases z.2)⟩);rw[cD]at this;exact this
  .rintro j σ H' _ ⟨_,_,_,G2,_,_,_,_,s5,_⟩;exact ak.of (s5.wd.sub _ _ (s5.same wd _ _ hsa))
  .rintro j v σ H' hv2 ⟨y5,y6,rfl,G2,met2,mts2,l2,ts2,s5,ps5,hmore2,os5,hpl2,hcov2,hlb2⟩;obtain⟨t2,ht2,rfl⟩:=eM hv2;obtain⟨y,hyj,hyt⟩:=dP prb ht2;have hj:j<lB.length:=(aK.mp hyj).1;have hx5:=s5.wd.sub _ _ (s5.same wd _ _ hxt);have hy5:=s5.wd.sub _ _ (s5.same wd _ _ hyt)
   have hDiff:∀x' y',((x'∈lA.take i/\y'∈lB)\/(x'=x/\y'∈lB.take (j+1)))↔((x'∈lA.take i/\y'∈lB)\/(x'=x/\y'∈lB.take j))\/(x'=x/\y'=y):=by
    intro x' y';rw[PM.take_snoc hyj,cn,cE];constructor
    .rintro(z|⟨z,z2|z2⟩)
     .exact .inl (.inl z)
     .exact .inl (.inr ⟨z,z2⟩)
     .exact .inr ⟨z,z2⟩
    .rintro((z|⟨z,z2⟩)|⟨z,z2⟩)
     .exact .inl z
     .exact .inr ⟨z,.inl z2⟩
     .exact .inr ⟨z,.inr z2⟩
   cb_eq
   refine cH (k:=0) (bT.of hx5) rfl ?_;refine cH (k:=0) (bT.of hy5) rfl ?_
   cb_eq
   rw[nS];by_cases hz:x.1&&&y.1=0
   .rw[hz];rw[show decide (((0:Nat):Int)=0)=J1 from rfl];simp only[fc,aU,if_false];refine⟨_,_,rfl,G2,met2,mts2,l2,ts2,s5,ps5,hmore2,os5,hpl2,⟨fun Z n h=>?_,fun x' y' hd hnz=>?_⟩,by lia⟩
    .obtain⟨x',y',a1,a2,a3,a4⟩:=hcov2.here Z n h;exact⟨x',y',(hDiff x' y').mpr (.inl a1),a2,a3,a4⟩
    .rcases(hDiff x' y').mp hd with hd|⟨rfl,rfl⟩
     .exact hcov2.all x' y' hd hnz
     .exact J5 hz hnz
   .rw[show decide (((x.1&&&y.1:Nat):Int)=0)=J2 from dF (by lia)];simp only[eJ,if_true];refine⟨eP (ak.of os5.at_),?_⟩;refine eO (s5.wd.sub _ _ ps5.at_) Cj ?_;refine cH (k:=1) (bT.of hx5) rfl ?_;refine cH (k:=1) (bT.of hy5) rfl ?_;refine BO wd s5 ps5 (hA x (du hxi)) (hB y (du hyj)) hab fun G3 H3 met3 mts3 n s6 e23 ps6 hm6 hn6 hoth=>?_;have os6:=hoth _ _ os5 hshm hshn;obtain⟨more,rfl⟩:=hm6;refine⟨by decide,fun t3 ht3=>?_⟩;have s7:=s6.newI wd ht3 (o:=.tup [.int ((x.1&&&y.1:Nat):Int),.int (n:Nat)]) dh;have os7:=os6.newI s6.wd ht3 (o':=.tup [.int ((x.1&&&y.1:Nat):Int),.int (n:Nat)]) dh;have n67:=bx (o:=.tup [.int ((x.1&&&y.1:Nat):Int),.int (n:Nat)]) (s6.wd.noG ht3);have ps7:=ps6.step n67 (fun z o _ ho=>ho.newI s6.wd ht3 (o':=.tup [.int ((x.1&&&y.1:Nat):Int),.int (n:Nat)]) dh);have hpl2l:=bU hpl2;refine gh os7.at_ (by rw[aE,hpl2l];exact cf (m:=1000000) (by lia) (by decide)) ?_;have s8:=s7.put wd os7 (o':=.lst (ts2.map V.ref++[.ref t3]));have os8:=os7.put_ (o':=.lst (ts2.map V.ref++[.ref t3]));have ps8:=ps7.step (bh.refl _) (H1:=ah (ah H3 t3 (.tup [.int ((x.1&&&y.1:Nat):Int),.int (n:Nat)])) sh (.lst (ts2.map V.ref++[.ref t3]))) (fun z o hz ho=>ho.other (by rcases hz with rfl|rfl;exact br hshm;exact br hshn));refine⟨_,_,rfl,_,met2++more,mts3,l2++[(x.1&&&y.1,n)],ts2++[t3],s8,ps8,?_,by rw[cx];exact os8,?_,⟨fun Z m h=>?_,fun x' y' hd hnz=>?_⟩,by rw[bw,dR];lia⟩
    .obtain⟨mo,rfl⟩:=hmore2;exact⟨mo++more,by rw[dt]⟩
    .exact ji (hpl2.mono (e23.trans n67)) ax
    .rcases cn.mp h with h|h
     .obtain⟨x',y',a1,a2,a3,a4⟩:=hcov2.here Z m h;exact⟨x',y',(hDiff x' y').mpr (.inl a1),a2,a3,jQ a4 more⟩
     .cases cE.mp h;exact⟨x,y,(hDiff x y).mpr (.inr ⟨rfl,rfl⟩),rfl,hz,hn6⟩
    .rcases(hDiff x' y').mp hd with hd|⟨rfl,rfl⟩
     .obtain⟨m,a1,a2⟩:=hcov2.all x' y' hd hnz;exact⟨m,cW _ a1,jQ a2 more⟩
     .exact⟨n,dA _ (by simp),hn6⟩
  .rintro σ H' ⟨y5,y6,rfl,G2,met2,mts2,l2,ts2,s5,ps5,hmore2,os5,hpl2,hcov2,hlb2⟩;rw[aE,lenB]at hcov2 hlb2;refine⟨_,_,_,rfl,G2,met2,mts2,l2,ts2,s5,ps5,hmore2,os5,hpl2,?_,by rw[px,wm];exact hlb2⟩
   have:=hcov2.more (D':=fun x y=>x∈lA.take (i+1)/\y∈lB) [] (fun x' y'=>by
    rw[cv,PM.take_snoc hxi,cn,cE];constructor
    .rintro(⟨z,z2⟩|⟨z,z2⟩)
     .exact⟨.inl z,z2⟩
     .exact⟨.inr z,z2⟩
    .rintro⟨z|z,z2⟩
     .exact .inl ⟨z,z2⟩
     .exact .inr ⟨z,z2⟩)
   rw[cD]at this;exact this
 .rintro σ H' ⟨x4,x5,x6,rfl,G1,met1,mts1,l,ts,s4,ps4,hmore,os4,hpl,hcov,hlb⟩;rw[aE,lenA]at hcov hlb;rw[cv]at hcov
  cb_eq
  have n:=bx (o:=.lst (ts.map V.ref)) os4.g;refine fin _ _ met1 mts1 sh l (s4.sealO wd os4 aS) (ps4.step n (fun z o hz ho=>ho.seal_ os4 (by rcases hz with rfl|rfl;exact br hshm;exact br hshn) aS)) hmore ⟨ts,ax,hpl.mono n⟩ hcov hlb
structure lr(M:ba)(c:Nat):Prop where
 fin:M.fin<M.steps.length
 starts:∀p∈M.starts,p<M.steps.length
 to:∀p S t,(S,t)∈M.from p->t<M.steps.length
 fl:∀k,(M.from k).length<=c
 sl:M.starts.length<=c
theorem TV:lr jw 2:=by
 refine⟨by decide,fun p hp=>?_,fun p S t h=>Jt h,fun k=>?_,by decide⟩
 .have hp:p∈ [0]:=hp;simp at hp;subst hp
  decide
 .by_cases hk:k<4
  .match k,hk with
   |0,_=>decide
   |1,_=>decide
   |2,_=>decide
   |3,_=>decide
  .unfold ba.from;rw[show jw.steps[k]?=J0 from hU (by show 4<=k;lia)]
   decide
theorem TN{cs:List MC}{M:ba}(h:jI cs M)(h1:∀k,(M.from k).length<=cs.length+2)(h2:M.starts.length<=cs.length+2):lr M (cs.length+2):=
 ⟨by rw[h.fin,h.len];lia,fun p hp=>by have:=((h.starts p).mp hp).1;rw[h.len];lia,fun p S t ht=>by have:=(Cs h ht).2;rw[h.len];lia,h1,h2⟩
theorem TZ{p S t:Nat}(h:(S,t)∈jw.from p):S<2^256:=by
 have e1:eC<2^256:=by decide
 have e2:dW<2^256:=by decide
 have e3:aQ<2^256:=by decide
 have e4:cb<2^256:=by decide
 have hp:p<4:=xw h
 match p,hp with
 |0,_=>have h:(S,t)∈ [(eC,1),(dW,3)]:=h;simp only[bg,rf,jg,or_false]at h;rcases h with⟨rfl,_⟩|⟨rfl,_⟩<;>assumption
 |1,_=>have h:(S,t)∈ [(eC,2),(dW,3)]:=h;simp only[bg,rf,jg,or_false]at h;rcases h with⟨rfl,_⟩|⟨rfl,_⟩<;>assumption
 |2,_=>have h:(S,t)∈ [(aQ,3)]:=h;simp only[bg,rf,jg,or_false]at h;rw[h.1];assumption
 |3,_=>have h:(S,t)∈ [(aQ,3),(cb,0)]:=h;simp only[bg,rf,jg,or_false]at h;rcases h with⟨rfl,_⟩|⟨rfl,_⟩<;>assumption
structure vO(D:Nat->Nat->Prop)(met:List (Nat×Nat))(l:List Nat):Prop where
 here:∀n,n∈l->∃x y,D x y/\met[n]?=TL (x,y)
 all:∀x y,D x y->∃n,n∈l/\met[n]?=TL (x,y)
theorem vO.more{D D':Nat->Nat->Prop}{met:List (Nat×Nat)}{l:List Nat}(h:vO D met l)(more:List (Nat×Nat))(h1:∀x y,D x y↔D' x y):vO D' (met++more) l:=
 ⟨fun n hz=>by
  obtain⟨x,y,a,d⟩:=h.here n hz;exact⟨x,y,(h1 x y).mp a,jQ d more⟩,fun x y hd=>by
  obtain⟨n,a,b⟩:=h.all x y ((h1 x y).mpr hd);exact⟨n,a,jQ b more⟩⟩
def WO(A:Ad):Sp:=fun vs H Q _=>∃(G:Hp)(fa sa:aa)(M1 M2:ba)(c1 c2:Nat),vs=[.ref fa,.ref sa]/\Wd A.toCn G H/\iK A G fa M1/\iK A G sa M2/\lr M1 c1/\lr M2 c2/\(∀p S t,(S,t)∈M1.from p->S<2^256)/\M1.steps.length*M2.steps.length<=1000000/\c1*c2<=1000000/\
 ∀G' H' p M met,Step A.toCn G H G' H'->iK A G' p M->vL M1 M2 M met->nE M->lr M (c1*c2)->M.steps.length<=M1.steps.length*M2.steps.length->Q (.ref p) H'
theorem rR{M:ba}{p:Nat}(h:p<M.steps.length):M.steps[p]?=TL (M.from p):=by
 unfold ba.from;rw[bO h];rfl
theorem SK(T:aY K mg A):Kn P w K mg base aW "both" 3 ["first","second"] (WO A):=by
 have sc:aV ["first","second","pairs","end","starts","start","other","steps","pair"] ["first","second"] (aN JV):=bp;refine Kn.of T.aah sc (fun vs H Q E h=>?_) (fun f cdv A0 outer s0 H vs Q E hr h=>?_)
 .obtain⟨_,_,_,_,_,_,_,rfl,_⟩:=h;rfl
 obtain⟨G,fa,sb,M1,M2,c1,c2,rfl,wd,⟨d1,sa1,la1,hf,hs1,⟨as1,hl1,pl1⟩⟩,⟨d2,sa2,la2,hs,hs2,⟨as2,hl2,pl2⟩⟩,bd1,bd2,hset,hab,hcc,q⟩:=h;have n1:=bU pl1;have n2:=bU pl2
 refine⟨_,(aq (pS 2 sc.nd (Jw (Su T) (hr.mono (by decide)) bB rfl))
   (aq (pS 3 sc.nd (ik (pv 2) T.Zj (BQ T) (hr.mono (by decide)) bB (af (bN (pv 0) rfl) (af (bN (pv 1) rfl) ao))))
   (aq (pS 4 sc.nd (bt ao))
   (aq (gf ff rfl (dw (bN (pv 0) rfl)) (gN 5 sc.nd)
    (au (gf ff rfl (dw (bN (pv 1) rfl)) (gN 6 sc.nd)
     (au (eI (eN eT gn gr gc (pv 4) (af (ik (pv 2) T.Zj (BQ T) (hr.mono (by decide)) bB (af (pv 5) (af (pv 6) ao))) ao)))))))
   (aq (pS 7 sc.nd (bt ao))
   (aq (qr ff (bL qk (cL T.Ze (pv 7)) (cL T.Ze (bN (pv 2) rfl)) (bq _))
    (aq (pS 8 sc.nd (bP eX (bN (pv 2) rfl) (cL T.Ze (pv 7)) (fun _ _=>rfl)))
    (au (eI (eN eT gn gr gc (pv 7) (af (cF (Tq T) hr (af (bP eX (bN (pv 0) rfl) (bP dk (pv 8) aB (fun _ _=>rfl)) (fun _ _=>rfl)) (af (bP eX (bN (pv 1) rfl) (bP dk (pv 8) aB (fun _ _=>rfl)) (fun _ _=>rfl)) (af (pv 2) ao)))) ao))))))
   (au (aL (jY (BP T) (hr.mono (by decide)) bB rfl (af (pv 4) (af (pv 3) (af (pv 7) ao)))))))))))),?_⟩
 cb_eq
 intro pp dx hpp hdx hne;refine⟨G,H,pp,dx,rfl,rfl,hpp,hdx,hne,wd,fun H1 ml nd s1 o1 om1 on1 hmn=>⟨rfl,?_⟩⟩;have s2:=s1.sealO wd o1 BK;have e02:=bx (o:=.ins A.pairs dx (lP ml nd)) o1.g;have hpm:pp≠ml:=mS o1.at_ om1.at_ (by intro z;cases z);have hpn:pp≠nd:=mS o1.at_ on1.at_ (by intro z;cases z)
 have ps2:PS A H (ah G pp (.ins A.pairs dx (lP ml nd))) H1 pp dx ml nd [] [] M1.steps.length M2.steps.length:=
  ⟨om1.seal_ o1 (br hpm) BK,on1.seal_ o1 (br hpn) BK,hmn,ax,.nil,zI,fun x hx=>by cases hx⟩
 cb_eq
 refine eO (s2.wd.sub _ _ ps2.at_) Cj ?_;refine bz (s2.wd.sub _ _ (e02 _ _ hf)) T.Zh T.Zw xO ?_;refine bz (s2.wd.sub _ _ (e02 _ _ hs)) T.Zh T.Zw xO ?_;refine BO wd s2 ps2 bd1.fin bd2.fin hab fun G3 H3 met3 mts3 en s3 e23 ps3 hm3 hn3 hoth3=>?_
 cb_eq
 refine⟨by decide,fun stl hstl=>?_⟩;have s4:=s3.new wd hstl (o:=.lst []);have os4:=ar.make wd s3 hstl (o:=.lst []);have ps4:=ps3.step (bh.refl _) (H1:=ah H3 stl (.lst [])) (fun z o _ ho=>ho.new_ hstl);have hsm:stl≠ml:=fun z=>by rw[z,ps3.om.at_]at hstl;cases hstl
 have hsn:stl≠nd:=fun z=>by rw[z,ps3.on.at_]at hstl;cases hstl
 let Inv:=fun(D:Nat->Nat->Prop)(bound:Nat)(H':Hp)=>∃(G1:Hp)(met1:List (Nat×Nat))(mts1:List aa)(L:List Nat),Step A.toCn G H G1 H'/\PS A H G1 H' pp dx ml nd met1 mts1 M1.steps.length M2.steps.length/\(∃more,met1=met3++more)/\ar A.toCn H G1 H' stl (.lst (iv L))/\vO D met1 L/\L.length<=bound
 refine bz (s4.wd.sub _ _ (s4.same wd _ _ hf)) T.Zh T.Zx xP ?_;refine kh (ak.of (s4.wd.sub _ _ (s4.same wd _ _ hs1))) (fun i σ H'=>∃(x5 x6:Option V),σ=[TL (.ref fa),TL (.ref sb),TL (.ref pp),TL (.int (en:Nat)),TL (.ref stl),x5,x6,J0,J0]/\Inv (fun x y=>x∈M1.starts.take i/\y∈M2.starts) (i*M2.starts.length) H') ?_ ?_ ?_ ?_
 .refine⟨J0,J0,rfl,G3,met3,mts3,[],s4,ps4,⟨[],by rw[cD]⟩,os4,⟨(fun n h=>by cases h),fun x y h=>?_⟩,bI _⟩;rw[eR]at h;cases h.1
 .rintro i σ H' _ ⟨_,_,_,G1,_,_,_,s5,_⟩;exact ak.of (s5.wd.sub _ _ (s5.same wd _ _ hs1))
 .rintro i v σ H' hv ⟨x5,x6,rfl,G1,met1,mts1,L,s5,ps5,hmore,os5,hcov,hLb⟩;obtain⟨x,hxi,rfl⟩:=mO hv;have hi:i<M1.starts.length:=(aK.mp hxi).1
  have hiL:i*M2.starts.length+M2.starts.length<=c1*c2:=by
   have h1:(i+1)*M2.starts.length<=M1.starts.length*M2.starts.length:=wk _ hi;have h2:M1.starts.length*M2.starts.length<=c1*c2:=qU bd1.sl bd2.sl;rw[px,wm]at h1;lia
  cb_eq
  refine bz (s5.wd.sub _ _ (s5.same wd _ _ hs)) T.Zh T.Zx xP ?_;refine kh (ak.of (s5.wd.sub _ _ (s5.same wd _ _ hs2))) (fun j σ H'=>∃(x6:Option V),σ=[TL (.ref fa),TL (.ref sb),TL (.ref pp),TL (.int (en:Nat)),TL (.ref stl),TL (.int (x:Nat)),x6,J0,J0]/\Inv (fun x' y=>(x'∈M1.starts.take i/\y∈M2.starts)\/(x'=x/\y∈M2.starts.take j)) (i*M2.starts.length+j) H') ?_ ?_ ?_ ?_
  .refine⟨_,rfl,G1,met1,mts1,L,s5,ps5,hmore,os5,?_,hLb⟩;have:=hcov.more (D':=fun x' y=>(x'∈M1.starts.take i/\y∈M2.starts)\/(x'=x/\y∈M2.starts.take 0)) [] (fun x' y=>⟨.inl,fun z=>z.elim id (fun z=>by rw[eR]at z;cases z.2)⟩);rw[cD]at this;exact this
  .rintro j σ H' _ ⟨_,_,G2,_,_,_,s6,_⟩;exact ak.of (s6.wd.sub _ _ (s6.same wd _ _ hs2))
  .rintro j v σ H' hv2 ⟨y6,rfl,G2,met2,mts2,L2,s6,ps6,hmore2,os6,hcov2,hLb2⟩;obtain⟨y,hyj,rfl⟩:=mO hv2;have hj:j<M2.starts.length:=(aK.mp hyj).1
   cb_eq
   refine⟨eP (ak.of os6.at_),?_⟩;refine eO (s6.wd.sub _ _ ps6.at_) Cj ?_;refine BO wd s6 ps6 (bd1.starts x (du hxi)) (bd2.starts y (du hyj)) hab fun G7 H7 met7 mts7 n s7 e27 ps7 hm7 hn7 hoth7=>?_;have os7:=hoth7 _ _ os6 hsm hsn;obtain⟨more,rfl⟩:=hm7;refine gh os7.at_ (by rw[dO];exact cf (m:=1000000) (by lia) (by decide)) ?_;have s8:=s7.put wd os7 (o':=.lst (iv L2++[.int (n:Nat)]));have os8:=os7.put_ (o':=.lst (iv L2++[.int (n:Nat)]));have ps8:=ps7.step (bh.refl _) (H1:=ah H7 stl (.lst (iv L2++[.int (n:Nat)]))) (fun z o hz ho=>ho.other (by rcases hz with rfl|rfl;exact br hsm;exact br hsn));refine⟨_,rfl,G7,met2++more,mts7,L2++[n],s8,ps8,?_,by rw[<-iA];exact os8,⟨fun m h=>?_,fun x' y' hd=>?_⟩,by rw[bw,dR];lia⟩
   .obtain⟨mo,rfl⟩:=hmore2;exact⟨mo++more,by rw[dt]⟩
   .rcases cn.mp h with h|h
    .obtain⟨x',y',a1,a2⟩:=hcov2.here m h;refine⟨x',y',?_,jQ a2 more⟩;rcases a1 with a1|⟨a1,a3⟩
     .exact .inl a1
     .exact .inr ⟨a1,by rw[PM.take_snoc hyj];exact cW _ a3⟩
    .rw[cE.mp h];exact⟨x,y,.inr ⟨rfl,by rw[PM.take_snoc hyj];simp⟩,hn7⟩
   .rw[PM.take_snoc hyj,cn,cE]at hd;rcases hd with hd|⟨hd,hd2|hd2⟩
    .obtain⟨m,a1,a2⟩:=hcov2.all x' y' (.inl hd);exact⟨m,cW _ a1,jQ a2 more⟩
    .obtain⟨m,a1,a2⟩:=hcov2.all x' y' (.inr ⟨hd,hd2⟩);exact⟨m,cW _ a1,jQ a2 more⟩
    .rw[hd,hd2];exact⟨n,dA _ (by simp),hn7⟩
  .rintro σ H' ⟨y6,rfl,G2,met2,mts2,L2,s6,ps6,hmore2,os6,hcov2,hLb2⟩;rw[dO]at hcov2 hLb2;refine⟨_,_,rfl,G2,met2,mts2,L2,s6,ps6,hmore2,os6,?_,by rw[px,wm];exact hLb2⟩
   have:=hcov2.more (D':=fun x y=>x∈M1.starts.take (i+1)/\y∈M2.starts) [] (fun x' y'=>by
    rw[cv,PM.take_snoc hxi,cn,cE];constructor
    .rintro(⟨z,z2⟩|⟨z,z2⟩)
     .exact⟨.inl z,z2⟩
     .exact⟨.inr z,z2⟩
    .rintro⟨z|z,z2⟩
     .exact .inl ⟨z,z2⟩
     .exact .inr ⟨z,z2⟩)
   rw[cD]at this;exact this
 .rintro σ H' ⟨x5,x6,rfl,G5,met5,mts5,L,s5,ps5,hmore5,os5,hcovS,hLb⟩;rw[dO,cv]at hcovS;rw[dO]at hLb;have s6:=s5.sealO wd os5 aS;have n56:=bx (o:=.lst (iv L)) os5.g;have ps6:=ps5.step n56 (H1:=H') (fun z o hz ho=>ho.seal_ os5 (by rcases hz with rfl|rfl;exact br hsm;exact br hsn) aS)
  cb_eq
  refine⟨by decide,fun spl hspl=>?_⟩;have s7:=s6.new wd hspl (o:=.lst []);have ol7:=ar.make wd s6 hspl (o:=.lst []);have ps7:=ps6.step (bh.refl _) (H1:=ah H' spl (.lst [])) (fun z o _ ho=>ho.new_ hspl);have hlm:spl≠ml:=fun z=>by rw[z,ps6.om.at_]at hspl;cases hspl
  have hln:spl≠nd:=fun z=>by rw[z,ps6.on.at_]at hspl;cases hspl
  refine qC (fun mm σ H'=>∃(x5 x6 x8:Option V)(G8:Hp)(met:List (Nat×Nat))(mts:List aa)(st:List (List (Nat×Nat)))(sa:List aa),mm=M1.steps.length*M2.steps.length-st.length/\σ=[TL (.ref fa),TL (.ref sb),TL (.ref pp),TL (.int (en:Nat)),TL (.ref stl),x5,x6,TL (.ref spl),x8]/\Step A.toCn G H G8 H'/\
    bh (ah G5 stl (.lst (iv L))) G8/\PS A H G8 H' pp dx ml nd met mts M1.steps.length M2.steps.length/\(∃more,met=met5++more)/\ar A.toCn H G8 H' spl (.lst (sa.map V.ref))/\bK (iO G8) sa st/\st.length<=met.length/\∀(i:Nat) l p q,st[i]?=TL l->met[i]?=TL (p,q)->qH (fun x y=>x∈M1.from p/\y∈M2.from q) met l/\l.length<=c1*c2)
   ⟨_,_,_,_,_,met5,mts5,[],[],rfl,rfl,s7,bh.refl _,ps7,⟨[],by rw[cD]⟩,ol7,.nil,bI _,(fun i l p q h _=>by simp at h)⟩ ?_
  rintro mm σ H8 ⟨y5,y6,y8,G8,met,mts,st,sa,rfl,rfl,s8,e68,ps8,hmore8,ol8,pst,hstl8,hcov⟩;have hlsa:=bU pst;have hlm8:=bU ps8.pi;have hmb:=Ck ps8.nod ps8.bd
  cb_eq
  refine cy (ak.of ol8.at_) ?_;refine bz (s8.wd.sub _ _ ps8.at_) T.Zj T.Zz yf ?_;refine cy (ak.of ps8.om.at_) ?_
  cb_eq
  rw[aE,aE,hlsa,hlm8];by_cases hlt:st.length<met.length
  .rw[dT (by lia)];simp only[if_true];refine⟨_,fun _ _ z=>z,?_⟩;refine bz (s8.wd.sub _ _ ps8.at_) T.Zj T.Zz yf ?_;refine cy (ak.of ol8.at_) ?_;rw[aE,hlsa];have hget:met[st.length]?=TL met[st.length]:=bO hlt;generalize met[st.length]=pq at hget;obtain⟨p,q'⟩:=pq;obtain⟨tp,htp,htG⟩:=jW ps8.pi hget;refine fB (ak.of ps8.om.at_) (by rw[cI,htp];rfl) ?_
   cb_eq
   refine⟨eP (ak.of ol8.at_),?_⟩;obtain⟨hp1,hq1⟩:=ps8.bd _ (du hget);obtain⟨pa1,hpa1,hSt1⟩:=jW pl1 (rR hp1);obtain⟨pa2,hpa2,hSt2⟩:=jW pl2 (rR hq1);have e08:=s8.same wd;refine bz (s8.wd.sub _ _ (e08 _ _ hf)) T.Zh T.Zu uG ?_;refine cH (k:=0) (bT.of (s8.wd.sub _ _ htG)) rfl ?_;refine fB (ak.of (s8.wd.sub _ _ (e08 _ _ hl1))) (by rw[cI,hpa1];rfl) ?_;refine bz (s8.wd.sub _ _ (e08 _ _ hs)) T.Zh T.Zu uG ?_;refine cH (k:=1) (bT.of (s8.wd.sub _ _ htG)) rfl ?_;refine fB (ak.of (s8.wd.sub _ _ (e08 _ _ hl2))) (by rw[cI,hpa2];rfl) ?_;obtain⟨Hb,eb,hb1,hb2,sbb,hoth⟩:=ye wd s8 ps8.om ps8.on ps8.ne;have hlc:(M1.from p).length*(M2.from q').length<=c1*c2:=qU (bd1.fl p) (bd2.fl q');refine⟨G8,Hb,pp,dx,ml,nd,met,mts,pa1,pa2,M1.from p,M2.from q',M1.steps.length,M2.steps.length,rfl,eb,hb1,hb2,ps8.ne,sbb.wd,ps8.at_,ps8.pi,ps8.nod,ps8.bd,hSt1.mono e08,hSt2.mono e08,fun x hx=>bd1.to p x.1 x.2 hx,fun x hx=>bd2.to q' x.1 x.2 hx,hab,by lia,fun G9 H9 met9 mts9 pr l s9 ps9 hm9 hl9 hc9 hlen9=>?_⟩;have s89:=sbb.trans wd s9;have e89:=s9.same sbb.wd;have ol9:=(hoth _ _ ol8 hlm hln).call s9;have ps9':PS A H G9 H9 pp dx ml nd met9 mts9 M1.steps.length M2.steps.length:=⟨ps9.om.re ps8.om.new,ps9.on.re ps8.on.new,ps9.ne,ps9.at_,ps9.pi,ps9.nod,ps9.bd⟩;have hmb9:=Ck ps9.nod ps9.bd;obtain⟨more,rfl⟩:=hm9;refine gh ol9.at_ (by rw[aE,hlsa];exact cf (m:=1000000) (by lia) (by decide)) ?_;have s10:=s89.put wd ol9 (o':=.lst (sa.map V.ref++[.ref pr]));have ol10:=ol9.put_ (o':=.lst (sa.map V.ref++[.ref pr]));have ps10:=ps9'.step (bh.refl _) (H1:=ah H9 spl (.lst (sa.map V.ref++[.ref pr]))) (fun z o hz ho=>ho.other (by rcases hz with rfl|rfl;exact br hlm;exact br hln));refine⟨M1.steps.length*M2.steps.length-(st.length+1),by lia,_,_,_,G9,met++more,mts9,st++[l],sa++[pr],by rw[bw,dR],rfl,s10,e68.trans e89,ps10,?_,by rw[cx];exact ol10,ji (cP (fun _ _ z=>iO.mono e89 z) pst) hl9,by rw[bw,bw,dR];lia,?_⟩
   .obtain⟨mo,rfl⟩:=hmore8;exact⟨mo++more,by rw[dt]⟩
   .intro i l' p' q'' hi hpi;by_cases z:i<st.length
    .rw[jF z]at hi;rw[jF (by lia)]at hpi;obtain⟨h1,h2⟩:=hcov i l' p' q'' hi hpi;exact⟨h1.more more (fun _ _=>fz),h2⟩
    .have hi':=(aK.mp hi).1;rw[bw,dR]at hi';have e:i=st.length:=by lia
     subst e;rw[ph (aF _),qW]at hi;have hi:TL l=TL l':=hi;cases hi;rw[jQ hget more]at hpi;cases hpi;exact⟨hc9,by lia⟩
  .rw[dF (by lia)];simp only[aU,if_false];have hsl:st.length=met.length:=by lia
   have s9:=s8.sealO wd ol8 aS;have n89:=bx (o:=.lst (sa.map V.ref)) ol8.g;obtain⟨more,hmet⟩:=hmore8;obtain⟨more5,hmet5⟩:=hmore5;have hS:=hcovS.more more (D':=fun x y=>x∈M1.starts/\y∈M2.starts) (fun _ _=>fz);rw[<-hmet]at hS;have hen:met[en]?=TL (M1.fin,M2.fin):=by rw[hmet,hmet5];exact jQ (jQ hn3 more5) more
   refine AO (M:=⟨L,en,st⟩) wd s9 rfl (n89 _ _ (e68 _ _ ax)) ⟨sa,ax,cP (fun _ _ z=>iO.mono n89 z) pst⟩ fun G10 H10 p10 s10 hM10=>?_
   have hst:Fw M1 M2 met st:=⟨fun i l p q' hi hpi Z n hz=>by
     obtain⟨x,y,a1,a2,a3,a4⟩:=(hcov i l p q' hi hpi).1.here Z n hz;exact⟨x.1,x.2,y.1,y.2,a1.1,a1.2,a2,a3,a4⟩,fun i l p q' hi hpi S t S' u h1 h2 hz=>by
     obtain⟨n,a1,a2⟩:=(hcov i l p q' hi hpi).1.all (S,t) (S',u) ⟨h1,h2⟩ hz;exact⟨n,a1,a2⟩⟩
   have hB:vL M1 M2 ⟨L,en,st⟩ met:=⟨hst,hsl,ps8.nod,hen,fun n hn=>by
     obtain⟨x,y,a1,a2⟩:=hS.here n hn;exact⟨x,y,a1.1,a1.2,a2⟩,fun p q' h1 h2=>hS.all p q' ⟨h1,h2⟩⟩
   have hto:∀p S t,(S,t)∈ba.from ⟨L,en,st⟩ p->t<st.length/\S≠0/\S<2^256:=fun p S t ht=>by
    have hp:p<st.length:=xw ht;have el:st[p]?=TL (ba.from ⟨L,en,st⟩ p):=rR (M:=⟨L,en,st⟩) hp;have em:met[p]?=TL met[p]:=bO (by lia);generalize met[p]=pq at em;obtain⟨x,y,a1,a2,a3,a4⟩:=(hcov p _ pq.1 pq.2 el em).1.here S t ht;refine⟨by rw[hsl];exact(aK.mp a4).1,a3,?_⟩;rw[a2];exact tL Nat.and_le_left (hset _ _ _ a1.1)
   have hstl:∀p∈L,p<st.length:=fun p hp=>by
    obtain⟨x,y,_,a2⟩:=hS.here p hp;rw[hsl];exact(aK.mp a2).1
   have henl:en<st.length:=by rw[hsl];exact(aK.mp hen).1
   refine q _ _ p10 _ met s10 hM10 hB ⟨henl,hstl,hto⟩ ⟨henl,hstl,fun p S t ht=>(hto p S t ht).1,fun k=>?_,?_⟩ (by show st.length<=_;rw[hsl];exact hmb)
   .by_cases hk:k<st.length
    .have el:st[k]?=TL (ba.from ⟨L,en,st⟩ k):=rR (M:=⟨L,en,st⟩) hk;have em:met[k]?=TL met[k]:=bO (by lia);generalize met[k]=pq at em;exact(hcov k _ pq.1 pq.2 el em).2
    .unfold ba.from;rw[hU (by show st.length<=k;lia)];exact bI _
   .show L.length<=_;have h2:M1.starts.length*M2.starts.length<=c1*c2:=qU bd1.sl bd2.sl;lia
theorem yh{α β:Type}{F F':α->β->Prop}:∀{bs:List α}{rows:List β}{t:Nat}{b:α}{r':β},bK F bs rows->bs.Nodup->bs[t]?=TL b->(∀q o,q≠b->F q o->F' q o)->F' b r'->bK F' bs (rows.set t r')
 |_,_,t,_,_,.nil,_,h,_,_=>by simp at h
 |x::xs,_,0,b,r',.cons _ tl,hd,h,hF,hb=>by
  simp at h;subst h;refine .cons hb (paired_keep tl fun q hq o=>hF q o fun z=>?_);exact(jG.mp hd).1 (z▸hq)
 |x::xs,_,t+1,b,r',.cons hx tl,hd,h,hF,hb=>by
  have h:xs[t]?=TL b:=h;refine .cons (hF _ _ (fun z=>(jG.mp hd).1 (z▸du h)) hx) (yh tl (jG.mp hd).2 h hF hb)
where
 paired_keep {α β:Type} {F F':α->β->Prop}:∀{bs:List α}{rows:List β},bK F bs rows->(∀q,q∈bs->∀o,F q o->F' q o)->bK F' bs rows
  |_,_,.nil,_=>.nil
  |_,_,.cons h t,k=>.cons (k _ dI _ h) (paired_keep t fun q hq=>k q (bX _ hq))
abbrev ra(A:Cn)(H G H1:Hp)(bs:List aa)(rows:List (List Nat)):Prop:=bK (fun b r=>ar A H G H1 b (.lst (iv r))) bs rows
theorem KS{A:Cn}{G H H1:Hp}(wd:Wd A G H):∀{bs:List aa}{rows:List (List Nat)}{G1:Hp},Step A G H G1 H1->ra A H G1 H1 bs rows->bs.Nodup->
  ∃G2,Step A G H G2 H1/\bh G1 G2/\bK (fun b r=>G2 b=TL (.lst (iv r))) bs rows/\∀q o,q∉bs->ar A H G1 H1 q o->ar A H G2 H1 q o
 |_,_,G1,s,.nil,_=>⟨G1,s,bh.refl _,.nil,fun _ _ _ h=>h⟩
 |b::bs,r::rows,G1,s,.cons h t,hd=>by
  have hd:=jG.mp hd;have s2:=s.sealO wd h aS;have n2:=bx (o:=.lst (iv r)) h.g;have t2:ra A H (ah G1 b (.lst (iv r))) H1 bs rows:=yh.paired_keep t fun q hq o ho=>ho.seal_ h (fun z=>hd.1 (z▸hq)) aS;obtain⟨G2,s3,e3,p3,k3⟩:=KS wd s2 t2 hd.2;refine⟨G2,s3,n2.trans e3,.cons (e3 _ _ ax) p3,fun q o hq ho=>k3 q o (fun z=>hq (bX _ z)) (ho.seal_ h (fun z=>hq (z▸dI)) aS)⟩
structure lY(M:ba)(c i j:Nat)(rows:List (List Nat)):Prop where
 len:rows.length=M.steps.length
 at_:∀(t:Nat)(r:List Nat),rows[t]?=TL r->∀p,p∈r↔(p<i/\oQ M p t)\/(p=i/\∃S,(S,t)∈(M.from i).take j)
 le:∀(t:Nat)(r:List Nat),rows[t]?=TL r->r.length<=i*c+j
theorem lY.next{M:ba}{c i:Nat}{rows:List (List Nat)}(h:lY M c i (M.from i).length rows)(hc:(M.from i).length<=c):lY M c (i+1) 0 rows:=
 ⟨h.len,fun t r ht p=>by
  rw[h.at_ t r ht p,cv,eR];constructor
  .rintro(⟨a,b⟩|⟨rfl,b⟩)
   .exact .inl ⟨by lia,b⟩
   .exact .inl ⟨by lia,b⟩
  .rintro(⟨a,b⟩|⟨_,S,b⟩)
   .by_cases z:p=i
    .subst z;exact .inr ⟨rfl,b⟩
    .exact .inl ⟨by lia,b⟩
   .exact J5 b jg,fun t r ht=>by
  have:=h.le t r ht;rw[px];lia⟩
theorem lY.put{M:ba}{c i j S t:Nat}{rows:List (List Nat)}{r:List Nat}(h:lY M c i j rows)(hj:(M.from i)[j]?=TL (S,t))(hr:rows[t]?=TL r):lY M c i (j+1) (rows.set t (r++[i])):=
 ⟨by rw[List.length_set];exact h.len,fun t' r' ht p=>by
  have hts:=take_snoc hj;rw[hts];by_cases z:t=t'
  .subst z;rw[tD (aK.mp hr).1]at ht;cases ht;rw[cn,h.at_ t r hr p];constructor
   .rintro((a|⟨a,S',b⟩)|a)
    .exact .inl a
    .exact .inr ⟨a,S',cW _ b⟩
    .exact .inr ⟨cE.mp a,S,dA _ (cE.mpr rfl)⟩
   .rintro(a|⟨a,S',b⟩)
    .exact .inl (.inl a)
    .exact .inr (cE.mpr a)
  .rw[qP z]at ht;rw[h.at_ t' r' ht p];constructor
   .rintro(a|⟨a,S',b⟩)
    .exact .inl a
    .exact .inr ⟨a,S',cW _ b⟩
   .rintro(a|⟨a,S',b⟩)
    .exact .inl a
    .rcases cn.mp b with b|b
     .exact .inr ⟨a,S',b⟩
     .cases cE.mp b;exact J5 rfl z,fun t' r' ht=>by
  by_cases z:t=t'
  .subst z;rw[tD (aK.mp hr).1]at ht;cases ht;have:=h.le t r hr;rw[bw,dR];lia
  .rw[qP z]at ht;have:=h.le t' r' ht;lia⟩
def Xv(A:Ad):Sp:=fun vs H Q _=>∃(G:Hp)(m:aa)(M:ba)(c:Nat),vs=[.ref m]/\Wd A.toCn G H/\iK A G m M/\lr M c/\M.steps.length<=1000000/\M.steps.length*c+c<=16000000/\
 ∀G' H' p bs rows,Step A.toCn G H G' H'->G' p=TL (.lst (bs.map V.ref))->bK (fun b r=>G' b=TL (.lst (iv r))) bs rows->lY M c M.steps.length 0 rows->Q (.ref p) H'
theorem Tg(T:aY K mg A):Kn P w K mg base aW "places_before" 1 ["machine"] (Xv A):=by
 have sc:aV ["machine","before","place","steps","step"] ["machine"] (aN Kz):=bp;refine Kn.of T.aaL sc (fun vs H Q E h=>?_) (fun f cdv A0 outer s0 H vs Q E hr h=>?_)
 .obtain⟨_,_,_,_,rfl,_⟩:=h;rfl
 obtain⟨G,m,M,c,rfl,wd,⟨dx,sa,la,hm,hsa,as,hla,pla⟩,bd,hn,hnc,q⟩:=h;have hlas:=bU pla
 refine⟨_,(aq (CD rfl sc.nd (i:=1) rfl rfl (yF rfl rfl rfl rfl) (dw (bN (pv 0) rfl)) (own:=[("place",2)]) (fI (by kernel_rfl)) (fun _ _ _ _ _=>by exact(gN 2 sc.nd)) (fun _ _ _ _ _=>by exact jZ) (fun _ _ _ _ _=>by exact(bt ao)))
   (aq (gf ff rfl (oy rfl T.Zo (af (bN (pv 0) rfl) ao)) (ou rfl (ip (gN 2 sc.nd) (ip (gN 3 sc.nd) ow)))
    (au (gf ff rfl (dw (pv 3)) (gN 4 sc.nd)
     (au (eI (eN eT gn gr gc (bP eX (pv 1) (bP dk (pv 4) aB (fun _ _=>rfl)) (fun _ _=>rfl)) (af (pv 2) ao)))))))
   (au (aL (pv 1))))),?_⟩
 cb_eq
 refine bz (wd.sub _ _ hm) T.Zh T.Zu uG ?_;refine gY (ak.of (wd.sub _ _ hla)) (fun D i H'=>∃bs:List aa,bs.length=i/\Step A.toCn G H G H'/\ar A.toCn H G H' D (.lst (bs.map V.ref))/\D∉bs/\bs.Nodup/\ra A.toCn H G H' bs (List.replicate i [])) ?_ ?_ ?_ ?_
 .intro D hD;exact⟨[],rfl,(Step.refl wd).new wd hD,ar.make wd (Step.refl wd) hD,by simp,zI,.nil⟩
 .rintro D i H' _ ⟨bs,_,s1,_⟩;exact ak.of (s1.wd.sub _ _ hla)
 .rintro D i v H' hv ⟨bs,hbl,s1,o1,hD,hnd,hrows⟩
  cb_eq
  have hi:=(aK.mp hv).1;rw[aE,hlas]at hi;refine⟨by decide,fun b hb=>?_⟩;have hDb:D≠b:=fun z=>by rw[<-z,o1.at_]at hb;cases hb
  refine⟨_,by rw[aO hDb];exact o1.at_,?_,?_⟩
  .rw[aE,hbl];exact cf (m:=1000000) (by lia) (by decide)
  have s2:=s1.new wd hb (o:=.lst []);have o2:=o1.new_ hb (o':=.lst []);have ob:=ar.make wd s1 hb (o:=.lst []);refine⟨bs++[b],by rw[bw,hbl];rfl,s2.put wd o2,?_,?_,?_,?_⟩
  .rw[cx];exact o2.put_
  .intro z;rcases cn.mp z with z|z
   .exact hD z
   .exact hDb (cE.mp z)
  .refine zH.mpr ⟨hnd,by simp,fun x hx y hy z=>?_⟩;rw[cE.mp hy]at z;rw[z]at hx;obtain⟨k,hk,ek⟩:=je hx;obtain⟨r,_,hr⟩:=dP hrows (i:=k) (by rw[bO hk,ek]);rw[hr.at_]at hb;cases hb
  .rw[<-Nm,List.replicate_succ'];refine jV (yh.paired_keep hrows fun x hx r hr=>(hr.new_ hb).other fun z=>hD (z▸hx)) (.cons (ob.other (br hDb)) .nil)
 .rintro D H' ⟨bs,hbl,s1,o1,hD,hnd,hrows⟩;rw[aE,hlas]at hbl hrows
  cb_eq
  refine bz (s1.wd.sub _ _ hm) T.Zh T.Zu uG ?_;refine qB (ak.of (s1.wd.sub _ _ hla)) (fun i σ H'=>∃(x2 x3 x4:Option V)(rows:List (List Nat)),σ=[TL (.ref m),TL (.ref D),x2,x3,x4]/\Step A.toCn G H G H'/\ar A.toCn H G H' D (.lst (bs.map V.ref))/\ra A.toCn H G H' bs rows/\lY M c i 0 rows) ?_ ?_ ?_ ?_
  .refine⟨_,_,_,_,rfl,s1,o1,hrows,by rw[Nh],fun t r ht p=>?_,fun t r ht=>?_⟩
   .have:=du ht;rw[(List.mem_replicate.mp this).2];constructor
    .intro z;cases z
    .rintro(⟨z,_⟩|⟨_,S,z⟩)
     .lia
     .rw[eR]at z;cases z
   .have:=du ht;rw[(List.mem_replicate.mp this).2];exact bI _
  .rintro i σ H' _ ⟨_,_,_,_,_,s2,_⟩;exact ak.of (s2.wd.sub _ _ hla)
  .rintro i v σ H' T0 hv ⟨x2,x3,x4,rows,rfl,s2,o2,hrows2,hbef⟩ hT;obtain⟨pa,hpa,rfl⟩:=eM hv;have hi:i<M.steps.length:=by rw[<-hlas];exact(aK.mp hpa).1
   obtain⟨l,hl,ts,hts,pts⟩:=dP pla hpa;have hl':=hl;rw[rR hi]at hl';cases hl';have s3:=s2.new wd hT (o:=.tup [.int (i:Nat),.ref pa]);have o3:=o2.new_ hT (o':=.tup [.int (i:Nat),.ref pa]);have hrows3:ra A.toCn H G (ah H' T0 (.tup [.int (i:Nat),.ref pa])) bs rows:=cP (fun _ _ z=>z.new_ hT) hrows2
   cb_eq
   refine kh (ak.of (s3.wd.sub _ _ hts)) (fun j σ H'=>∃(x4:Option V)(rows:List (List Nat)),σ=[TL (.ref m),TL (.ref D),TL (.int (i:Nat)),TL (.ref pa),x4]/\Step A.toCn G H G H'/\ar A.toCn H G H' D (.lst (bs.map V.ref))/\ra A.toCn H G H' bs rows/\lY M c i j rows) ?_ ?_ ?_ ?_
   .exact⟨_,_,rfl,s3,o3,hrows3,hbef⟩
   .rintro j σ H' _ ⟨_,_,_,s4,_⟩;exact ak.of (s4.wd.sub _ _ hts)
   .rintro j v σ H' hv ⟨y4,rows4,rfl,s4,o4,hrows4,hbef4⟩;obtain⟨tt,htt,rfl⟩:=eM hv;obtain⟨⟨S,t⟩,hst,htG⟩:=dP pts htt;have ht:=bd.to i S t (du hst);have hjl:=(aK.mp hst).1;have hbr:bs[t]?=TL bs[t]:=bO (by rw[hbl];exact ht);generalize bs[t]=b at hbr;obtain⟨r,hrt,hob⟩:=dP hrows4 hbr;have hDb:D≠b:=fun z=>hD (z▸du hbr)
    cb_eq
    refine cH (k:=1) (bT.of (s4.wd.sub _ _ htG)) rfl ?_;refine fB (ak.of o4.at_) (by rw[cI,hbr];rfl) ?_;refine⟨eP (ak.of hob.at_),?_⟩
    cb_eq
    have hrl:=hbef4.le t r hrt;have hil:i*c<=M.steps.length*c:=wk c (by lia);have hfl:=bd.fl i;refine gh hob.at_ ?_ ?_
    .rw[dO];exact cf (m:=16000000) (by lia) (by decide)
    cb_eq
    refine⟨_,_,rfl,s4.put wd hob,o4.other hDb,?_,hbef4.put hst hrt⟩;refine yh hrows4 hnd hbr (fun x r hx hr=>hr.other hx) ?_;rw[<-iA];exact hob.put_
   .rintro σ H' ⟨y4,rows4,rfl,s4,o4,hrows4,hbef4⟩;rw[aE,bU pts]at hbef4;exact⟨_,_,_,_,rfl,s4,o4,hrows4,hbef4.next (bd.fl i)⟩
  .rintro σ H' ⟨x2,x3,x4,rows,rfl,s2,o2,hrows2,hbef⟩;rw[aE,hlas]at hbef
   cb_eq
   obtain⟨G2,s3,e3,p3,k3⟩:=KS wd s2 hrows2 hnd;have o3:=k3 D _ hD o2;have n4:=bx (o:=.lst (bs.map V.ref)) o3.g;exact q _ _ D bs rows (s3.sealO wd o3 aS) ax (cP (fun _ _ z=>n4 _ _ z) p3) hbef
theorem vH{n:Nat}{te:TE}{f:Int->Int->Int}{D:ja}{σ:L2.St}{H:Hp}{i:Int}(h:σ[n]?=TL (TL (.int i)))(q:te σ H fun y H1=>∃j,y=.int j/\D.nx (σ.set n (TL (.int (f i j)))) H1):sM n te (oh f) D σ H:=by
 refine⟨_,h,?_⟩
 have e:(fun y H1=>∃j,y=V.int j/\D.nx (σ.set n (TL (.int (f i j)))) H1)=fun y H1=>oh f (.int i) y H1 fun z H2=>D.nx (σ.set n (TL z)) H2:=by
  funext y H1
  exact propext ⟨fun⟨j,e,q⟩=>⟨i,j,rfl,e,q⟩,fun⟨i',j,e1,e2,q⟩=>by cases e1;exact⟨j,e2,q⟩⟩
 rw[<-e];exact q
theorem Qx{l:List Nat}{i n:Nat}(h:l[i]?=TL n):(iv l)[i]?=TL (.int n):=by
 unfold iv;rw[cI,h];rfl
noncomputable def dl(L:List (Nat×Nat)):List (aP×V):=L.map fun x=>(bZ (x.1:Int),V.int (x.2:Nat))
theorem xp:∀{L:List (Nat×Nat)}{p:Nat},p∉L.map (·.1)->cj (dl L) (bZ (p:Int))=J0
 | [],_,_=>rfl
 |x::L,p,h=>by
  show cj ((bZ (x.1:Int),V.int (x.2:Nat))::dl L) _=J0;rw[iD (fun z=>h (by simp only[bZ.injEq,EA]at z;rw[<-z];exact dI))];exact xp fun z=>h (bX _ z)
theorem pV:∀{L:List (Nat×Nat)}{p d:Nat},(L.map (·.1)).Nodup->(p,d)∈L->cj (dl L) (bZ (p:Int))=TL (.int (d:Nat))
 |x::L,p,d,hn,h=>by
  show cj ((bZ (x.1:Int),V.int (x.2:Nat))::dl L) _=_;have hn:=jG.mp hn;rcases bg.mp h with h|h
  .subst h;exact jz rfl
  .have hp:p∈L.map (·.1):=bS.mpr ⟨_,h,rfl⟩;rw[iD (fun z=>hn.1 (by simp only[bZ.injEq,EA]at z;show x.1∈_;rw[z];exact hp))];exact pV hn.2 h
theorem GI{L:List (Nat×Nat)}{p:Nat}(hn:(L.map (·.1)).Nodup):(cj (dl L) (bZ (p:Int))).isSome=decide (p∈L.map (·.1)):=by
 by_cases h:p∈L.map (·.1)
 .obtain⟨⟨a,d⟩,hx,rfl⟩:=bS.mp h;rw[pV hn hx,dT h];rfl
 .rw[xp h,dF h];rfl
theorem GJ(L:List (Nat×Nat))(p d:Nat):dl (L++[(p,d)])=dl L++[(bZ (p:Int),V.int (d:Nat))]:=by
 unfold dl;rw[cx];rfl
theorem Sh{A:Cn}{kvs:List (aP×V)}:fU A (.dK kvs):=fun _ _ _ _ z=>by cases z
def rA(L:List (Nat×Nat)):Prop:=∀(j:Nat)(x:Nat×Nat),L[j]?=TL x->x.2<=j
theorem XX(p:Nat):rA [(p,0)]:=fun j x h=>by
 match j with
 |0=>cases h;exact aF _
 |j+1=>cases h
theorem XW{L:List (Nat×Nat)}{i p:Nat}{x:Nat×Nat}(h:rA L)(e:L[i]?=TL x):rA (L++[(p,x.2+1)]):=fun j y hy=>by
 have hi:=(aK.mp e).1;have h1:=h i x e;by_cases hj:j<L.length
 .rw[jF hj]at hy;exact h j y hy
 .rw[ph (by lia)]at hy
  have:j-L.length=0:=by
   have:=(aK.mp hy).1;simp at this;lia
  rw[this]at hy;cases hy;show x.2+1<=j;lia
def WW(A:Ad):Sp:=fun vs H Q _=>∃(G:Hp)(m:aa)(M:ba)(c:Nat),vs=[.ref m]/\Wd A.toCn G H/\iK A G m M/\lr M c/\nE M/\M.steps.length<=1000000/\M.steps.length*c+c<=16000000/\
 ∀G' H' p L,Step A.toCn G H G' H'->G' p=TL (.dK (dl L))->iJ M L L.length->rA L->Q (.ref p) H'
theorem SO(T:aY K mg A):Kn P w K mg base aW "fewest_bytes_left" 2 ["machine"] (WW A):=by
 have sc:aV ["machine","before","left","reached","index","place","earlier"] ["machine"] (aN Kb):=bp;refine Kn.of T.aan sc (fun vs H Q E h=>?_) (fun f cdv A0 outer s0 H vs Q E hr h=>?_)
 .obtain⟨_,_,_,_,rfl,_⟩:=h;rfl
 obtain⟨G,m,M,c,rfl,wd,hmac,bd,ok,hn,hnc,q⟩:=h;have hu:=mL hr
 refine⟨_,(aq (pS 1 sc.nd (cF (Tg T) hr (af (pv 0) ao)))
   (aq (pS 2 sc.nd (Ug (Uw (bN (pv 0) rfl) aB Ux) rfl rfl (by simp) (by decide)))
   (aq (pS 3 sc.nd (bt (af (bN (pv 0) rfl) ao)))
   (aq (pS 4 sc.nd aB)
   (aq (qr ff (bL qk (pv 4) (cL T.Ze (pv 3)) (bq _))
    (aq (pS 5 sc.nd (bP eX (pv 3) (pv 4) (fun _ _=>rfl)))
    (aq (uX (i:=4) sc.nd rfl (by first|exact Or.inl rfl|exact lz rfl) aB xG)
    (au (gf ff rfl (dw (bP eX (pv 1) (pv 5) (fun _ _=>rfl))) (gN 6 sc.nd)
     (au (bA (sE (Cv hu (pv 6) (pv 2)))
      (aq (yj hu (pv 2) (pv 6) (bb dX (mW hu (pv 2) (pv 5) (fun _ _=>rfl)) aB) rfl)
      (au (eI (eN eT gn gr gc (pv 3) (af (pv 6) ao)))))
      bG)))))))
   (au (aL (pv 2)))))))),?_⟩
 cb_eq
 refine⟨G,m,M,c,rfl,wd,hmac,bd,hn,hnc,fun G1 H1 pb bs rows s1 hpb hrows hbef=>?_⟩;have hlb:=bU hrows;obtain⟨dx,sa,la,hm,hsa,as,hla,pla⟩:=hmac.mono (s1.same wd)
 cb_eq
 intro dp hdp;have s2:=s1.new wd hdp (o:=.dK []);have o2:=ar.make wd s1 hdp (o:=.dK []);simp only[yI]
 cb_eq
 refine bz (s2.wd.sub _ _ hm) T.Zh T.Zw xO ?_
 cb_eq
 refine⟨o2.at_,[(bZ (M.fin:Int),.int 0)],rfl,by show 1<=15;decide,?_⟩;rw[show sr [] [((bZ (M.fin:Int):aP),V.int 0)]=dl [(M.fin,0)]from rfl];have s3:=s2.put wd o2 (o':=.dK (dl [(M.fin,0)]));have o3:=o2.put_ (o':=.dK (dl [(M.fin,0)]));refine bz (s3.wd.sub _ _ hm) T.Zh T.Zw xO ?_
 cb_eq
 refine⟨by decide,fun rp hrp=>?_⟩;have s4:=s3.new wd hrp (o:=.lst (iv [M.fin]));have o4:=o3.new_ hrp (o':=.lst (iv [M.fin]));have r4:=ar.make wd s3 hrp (o:=.lst (iv [M.fin]));have hdr:dp≠rp:=fun z=>by rw[<-z,o3.at_]at hrp;cases hrp
 refine qC (fun mm σ H'=>∃(x5 x6:Option V)(L:List (Nat×Nat))(i:Nat),mm=M.steps.length-i/\σ=[TL (.ref m),TL (.ref pb),TL (.ref dp),TL (.ref rp),TL (.int (i:Nat)),x5,x6]/\Step A.toCn G H G1 H'/\ar A.toCn H G1 H' dp (.dK (dl L))/\ar A.toCn H G1 H' rp (.lst (iv (L.map Prod.fst)))/\iJ M L i/\i<=L.length/\rA L)
  ⟨_,_,_,[(M.fin,0)],0,rfl,rfl,s4,o4,r4,QX ok,bI _,XX _⟩ ?_
 rintro mm σ H5 ⟨x5,x6,L,i,rfl,rfl,s5,o5,r5,hL,hi,hst⟩;have hLb:=hL.bound
 cb_eq
 refine cy (ak.of r5.at_) ?_;rw[dO,aE]
 cb_eq
 by_cases hlt:i<L.length
 .rw[dT (by lia)];simp only[if_true];refine⟨_,fun _ _ z=>z,?_⟩;have hg:L[i]?=TL L[i]:=bO hlt;generalize L[i]=x at hg;obtain⟨pl,dd⟩:=x;refine fB (ak.of r5.at_) (Qx (by rw[cI,hg];rfl)) ?_
  cb_eq
  refine vH rfl ?_
  cb_eq
  have hpl:=hL.lt _ (du hg);obtain⟨r,hrr⟩:∃r,rows[pl]?=TL r:=⟨_,bO (by rw[hbef.len];exact hpl)⟩;obtain⟨b,hb,hbG⟩:=jW hrows hrr;refine fB (ak.of (s5.wd.sub _ _ hpb)) (by rw[cI,hb];rfl) ?_
  have hbe:∀p,p∈r↔oQ M p pl:=fun p=>by
   rw[hbef.at_ pl r hrr p];constructor
   .rintro(⟨_,z⟩|⟨_,S,z⟩)
    .exact z
    .rw[eR]at z;cases z
   .intro z;obtain⟨S,hS⟩:=z;exact .inl ⟨xw hS,S,hS⟩
  refine kh (ak.of (s5.wd.sub _ _ hbG)) (fun j σ H'=>∃(x6:Option V)(L':List (Nat×Nat)),σ=[TL (.ref m),TL (.ref pb),TL (.ref dp),TL (.ref rp),TL (.int ((i+1:Nat):Int)),TL (.int (pl:Nat)),x6]/\Step A.toCn G H G1 H'/\ar A.toCn H G1 H' dp (.dK (dl L'))/\ar A.toCn H G1 H' rp (.lst (iv (L'.map Prod.fst)))/\mj M L' i (pl,dd) (r.take j)/\rA L') ?_ ?_ ?_ ?_
  .exact⟨_,L,rfl,s5,o5,r5,by rw[eR];exact QW hL hg,hst⟩
  .rintro j σ H' _ ⟨_,_,_,s6,_⟩;exact ak.of (s6.wd.sub _ _ hbG)
  .rintro j v σ H6 hv ⟨y6,L',rfl,s6,o6,r6,hL',hst'⟩;obtain⟨p,hp,rfl⟩:=mO hv;have hL'b:=hL'.bound
   cb_eq
   refine vI (k:=bZ (p:Int)) o6.at_ ?_;rw[GI hL'.nd]
   cb_eq
   rw[take_snoc hp];by_cases hin:p∈L'.map (·.1)
   .rw[dT hin];simp only[qG,fc,aU,if_false];exact⟨_,_,rfl,s6,o6,r6,QV hL' hin,hst'⟩
   .rw[dF hin];simp only[qG,eJ,if_true];refine nj (k:=bZ (pl:Int)) o6.at_ (pV hL'.nd (du hL'.at_)) ?_
    cb_eq
    have hnone:=xp hin;refine Ek (k:=bZ (p:Int)) o6.at_ ?_ ?_
    .unfold dl;rw[aE];exact cf (m:=1000000) (by lia) (by decide)
    rw[CG _ hnone];have o7:=o6.put_ (o':=.dK (dl (L'++[(p,dd+1)])));have s7:=s6.put wd o6 (o':=.dK (dl (L'++[(p,dd+1)])));have r7:=r6.other (br hdr) (o':=.dK (dl (L'++[(p,dd+1)])));rw[GJ]at o7 s7 r7;refine⟨eP (ak.of r7.at_),?_⟩
    cb_eq
    refine gh r7.at_ ?_ ?_
    .rw[dO,aE];exact cf (m:=1000000) (by lia) (by decide)
    cb_eq
    refine⟨_,L'++[(p,dd+1)],rfl,s7.put wd r7,?_,?_,QT ok hL' hin ((hbe p).mp (du hp)),XW hst' hL'.at_⟩
    .rw[GJ];exact o7.other hdr
    .rw[cx,<-iA];exact r7.put_
  .rintro σ H6 ⟨y6,L',rfl,s6,o6,r6,hL',hst'⟩;rw[dO,cv]at hL';have hL'b:=hL'.bound;refine⟨M.steps.length-(i+1),by lia,_,_,L',i+1,rfl,rfl,s6,o6,r6,QU hL' (fun p hp=>(hbe p).mpr hp),?_,hst'⟩;exact(aK.mp hL'.at_).1
 .rw[dF (by lia)];simp only[aU,if_false];have e:i=L.length:=by lia
  subst e
  cb_eq
  exact q _ _ dp L (s5.sealO wd o5 Sh) ax hL hst
theorem Rv{S b:Nat}(h:ku S b):∃r,S=2^(b+1)*r+2^b:=by
 refine⟨S / 2^(b+1),?_⟩
 have h0:S%2^b=0:=by
  refine Nr fun i=>?_;rw[Nat.testBit_mod_two_pow,EW];by_cases hi:i<b
  .have:S.testBit i=false:=by
    cases z:S.testBit i with
    |false=>rfl
    |true=>have:=h.2 i z;lia
   rw[this];simp
  .simp[hi]
 have h1:S%2^(b+1)=2^b:=by
  have e:=Nat.mod_pow_succ (x:=S) (b:=2) (k:=b);have hb:=h.1;rw[Nat.testBit_eq_decide_div_mod_eq]at hb;have hb:=of_decide_eq_true hb;rw[e,h0,hb];lia
 have:=Nat.div_add_mod S (2^(b+1));lia
theorem Ru{S b:Nat}(h:ku S b):vN (S:Int) (-(S:Int))=((2^b:Nat):Int):=by
 obtain⟨r,hr⟩:=Rv h;have hpos:0<2^b:=Nat.two_pow_pos b;have hS:S≠0:=by lia
 obtain⟨k,hk⟩:∃k,S=k+1:=⟨S-1,by lia⟩
 have key:S-(S&&&k)=2^b:=by
  have:S&&&k=2^(b+1)*r:=by
   have hk2:k=2^(b+1)*r+(2^b-1):=by lia
   refine Nr fun i=>?_;have hlt:2^b<2^(b+1):=pz (by decide) (by lia);rw[my,hr,hk2,Nu _ hlt,Nu _ (by lia)];rw[Nat.testBit_two_pow_mul];by_cases hi:i<b+1
   .rw[J4 hi,J4 hi,pA,Nv];have: ¬b+1<=i:=by lia
    simp only[dF this,vJ];by_cases h2:b=i
    .subst h2;simp
    .simp[h2]
   .rw[J3 hi,J3 hi,Bool.and_self];have:b+1<=i:=by lia
    simp[this]
  lia
 unfold vN Eo;rw[dT (by lia:(0:Int)<=(S:Int)),dF (by lia: ¬(0:Int)<= -(S:Int))];show(S:Int)-((fR (S:Int)&&&fR (- -(S:Int)-1):Nat):Int)=_;rw[fD,show fR (- -(S:Int)-1)=k by lia];have hle:S&&&k<=S:=Nat.and_le_left;lia
theorem On(b:Nat):lZ ((2^b:Nat):Int)=b+1:=by
 have h1:=wG (x:=((2^b:Nat):Int)) (m:=b+1);have h2:=wG (x:=((2^b:Nat):Int)) (m:=b);rw[zq]at h1 h2;have h3:=h1.mpr (pz (by decide) (by lia));have h4: ¬lZ ((2^b:Nat):Int)<=b:=fun z=>by have:=h2.mp z;lia
 lia
def Xi(A:Ad):Sp:=fun vs H Q _=>∃(S b:Nat),vs=[.int S]/\ku S b/\Q (.int (b:Nat)) H
theorem Ta(T:aY K mg A):Kn P w K mg base aW "lowest_byte" 1 ["byte_set"] (Xi A):=by
 have sc:aV ["byte_set"] ["byte_set"] (aN Ko):=bp;refine Kn.of T.aaA sc (fun vs H Q E h=>?_) (fun f cdv A0 outer s0 H vs Q E hr h=>?_)
 .obtain⟨_,_,rfl,_⟩:=h;rfl
 obtain⟨S,b,rfl,hl,q⟩:=h;refine⟨_,(au (aL (bb sy (Ju NF NG NH IF (bb jU (pv 0) (gV gW (pv 0)))) aB))),?_⟩
 cb_eq
 refine⟨rfl,MJ ?_⟩;rw[Ru hl,On]
 cb_eq
 rw[show(((b+1:Nat):Int)-1)=((b:Nat):Int) by lia];exact q
def MS(x:V)(H1:Hp)(R:aa->Prop):Prop:=∃a,x=.ref a/\zt H1 a/\R a
theorem Vc{td ty:TE}{σ:L2.St}{H:Hp}{Q:VK}:LY td ty σ H Q=td σ H fun x H1=>MS x H1 fun a=>ty σ H1 fun y H2=>∃o,fw H2 a y o/\Q (o.getD .non) H2:=rfl
theorem XZ{M:ba}{L:List (Nat×Nat)}{k:Nat}:pJ M L [] k []:=fun S t=>⟨fun h=>(by cases h),fun⟨⟨p,h,_⟩,_⟩=>(by cases h)⟩
theorem Yb{M:ba}{L:List (Nat×Nat)}{k p:Nat}{ps:List Nat}{ss:List (Nat×Nat)}(h:pJ M L ps k ss):pJ M L (ps++[p]) k (ss++(M.from p).filter fun x=>decide ((x.2,k)∈L)):=fun S t=>by
 rw[cn,h S t,qR];constructor
 .rintro(⟨⟨q,h1,h2⟩,h3⟩|⟨h1,h2⟩)
  .exact⟨⟨q,cW _ h1,h2⟩,h3⟩
  .exact⟨⟨p,dA _ (cE.mpr rfl),h1⟩,of_decide_eq_true h2⟩
 .rintro⟨⟨q,h1,h2⟩,h3⟩;rcases cn.mp h1 with h1|h1
  .exact .inl ⟨⟨q,h1,h2⟩,h3⟩
  .cases cE.mp h1;exact .inr ⟨h2,dT h3⟩
def XJ(A:Ad):Sp:=fun vs H Q _=>∃(G:Hp)(m pa da:aa)(M:ba)(c k:Nat)(ps:List Nat)(L:List (Nat×Nat)),vs=[.ref m,.ref pa,.ref da,.int k]/\Wd A.toCn G H/\iK A G m M/\lr M c/\G pa=TL (.lst (iv ps))/\(∀p∈ps,p<M.steps.length)/\G da=TL (.dK (dl L))/\(L.map (·.1)).Nodup/\ps.length*c<=16000000/\c<=16000000/\
 ∀G' H' p ts ss,Step A.toCn G H G' H'->G' p=TL (.lst (ts.map V.ref))->bK (fun t x=>G' t=TL (.tup [.int (x.1:Nat),.int (x.2:Nat)])) ts ss->pJ M L ps k ss->ss.length<=ps.length*c->Q (.ref p) H'
theorem Pi{L:List (Nat×Nat)}{t k:Nat}(hn:(L.map (·.1)).Nodup):(∃d,cj (dl L) (bZ (t:Int))=TL (.int (d:Nat))/\(t,d)∈L/\decide ((d:Int)=(k:Int))=decide ((t,k)∈L))\/(cj (dl L) (bZ (t:Int))=J0/\decide ((t,k)∈L)=J2):=by
 by_cases h:t∈L.map (·.1)
 .obtain⟨⟨a,d⟩,hx,rfl⟩:=bS.mp h;refine .inl ⟨d,pV hn hx,hx,?_⟩;by_cases e:d=k
  .subst e;rw[dT hx,dT rfl]
  .rw[dF (by lia),dF fun z=>e ?_];have h1:=pV hn hx;rw[pV hn z]at h1;injection h1 with h1;injection h1 with h1;lia
 .exact .inr ⟨xp h,dF fun z=>h (bS.mpr ⟨_,z,rfl⟩)⟩
theorem Tt(T:aY K mg A):Kn P w K mg base aW "steps_to" 1 ["machine","places","left","many"] (XJ A):=by
 have sc:aV ["machine","places","left","many","found","place","step"] ["machine","places","left","many"] (aN KQ):=bp;refine Kn.of T.aa1 sc (fun vs H Q E h=>?_) (fun f cdv A0 outer s0 H vs Q E hr h=>?_)
 .obtain⟨_,_,_,_,_,_,_,_,_,rfl,_⟩:=h;rfl
 obtain⟨G,m,pa,da,M,c,k,ps,L,rfl,wd,⟨dx,sa,la,hm,hsa,as,hla,pla⟩,bd,hpa,hps,hda,hnd,hpc,hc,q⟩:=h;have hu:=mL hr
 refine⟨_,(aq (pS 4 sc.nd (bt ao))
   (aq (gf ff rfl (dw (pv 1)) (gN 5 sc.nd)
    (au (eI (eN eT Aa Ab xU (pv 4) (af (ij rfl sc.nd (dw (bP eX (bN (pv 0) rfl) (pv 5) (fun _ _=>rfl))) (own:=[("step",6)]) (fI (by kernel_rfl)) (fun _ _ _ _ _=>by exact(gN 6 sc.nd)) (fun _ _ _ _ _=>by exact(oA (bL eF (Ue hu (pv 2) (bP (xI (K:=K) rfl) (pv 6) aB (fun _ _=>rfl)) ⟨rfl,rfl,rfl,rfl⟩) (pv 3) (bq _)))) (fun _ _ _ _ _=>by exact(pv 6))) ao)))))
   (au (aL (pv 4))))),?_⟩
 cb_eq
 refine⟨by decide,fun fp hfp=>?_⟩;have s1:=(Step.refl wd).new wd hfp (o:=.lst []);have o1:=ar.make wd (Step.refl wd) hfp (o:=.lst []);refine kh (ak.of (s1.wd.sub _ _ hpa)) (fun i σ H'=>∃(x5 x6:Option V)(ts:List aa)(ss:List (Nat×Nat)),σ=[TL (.ref m),TL (.ref pa),TL (.ref da),TL (.int (k:Nat)),TL (.ref fp),x5,x6]/\Step A.toCn G H G H'/\ar A.toCn H G H' fp (.lst (ts.map V.ref))/\bK (fun t x=>G t=TL (.tup [.int (x.1:Nat),.int (x.2:Nat)])) ts ss/\pJ M L (ps.take i) k ss/\ss.length<=i*c) ?_ ?_ ?_ ?_
 .exact⟨_,_,[],[],rfl,s1,o1,.nil,by rw[eR];exact XZ,bI _⟩
 .rintro i σ H' _ ⟨_,_,_,_,_,s2,_⟩;exact ak.of (s2.wd.sub _ _ hpa)
 .rintro i v σ H2 hv ⟨x5,x6,ts,ss,rfl,s2,o2,pts,hss,hsl⟩;obtain⟨p,hp,rfl⟩:=mO hv;have hpl:=hps p (du hp);have hil:=(aK.mp hp).1;obtain⟨a1,ha1,us,hus,pus⟩:=jW pla (rR hpl);have hfl:=bd.fl p
  have hic:i*c+c<=ps.length*c:=by
   have:=wk c (show i+1<=ps.length from hil);rw[px]at this;lia
  cb_eq
  refine⟨eP (ak.of o2.at_),?_⟩;refine bz (s2.wd.sub _ _ hm) T.Zh T.Zu uG ?_;refine fB (ak.of (s2.wd.sub _ _ hla)) (by rw[cI,ha1];rfl) ?_;refine gY (ak.of (s2.wd.sub _ _ hus)) (fun D j H'=>∃(vs:List aa),Step A.toCn G H G H'/\ar A.toCn H G H' fp (.lst (ts.map V.ref))/\ar A.toCn H G H' D (.lst (vs.map V.ref))/\D≠fp/\bK (fun t x=>G t=TL (.tup [.int (x.1:Nat),.int (x.2:Nat)])) vs (((M.from p).take j).filter fun x=>decide ((x.2,k)∈L))) ?_ ?_ ?_ ?_
  .intro D hD;exact⟨[],s2.new wd hD,o2.new_ hD,ar.make wd s2 hD,(fun z=>by rw[z,o2.at_]at hD;cases hD),.nil⟩
  .rintro D j H' _ ⟨_,s3,_⟩;exact ak.of (s3.wd.sub _ _ hus)
  .rintro D j v H3 hv ⟨vs,s3,o3,d3,hDf,pvs⟩;obtain⟨u,hu1,rfl⟩:=eM hv;obtain⟨⟨S,t⟩,hst,htG⟩:=dP pus hu1;have hjl:=(aK.mp hst).1;have hlv:=bU pvs
   have hvl:vs.length<=j:=by
    rw[hlv];refine dM (pj _ _) ?_;rw[cQ];lia
   cb_eq
   simp only[Vc]
   cb_eq
   refine⟨da,rfl,.inl ⟨_,.inl (s3.wd.sub _ _ hda)⟩,?_⟩;refine cH (k:=1) (bT.of (s3.wd.sub _ _ htG)) rfl ?_;rw[take_snoc hst,qN];refine⟨_,fw.k (k:=bZ (t:Int)) (s3.wd.sub _ _ hda),?_⟩;rcases Pi (t:=t) (k:=k) hnd with⟨d,e1,_,e2⟩|⟨e1,e2⟩
   .rw[e1];simp only[Option.getD_some]
    cb_eq
    rw[e2];by_cases hin:(t,k)∈L
    .rw[dT hin];simp only[if_true];refine⟨_,d3.at_,?_,vs++[u],s3.put wd d3,o3.other (br hDf),?_,hDf,?_⟩
     .rw[aE];exact cf (m:=16000000) (by lia) (by decide)
     .rw[cx];exact d3.put_
     .refine jV pvs ?_;rw[kZ,J4 (dT hin),pf];exact .cons htG .nil
    .rw[dF hin];simp only[aU,if_false];refine⟨vs,s3,o3,d3,hDf,?_⟩;rw[kZ,J3 (by simp[hin]),pf,cD];exact pvs
   .rw[e1];simp only[EZ]
    cb_eq
    refine⟨vs,s3,o3,d3,hDf,?_⟩;have hin:(t,k)∉L:=of_decide_eq_false e2;rw[kZ,J3 (by simp[hin]),pf,cD];exact pvs
  .rintro D H3 ⟨vs,s3,o3,d3,hDf,pvs⟩;rw[aE,bU pus,cv]at pvs;have hlv:=bU pvs
   have hvl:vs.length<=c:=by
    rw[hlv];exact dM (pj _ _) hfl
   have hlt:=bU pts
   cb_eq
   refine yX o3.at_ d3.at_ ?_ ?_
   .rw[aE,aE,hlt];have:(16000000:Nat)<=aZ:=by decide
    lia
   cb_eq
   refine⟨_,_,ts++vs,_,rfl,s3.put wd o3,?_,jV pts pvs,by rw[take_snoc hp];exact Yb hss,?_⟩
   .rw[cx];exact o3.put_
   .rw[bw,<-hlv,px];lia
 .rintro σ H2 ⟨x5,x6,ts,ss,rfl,s2,o2,pts,hss,hsl⟩;rw[dO,cv]at hss;rw[dO]at hsl
  cb_eq
  exact q _ _ fp ts ss (s2.sealO wd o2 aS) ax (cP (fun t x z=>bx o2.g _ _ z) pts) hss hsl
end
end PP
namespace PP
open PySem PySem.Spec L2
def nO(xs:Array Nat):Prop:=∀(i j x y:Nat),i<j->xs[i]?=TL x->xs[j]?=TL y->x<y
structure zd(xs:Array Nat)(j k:Nat):Prop where
 le:k<=xs.size
 lo:∀(i x:Nat),i<k->xs[i]?=TL x->x<j
 hi:∀(i x:Nat),k<=i->xs[i]?=TL x->j<=x
theorem As{xs:Array Nat}{j:Nat}(hr:nO xs):∀(fuel lo hi:Nat),lo<=hi->hi<=xs.size->hi-lo<=fuel->(∀(i x:Nat),i<lo->xs[i]?=TL x->x<j)->(∀(i x:Nat),hi<=i->xs[i]?=TL x->j<=x)->zd xs j (Aj xs j fuel lo hi)
 |0,lo,hi,h1,h2,h3,h4,h5=>by
  have e:lo=hi:=by lia
  subst e;exact⟨h2,h4,h5⟩
 |fuel+1,lo,hi,h1,h2,h3,h4,h5=>by
  unfold Aj;by_cases hlt:lo<hi
  .rw[J4 hlt];have hm:(lo+hi) / 2<xs.size:=by lia
   have hg:xs[(lo+hi) / 2]?=TL xs[(lo+hi) / 2]:=iY hm;have hd:xs.getD ((lo+hi) / 2) j=xs[(lo+hi) / 2]:=by rw[oK,hg];rfl
   show zd xs j (if xs.getD ((lo+hi) / 2) j<j then Aj xs j fuel ((lo+hi) / 2+1) hi else Aj xs j fuel lo ((lo+hi) / 2));rw[hd];by_cases hx:xs[(lo+hi) / 2]<j
   .rw[J4 hx];refine As hr fuel _ _ (by lia) h2 (by lia) (fun i x hi2 hx'=>?_) h5;by_cases e:i=(lo+hi) / 2
    .subst e;rw[hg]at hx';cases hx';exact hx
    .have:=hr i _ _ _ (by lia) hx' hg;lia
   .rw[J3 hx];refine As hr fuel _ _ (by lia) (by lia) (by lia) h4 (fun i x hi2 hx'=>?_);by_cases e:i=(lo+hi) / 2
    .subst e;rw[hg]at hx';cases hx';lia
    .have:=hr _ i _ _ (by lia) hg hx';lia
  .rw[J3 hlt];have e:lo=hi:=by lia
   subst e;exact⟨h2,h4,h5⟩
theorem FS{xs:Array Nat}(hr:nO xs)(j:Nat):zd xs j (iM xs j):=
 As hr _ _ _ (bI _) (aF _) (by lia) (fun i x h=>by lia) (fun i x h e=>by rw[zb h]at e;cases e)
theorem CO{xs:Array Nat}(h:xs.toList.Pairwise (·<·)):nO xs:=fun i j x y hij hx hy=>by
 rw[<-iF]at hx hy;obtain⟨a1,a2⟩:=aK.mp hx;obtain⟨b1,b2⟩:=aK.mp hy;have:=zJ.mp h i j a1 b1 hij;lia
theorem UC{xs:Array Nat}(h:nO xs):xs.toList.Pairwise (·<·):=zJ.mpr fun i j hi hj hij=>
 h i j _ _ hij (by rw[<-iF];exact bO hi) (by rw[<-iF];exact bO hj)
theorem We{xs:Array Nat}{j:Nat}(hr:nO xs)(hn:xs[iM xs j]?≠TL j):nO (bY.insertAt xs (iM xs j) j):=by
 have hb:=FS hr j;refine CO ?_;rw[bY.toList_insertAt];have hp:=UC hr;refine Nj.mpr ⟨hp.take,mv.mpr ⟨fun x hx=>?_,hp.drop⟩,fun x hx y hy=>?_⟩
 .obtain⟨i,hi,e⟩:=je hx
  have e2:xs[iM xs j+i]?=TL x:=by
   rw[<-iF,<-vW,bO hi,e]
  have h1:=hb.hi _ x (by lia) e2;by_cases z:x=j
  .subst z;by_cases zi:i=0
   .subst zi;exact J5 e2 hn
   .have hlt:iM xs x<xs.size:=by
     by_cases q:iM xs x<xs.size
     .exact q
     .rw[zb (by lia)]at e2;cases e2
    have e3:xs[iM xs x]?=TL xs[iM xs x]:=iY hlt;have h2:=hr _ _ _ _ (by lia) e3 e2;have h3:=hb.hi _ _ (aF _) e3;lia
  .lia
 .have h1:∀x,x∈xs.toList.take (iM xs j)->x<j:=fun x hx=>by
   obtain⟨i,hi,e⟩:=je hx;rw[cQ]at hi;rw[List.getElem_take]at e;exact hb.lo i x (by lia) (by rw[<-iF,bO (by lia),e])
  rcases bg.mp hy with rfl|hy
  .exact h1 x hx
  .obtain⟨i,hi,e⟩:=je hy
   have e2:xs[iM xs j+i]?=TL y:=by
    rw[<-iF,<-vW,bO hi,e]
   have:=hb.hi _ y (by lia) e2;have:=h1 x hx;lia
structure eU(led:Bool)(t:bY):Prop where
 rise:nO t.place
 dum:t.dummies= #[]
 led:t.led=led
theorem Yo(led:Bool):eU led (.fresh 0 0 led):=⟨fun i j x y _ h=>by simp[bY.fresh]at h,rfl,rfl⟩
theorem yL{led:Bool}{t:bY}(h:eU led t)(n:Nat):eU led (t.standIn n):=⟨by
 refine CO ?_;show(Array.range n).toList.Pairwise (·<·);rw[Array.toList_range];exact wa,rfl,h.led⟩
theorem Yr{led:Bool}{t:bY}(h:eU led t)(b:Bool):eU led {t with plain:=b}:=⟨h.rise,h.dum,h.led⟩
theorem Hs(j:Nat):bY.has #[] j=false:=by
 unfold bY.has;simp
theorem Lm{led:Bool}{t:bY}(h:eU led t)(j:Nat):t.slot j=(if t.place[iM t.place j]?==TL j then .live (iM t.place j)else .empty):=by
 unfold bY.slot;rw[h.dum,Hs];rfl
theorem Jy{led:Bool}{t:bY}(h:eU led t)(hashAt:Nat->Int)(hh:Int):∀(fuel:Nat)(p:bY.Probe)(j:Nat)(d:Option Nat),p.dummy=J0->bY.probe.go t hashAt hh fuel p=TL (.empty j d)->d=J0/\t.slot j=.empty
 |0,p,j,d,_,e=>by cases e
 |fuel+1,p,j,d,hp,e=>by
  unfold bY.probe.go at e
  have hadv:∀p:bY.Probe,p.dummy=J0->(t.advance p).dummy=none:=fun p hp=>by
   unfold bY.advance;split
   .exact hp
   .exact hp
  cases hs:t.slot p.j with
  |empty=>
   rw[hs]at e;simp only[Ny.injEq,bY.Met.empty.injEq]at e;obtain⟨rfl,rfl⟩:=e;exact⟨hp,hs⟩
  |dummy=>
   rw[Lm h]at hs;split at hs<;>cases hs
  |live i=>
   rw[hs]at e;dsimp only at e;split at e
   .cases e
   .exact Jy h hashAt hh fuel _ j d (hadv p hp) e
theorem Mt{led:Bool}{t:bY}{hh:Int}{slot:Nat}{wd:Bool}(h:eU led t)(hf:t.freeSlot hh=TL (slot,wd)):eU led (t.put slot).1:=by
 have hsl:t.slot slot=.empty:=by
  unfold bY.freeSlot at hf;split at hf
  .rename_i j d e
   obtain⟨rfl,h2⟩:=Jy h _ _ _ (t.probeStart hh) j d rfl e;cases hf;exact h2
  .cases hf
 rw[Lm h]at hsl
 have hn:t.place[iM t.place slot]?≠TL slot:=fun z=>by
  rw[z]at hsl;simp at hsl
 refine⟨We h.rise hn,?_,h.led⟩;show(if bY.has t.dummies slot then _ else t.dummies)= #[];rw[h.dum,Hs];rfl
theorem Yq{led:Bool}{t:bY}(h:eU led t)(es:Array (Int×ae))(hh:Int)(x:ae):eU led (layNew t es hh x).2.1:=by
 unfold layNew;split
 .rename_i slot wd e
  show eU led (bY.orStandIn (t.put slot).1 _);unfold bY.orStandIn;split
  .exact Mt h e
  .exact yL (Mt h e) _
 .exact yL h _
theorem Yp{mask finger moves:Nat}{led plain:Bool}{hs:Array Int}{t:bY}{o:Array Nat}(e:bY.laid mask finger moves led plain hs=TL (t,o)):eU led t:=by
 unfold bY.laid at e;cases hl:bY.layClean mask hs with
 |none=>rw[hl]at e;cases e
 |some owner=>
  rw[hl]at e;cases e;refine⟨CO ?_,rfl,rfl⟩;show(((er (mask+1)).filterMap fun j=>(owner.getD j J0).map (j,·)).map (·.1)).Pairwise (·<·);refine lh.mpr (List.pairwise_filterMap.mpr (wa.imp fun{a b} hab x hx y hy=>?_));cases ha:owner.getD a J0 with
  |none=>rw[ha]at hx;cases hx
  |some u=>
   rw[ha]at hx;cases hx;cases hb:owner.getD b J0 with
   |none=>rw[hb]at hy;cases hy
   |some u=>
    rw[hb]at hy;cases hy;exact hab
theorem Ys{led:Bool}{t:bY}(h:eU led t)(es:Array (Int×ae))(n:Nat):eU led (relayAll t es n).2.1:=by
 unfold relayAll;split
 .rename_i t' order e
  dsimp only;unfold bY.relaid at e;have:=Yp e;rw[h.led]at this;split
  .exact this
  .exact yL h _
 .exact yL h _
end PP
namespace PP
open PySem PySem.Spec L2 PyProof.Rows
section
variable{prog:aJ}{w:aH}
def gK(prog:aJ)(w:aH)(led:Bool)(h:aA)(a:aa)(S:Int->Bool)(n:Nat):Prop:=
 ∃o es ep t,h.get? a=TL o/\o.ExactSet/\o.data=.set es ep t/\ElemsOf (intKind prog w) es.toList/\(∀k,S k=J1↔∃e∈es.toList,(intKind prog w).is k e.2=J1)/\es.size<lT/\t.fits es.size=J1/\es.size=n/\eU led t
theorem gK.at{led:Bool}{h h':aA}{a:aa}{S:Int->Bool}{n:Nat}(x:gK prog w led h a S n)(e:∀o,h.get? a=TL o->h'.get? a=TL o):gK prog w led h' a S n:=by
 obtain⟨o,es,ep,t,ho,r⟩:=x;exact⟨o,es,ep,t,e _ ho,r⟩
theorem gK.congr{led:Bool}{h:aA}{a:aa}{S S':Int->Bool}{n n':Nat}(x:gK prog w led h a S n)(e:∀k,S k=S' k)(en:n=n'):gK prog w led h a S' n':=by
 have:S=S':=funext e;subst this;subst en;exact x
variable{A:bM}{E:ae->aj->Prop}{s:aj}
theorem Lb{led:Bool}{h:aA}{a:aa}{o:Obj}{es:Array (Int×ae)}{ep:Nat}{t:bY}(ho:h.get? a=TL o)(hex:o.ExactSet)(hd:o.data=.set es ep t)
  {es':Array (Int×ae)}{t':bY}{S':Int->Bool}(hel:ElemsOf (intKind prog w) es'.toList)(hmem:∀k,S' k=J1↔∃e∈es'.toList,(intKind prog w).is k e.2=J1)(hb:es'.size<lT)(hf:t'.fits es'.size=J1)(ht:eU led t'):
  (h.update a (wx es' t')).get? a=TL {o with data:=.set es' (ep+1) t'}/\gK prog w led (h.update a (wx es' t')) a S' es'.size:=by
 have hg:(h.update a (wx es' t')).get? a=TL {o with data:=.set es' (ep+1) t'}:=by
  have:=mf (wx es' t') ho (by rw[putSet_of es' t' hd];rfl);rw[putSet_of es' t' hd]at this;exact this
 exact⟨hg,_,es',ep+1,t',hg,hex,rfl,hel,hmem,hb,hf,rfl,ht⟩
theorem FF{led:Bool}{g:Bool->Sem Unit}(hg:∀(b:Bool)(s₁:aj)(Q':Unit->aj->Prop),Q' () s₁->az (aC prog w) A (g b) Q' E s₁)
  {a:aa}{o:Obj}{es:Array (Int×ae)}{ep:Nat}{t:bY}(ho:s.heap.get? a=TL o)(hex:o.ExactSet)(hd:o.data=.set es ep t)
  {es1:Array (Int×ae)}{t2:bY}{S':Int->Bool}(hel1:ElemsOf (intKind prog w) es1.toList)(hmem1:∀k',S' k'=J1↔∃e∈es1.toList,(intKind prog w).is k' e.2=J1)
  (hb1:es1.size<lT)(hf2:t2.fits es1.size=J1)(ht2:eU led t2){wasDummy:Bool}{R:Option Bool->aj->Prop}
  (h:∀h',me a s.heap h'->gK prog w led h' a S' es1.size->R (TL J1) {s with heap:=h'}):
  az (aC prog w) A (do
    storeSet a es1 t2
    if(!wasDummy&&t2.tooFull)=J1 then do
      g (relayAll t2 es1 (rq es1.size)).2.2
      storeSet a (relayAll t2 es1 (rq es1.size)).1 (relayAll t2 es1 (rq es1.size)).2.1
      pure (TL J1)
     else pure (TL J1)) R E s:=by
 refine ay (wpAny_storeSet_of ho hd ?_ (fits_of_scanBound hb1));obtain⟨ho1,hS1⟩:=Lb ho hex hd hel1 hmem1 hb1 hf2 ht2;have hsb1:=oW s.heap a (wx es1 t2);split
 .have hp:=relayAll_perm t2 es1 (rq es1.size);have hfr:=relayAll_fits t2 es1 (rq es1.size);have htr:=Ys ht2 es1 (rq es1.size);generalize hRl:relayAll t2 es1 (rq es1.size)=Rl at hp hfr htr⊢;obtain⟨es2,t3,gave2⟩:=Rl;dsimp only at hp hfr htr⊢;have hel2:ElemsOf (intKind prog w) es2.toList:=hel1.perm hp;have hmem2:∀k',S' k'=J1↔∃e∈es2.toList,(intKind prog w).is k' e.2=true:=fun k'=>(hmem1 k').trans ⟨fun⟨e,he,q⟩=>⟨e,hp.mem_iff.mpr he,q⟩,fun⟨e,he,q⟩=>⟨e,hp.mem_iff.mp he,q⟩⟩;have hsz:es2.size=es1.size:=by rw[<-fO,hp.length_eq,fO]
  have hb2:es2.size<lT:=by rw[hsz];exact hb1
  refine ay (hg _ _ _ ?_);refine ay (wpAny_storeSet_of ho1 rfl ?_ (fits_of_scanBound hb2));obtain⟨_,hS2⟩:=Lb ho1 hex rfl hel2 hmem2 hb2 hfr htr;rw[hsz]at hS2;exact aT (h _ (hsb1.trans (oW _ a _)) hS2)
 .exact aT (h _ hsb1 hS1)
theorem NV{led:Bool}{a:aa}{S:Int->Bool}{n:Nat}{k:Int}{x:ae}{Q:Bool->aj->Prop}(hkey:(intKind prog w).is k x=J1)(hsc:x.scannable=J1)(hS:gK prog w led s.heap a S n)
  (hroom:S k=J2->n+1<lT)
  (h:∀h',me a s.heap h'->gK prog w led h' a (fun k'=>S k'||decide (k'=k)) (if S k then n else n+1)->Q (!S k) {s with heap:=h'}):
  az (aC prog w) A (setAddHashed a x ((intKind prog w).hash k)) Q E s:=by
 obtain⟨o,es,ep,t,ho,hex,hd,hel,hmem,hb,hf,hn,ht⟩:=hS;unfold setAddHashed setAddHashedIn;refine sR (ay (qA ho hd hf ?_));dsimp only;rw[byScan_of hsc hb hel];simp only[↓reduceIte];unfold setAddByScan;refine ay ?_;refine ay (vF ?_);refine ay (wpAny_setScan_of hkey ho hd hf hel ?_);cases hr:List.findIdx? (fun e=>(intKind prog w).is k e.2) es.toList with
 |some j=>
  dsimp only;obtain⟨hj,hpj,_⟩:=EI.mp hr;have hSk:S k=true:=(hmem k).mpr ⟨es.toList[j],lb hj,hpj⟩;refine aT (aT ?_);have e:s={s with heap:=s.heap}:=by cases s;rfl
  have:=h s.heap (me.refl a s.heap) ⟨o,es,ep,t,ho,hex,hd,hel,fun k'=>by
   rw[qF,decide_eq_true_eq,<-hmem k'];exact⟨fun hk=>hk.elim id (fun e=>e▸hSk),.inl⟩,hb,hf,by rw[hSk];exact hn,ht⟩
  rw[hSk]at this;rw[e];exact this
 |none=>
  dsimp only
  have hSk:S k=false:=by
   cases hk:S k with
   |false=>rfl
   |true=>obtain⟨e,he,hp⟩:=(hmem k).mp hk;have:=Nb.mp hr e he;rw[hp]at this;exact Em this
  have hb1:es.size+1<lT:=by rw[hn];exact hroom hSk
  have hgw:∀(b:Bool){s₁:aj}{Q':Unit->aj->Prop},Q' () s₁->az (aC prog w) A (match b with|true=>rule "set.scan.the-table-gave-way"|false=>pure ()) Q' E s₁:=
   fun b s₁ Q' hq=>by cases b<;>first|exact aT hq|exact vF hq
  have hperm:=layNew_perm t es ((intKind prog w).hash k) x;have hfits:=layNew_fits t es ((intKind prog w).hash k) x;have htok:=Yq ht es ((intKind prog w).hash k) x;generalize hL:layNew t es ((intKind prog w).hash k) x=L at hperm hfits htok⊢;obtain⟨es1,t1,wasDummy,gave⟩:=L;dsimp only at hperm hfits htok⊢;rw[Array.toList_push]at hperm;have hel1:ElemsOf (intKind prog w) es1.toList:=(hel.push hkey hsc).perm hperm;have hmem1:∀k',(S k'||decide (k'=k))=J1↔∃e∈es1.toList,(intKind prog w).is k' e.2=true:=mem_push_iff hkey hmem hperm;have hb1':es1.size<lT:=by rw[<-fO,hperm.length_eq,bw,fO];simpa using hb1
  refine ay (hgw _ ?_);have hsz1:es1.size=n+1:=by rw[<-fO,hperm.length_eq,bw,fO,hn];rfl
  have hend:∀h',me a s.heap h'->gK prog w led h' a (fun k'=>S k'||decide (k'=k)) es1.size->Q J1 {s with heap:=h'}:=by
   intro h' hsb hS';have:=h h' hsb;rw[hSk]at this;rw[hsz1]at hS';exact this hS'
  split
  .refine ay ?_;rw[hashByValue_scannable 8 hsc];refine aT ?_;refine FF (led:=led) ?_ ho hex hd hel1 hmem1 hb1' ?_ ?_ ?_
   .intro b s₁ Q' hq;cases b<;>first|exact aT hq|exact vF hq
   .split
    .exact hfits
    .exact bY.fits_plain_off hfits
   .split
    .exact htok
    .exact Yr htok _
   .intro h' hsb hS';dsimp only;exact aT (hend h' hsb hS')
  .refine ay (aT ?_);simp only[↓reduceIte];refine FF ?_ ho hex hd hel1 hmem1 hb1' hfits htok ?_
   .intro b s₁ Q' hq;cases b<;>first|exact aT hq|exact vF hq
   .intro h' hsb hS';dsimp only;exact aT (hend h' hsb hS')
end
theorem GW(val:Nat->Int):∀i,(gO val i).Nodup
 |0=>zI
 |i+1=>by
  rw[AR];unfold step_dedup;have ih:=GW val i;by_cases h:((gO val i).any (·==val i))=J1
  .simp only[h,if_true];exact ih
  .rw[J3 h];refine zH.mpr ⟨ih,by simp,fun a ha b hb=>?_⟩;rw[cE.mp hb];intro e;exact h (oY.mpr ⟨a,ha,by rw[e];exact beq_self_eq_true _⟩)
theorem uo(val:Nat->Int)(i:Nat)(k:Int):k∈gO val i↔∃j,j<i/\val j=k:=by
 have h:=firstMet_any val i k
 have e:∀l:List Int,l.any (·==k)=J1↔k∈l:=fun l=>by
  rw[oY];exact⟨fun⟨x,h1,h2⟩=>by rw[<-eq_of_beq h2];exact h1,fun h=>⟨k,h,beq_self_eq_true _⟩⟩
 rw[<-e,h,e,bS];exact⟨fun⟨j,h1,h2⟩=>⟨j,mr.mp h1,h2⟩,fun⟨j,h1,h2⟩=>⟨j,mr.mpr h1,h2⟩⟩
theorem PL{val:Nat->Int}{i m:Nat}(h:∀j,j<i->0<=val j/\val j<m):(gO val i).length<=m:=by
 have e:((gO val i).map fR).length=(gO val i).length:=aE _;rw[<-e];refine PM.lO m _ (lh.mpr (tf ?_ (GW val i))) fun x hx=>?_
 .intro a b ha hb hab z;obtain⟨j,hj,rfl⟩:=(uo val i a).mp ha;obtain⟨j',hj',rfl⟩:=(uo val i b).mp hb;have:=h j hj;have:=h j' hj';exact hab (by lia)
 .obtain⟨a,ha,rfl⟩:=bS.mp hx;obtain⟨j,hj,rfl⟩:=(uo val i a).mp ha;have:=h j hj;lia
section
variable{prog:aJ}{w:aH}{A:bM}{R:Result->aj->Prop}{I:aa}{fp wr:List aa}{G:Array GenState->Array GenState->Prop}{n:Nat}{P:Nat->ae->Prop}{St:Nat->aj->Prop}
theorem Yz{led:Bool}(W:WalksS prog w A.in1 I fp wr G n P St)(S:aa)(hSf:S∉fp)
  (val:Nat->Int)(hval:∀i v,P i v->∃t,v=.int (val i) t)(hb:∀i,i<=n->(gO val i).length<lT):
  ∀(k i:Nat)(s:aj),n-i=k->i<=n->St i s->
   gK prog w led s.heap S (fun k'=>(gO val i).any (·==k')) (gO val i).length->
   (∀s',Moved (S::wr) G s s'->gK prog w led s'.heap S (fun k'=>(gO val n).any (·==k')) (gO val n).length->R (.ok (.ret .none)) s')->
   hX (aC prog w) A (.builtin "set.update.loop" ⟨[.ref S,.ref I],[]⟩) R s:=by
 have hSw:S∉wr:=fun h=>hSf (W.sub _ h);have hsub:∀b∈wr,b∈S::wr:=fun b hb=>bX _ hb;intro k
 induction k with
 |zero=>
  intro i s hk hi hst hS hR;have hin:i=n:=by lia
  subst hin;refine pT MU ?_;rw[qD Ex _];show az _ A.in1 (ka (.ref I)>>=_) _ _ s;refine ay (W.done s _ _ hst fun s' hm=>?_);show az _ A.in1 (ret iP) _ _ s';exact aT (hR s' (hm.mono hsub) (hS.at fun o ho=>hm.heap S _ hSw ho))
 |succ k ih=>
  intro i s hk hi hst hS hR;have hlt:i<n:=by lia
  refine pT MU ?_;rw[qD Ex _];show az _ A.in1 (ka (.ref I)>>=_) _ _ s;refine ay (W.item i s _ _ hlt hst fun v s' hP hst' hm=>?_);obtain⟨t,rfl⟩:=hval i v hP;have hS':gK prog w led s'.heap S (fun k'=>(gO val i).any (·==k')) (gO val i).length:=hS.at fun o ho=>hm.heap S _ hSw ho;show az _ A.in1 (holding [kG (val i) t] (setAdd S (.int (val i) t))>>=_) _ _ s';refine ay (sR ?_);unfold setAdd;refine sR ?_;refine ay ((intKind prog w).pyHash (k:=val i) (intKind_is _ _ _ _) ?_)
  have hroom:(gO val i).any (·==val i)=J2->(gO val i).length+1<lT:=fun z=>by
   have:=hb (i+1) hlt;rw[AR,step_length,J3 (by rw[z];decide)]at this;exact this
  refine NV (s:={s' with toks:=s'.toks+1}) (k:=val i) (intKind_is _ _ _ _) rfl hS' hroom fun h' hsb hS2=>?_
  have hSi:gK prog w led h' S (fun k'=>(gO val (i+1)).any (·==k')) (gO val (i+1)).length:=
   hS2.congr (fun k'=>by rw[AR,step_any]) (by rw[AR,step_length])
  refine aT ⟨qp Ex _,ih (i+1) _ (by lia) hlt (W.frame _ s' _ _ hst' (tK _) fun b hb o e=>?_) hSi fun s'' hm'' hS''=>?_⟩
  .rw[hsb.2 b (fun h:b=S=>hSf (by rw[<-h];exact hb))];exact e
  .refine hR s'' (Moved.trans W.gtrans ((hm.mono hsub).then_heap (tK _) fun b o hb e=>?_) hm'') hS'';rw[hsb.2 b (fun h:b=S=>hb (by rw[h];exact dI))];exact e
end
section
variable{prog:aJ}{w:aH}{A:bM}{E:ae->aj->Prop}{s:aj}
abbrev oj(w:aH):Bool:=!w.params.followText "set-order"
theorem RR(a:ae){Q₁:ae->aj->Prop}
  (h:Q₁ (.ref s.heap.objs.size) {s with heap:=s.heap.push {cls:=.type "set",dict:=J0,data:=.set #[] 0 (.fresh 0 0 (oj w))}}):
  hX (aC prog w) A (.call (.builtin "set.__new__") ⟨[.type "set",a],[]⟩) (wants Q₁ E) s:=by
 refine codeAny_of_tree ?_;show az _ A.in1 (do checkBuiltinCall "set.__new__" ⟨[.type "set",a],[]⟩;again (.builtin "set.__new__" ⟨[.type "set",a],[]⟩)) _ _ s;refine ay (qy (F.newCall_set_1 a) (aT ⟨qp F.plain_set_new _,pT F.entry_set_new ?_⟩));rw[qD F.plain_set_new _];unfold Builtin.«set.__new__» Builtin.Frozenset.newClass;have hsub:=sub_set_self;obtain⟨hp,g,d,tk,os⟩:=s;dsimp only
 wp_walk
 refine vE (aT ?_);dsimp only;simp only[newObj];refine ay (wpAny_alloc (aT ?_));exact aT h
theorem Oz{l:aa}{items:Array ae}{ns:List Int}{Q:ae->aj->Prop}
  (hh:A.handled=J0)(hl:s.heap.IsList l items)(hi:NA items.toList ns)(hb:∀i,i<=items.size->(gO (fun i=>ns.getD i 0) i).length<lT)
  (h:∀(h':aA)(tk:Nat),gK prog w (oj w) h' s.heap.objs.size (fun k'=>(zZ (fun i=>ns.getD i 0) items.size).any (·==k')) (zZ (fun i=>ns.getD i 0) items.size).length->
   (∀b o,b<s.heap.objs.size->s.heap.get? b=TL o->h'.get? b=TL o)->Q (.ref s.heap.objs.size) {s with heap:=h',toks:=tk}):
  az (aC prog w) A (call (.type "set") [.ref l]) Q E s:=by
 obtain⟨c,tl,hmro⟩:=oV.mro;have hmade:=oV.made;have hsub:=oV.sub;refine yU (codeAny_of_tree ?_);show az _ _ (callAny (.type "set") _) _ _ _;refine aT ⟨Code.quiet_builtin _ (by decide +kernel),pT F.entry_type_call ?_⟩;rw[bM.under_plain (weight_type_call_type "set" [.ref l] []) rfl];have h1:=oV.notType;have h2:=oV.canCreate;have hct:=F.typeCall_set_1 (.ref l)
 repeat (any_goals (first|assumption|wp_step))
 refine rL (RR (.ref l) (E:=E) (Q₁:=fun obj s₁=>obj=.ref s.heap.objs.size/\s₁={s with heap:=s.heap.push {cls:=.type "set",dict:=J0,data:=.set #[] 0 (.fresh 0 0 (oj w))}}) ⟨rfl,rfl⟩) fun r s₁ hr=>?_;cases r with
 |error e=>exact hr
 |ok fl=>
  cases fl with
  |ret obj=>
   obtain⟨rfl,rfl⟩:=hr;generalize hled:oj w=led at*;have hS:(s.heap.push {cls:=.type "set",dict:=J0,data:=.set #[] 0 (.fresh 0 0 led)}).get? s.heap.objs.size=TL {cls:=.type "set",dict:=J0,data:=.set #[] 0 (.fresh 0 0 led)}:=dD _ rfl;have hT:aj.TypeIs {s with heap:=s.heap.push {cls:=.type "set",dict:=J0,data:=.set #[] 0 (.fresh 0 0 led)}} (.ref s.heap.objs.size) "set":=⟨_,hS,rfl⟩;have hli:=oV.init.lookup;have hbi:=oV.init.bind (.ref s.heap.objs.size)
   repeat (any_goals (first|assumption|wp_step))
   refine rL (codeAny_call_builtin (R:=wants (fun r s₂=>r=.none/\∃h' tk,s₂={s with heap:=h',toks:=tk}/\
     gK prog w led h' s.heap.objs.size (fun k'=>(zZ (fun i=>ns.getD i 0) items.size).any (·==k')) (zZ (fun i=>ns.getD i 0) items.size).length/\
     (∀b o,b<s.heap.objs.size->s.heap.get? b=TL o->h'.get? b=TL o)) E) oV.init.plain F.entry_set_init (check_set_init_1 hT ?_)) fun r₂ s₂ hr₂=>?_
   .obtain⟨ol,hol,hcl,nl,hdl⟩:=hl;obtain⟨ocls,odict,odata,oslots⟩:=ol;simp only at hcl hdl;subst hcl;subst hdl;have hol':(s.heap.push {cls:=.type "set",dict:=J0,data:=.set #[] 0 (.fresh 0 0 led)}).get? l=TL {cls:=.type "list",dict:=odict,data:=.seq items nl,slots:=oslots}:=bV _ hol;have hsls:=F.sub_list_set;have hslf:=F.sub_list_frozenset;have hne:(nP "list"==nP "dict")=false:=by decide
    have hl1:(s.heap.push {cls:=.type "set",dict:=J0,data:=.set #[] 0 (.fresh 0 0 led)}).IsList l items:=⟨_,hol',rfl,nl,rfl⟩;unfold Builtin.«set.__init__» noKeywords Builtin.Frozenset.updateFrom;generalize hPI:pyIter=PI
    wp_walk
    subst hPI;refine MG hl1 ?_;refine ay (MH ?_);have hlS:l<s.heap.objs.size:=bR hol;have hh3:A.in1.in1.in1.handled=none:=by simp[hh]
    have hneI:l≠(s.heap.push {cls:=.type "set",dict:=J0,data:=.set #[] 0 (.fresh 0 0 led)}).objs.size:=by
     rw[fQ];exact cJ (nF hlS)
    have hSf:s.heap.objs.size∉ [(s.heap.push {cls:=.type "set",dict:=J0,data:=.set #[] 0 (.fresh 0 0 led)}).objs.size,l]:=by
     rw[fQ];simp only[bg,cE,jg,or_false,not_or];exact⟨cJ (wg _),qV hlS⟩
    have hval:∀(i:Nat)(v:ae),items[i]?=TL v->∃t,v=.int ((fun i=>ns.getD i 0) i) t:=fun i v hv=>
     NA.int_at hi i v (by rw[iF];exact hv)
    refine Yz (led:=led) ((Walks.list hh3 _ l hneI items).toS) s.heap.objs.size
     hSf (fun i=>ns.getD i 0) hval hb (items.size-0) 0 _ (by lia) (bI _)
     ⟨⟨_,dD _ rfl,rfl,rfl⟩,(hl1.push _)⟩ ?hS0 ?hR
    case hS0=>
     have hget:((s.heap.push {cls:=.type "set",dict:=J0,data:=.set #[] 0 (.fresh 0 0 led)}).push {cls:=.type "list_iterator",data:=.fields #[.ref l,.int 0 0]}).get? s.heap.objs.size
       =TL {cls:=.type "set",dict:=J0,data:=.set #[] 0 (.fresh 0 0 led)}:=bV _ hS
     exact⟨_,#[],0,_,hget,⟨rfl,rfl,rfl⟩,rfl,fun e he=>by simp at he,fun k=>by simp[firstMet_zero],by decide,by rfl,rfl,Yo led⟩
    case hR=>
     intro s' hm hS';obtain⟨h',g',d',tk',os'⟩:=s';have eg:g'=s.gens:=hm.gens;have ed:d'=s.drawn:=hm.drawn;have eo:os'=s.os:=hm.os;subst eg;subst ed;subst eo;show az _ _ _ _ _ _;refine aT ?_;show az _ _ (ret iP) _ _ _;refine aT ⟨rfl,h',tk',rfl,hS',fun b o hb e=>?_⟩;have hb1:b≠s.heap.objs.size:=cJ hb
     have hb2:b≠(s.heap.push {cls:=.type "set",dict:=J0,data:=.set #[] 0 (.fresh 0 0 led)}).objs.size:=by
      rw[fQ];exact cJ (nF hb)
     exact hm.heap b o (by simp only[bg,cE,jg,or_false,not_or];exact⟨hb1,hb2⟩) (bV _ (bV _ e))
   .cases r₂ with
    |error e=>exact hr₂
    |ok fl₂=>
     cases fl₂ with
     |ret r=>
      obtain⟨rfl,h',tk,rfl,hS',hk'⟩:=hr₂
      repeat (any_goals (first|assumption|wp_step))
      exact h _ _ hS' hk'
     |_=>exact hr₂.elim
  |_=>exact hr.elim
end
theorem Jj:Manifest.owners.lookup (String.ofList ['r','o','t','a','r','e','t','i','_','t','e','s'].reverse)=TL Manifest.sig_set_iterator:=by kernel_rfl
theorem kO:Slot "set_iterator" "__next__" "set_iterator.__next__":=
 .of (owner:="set_iterator") (n:="__next__") (by rw[typeLookup_type,Ou];kernel_rfl) (by decide +kernel) (by decide +kernel) (by decide +kernel)
  (by first|exact .inl (by decide +kernel)|exact .inr (by decide +kernel)) (by rw[HJ];kernel_rfl)
theorem xr:entryFor table "set_iterator.__next__"=TL Builtin.«set_iterator.__next__» :=entryFor_of_tree (by kernel_rfl)
theorem wW(a:ae):argsOk "set_iterator.__next__" ⟨[a],[]⟩:=by
 unfold argsOk;rw[signature?_of (id:="set_iterator.__next__") (n:=['_','_','t','x','e','n','_','_']) (o:=['r','o','t','a','r','e','t','i','_','t','e','s']) (by kernel_rfl) Jj];kernel_rfl
theorem Ln:Slot "set_iterator" "__iter__" "set_iterator.__iter__":=
 .of (owner:="set_iterator") (n:="__iter__") (by rw[typeLookup_type,Ou];kernel_rfl) (by decide +kernel) (by decide +kernel) (by decide +kernel)
  (by first|exact .inl (by decide +kernel)|exact .inr (by decide +kernel)) (by rw[HJ];kernel_rfl)
theorem NZ(a:ae):argsOk "set_iterator.__iter__" ⟨[a],[]⟩:=by
 unfold argsOk;rw[signature?_of (id:="set_iterator.__iter__") (n:=['_','_','r','e','t','i','_','_']) (o:=['r','o','t','a','r','e','t','i','_','t','e','s']) (by kernel_rfl) Jj];kernel_rfl
theorem Px:entryFor table "set_iterator.__iter__"=TL Builtin.«dict_keyiterator.__iter__» :=
 entryFor_alias (id':="dict_keyiterator.__iter__") (by kernel_rfl) (by first|rfl|decide +kernel|(unfold String.splitOn;simp+decide [String.splitOnAux])) (by decide +kernel) (by kernel_rfl)
theorem Pw:entryFor table "set.__iter__"=TL Builtin.«frozenset.__iter__» :=
 entryFor_alias (id':="frozenset.__iter__") (by kernel_rfl) (by first|rfl|decide +kernel|(unfold String.splitOn;simp+decide [String.splitOnAux])) (by decide +kernel) (by kernel_rfl)
theorem AN{α:Type}:∀{l:List α}{i:Nat}(h:i<l.length),(l[i]::l.eraseIdx i).Perm l
 |a::t,0,h=>.refl _
 |a::t,i+1,h=>by
  have h':i<t.length:=by simpa using h
  show(t[i]::a::t.eraseIdx i).Perm (a::t);exact(List.Perm.swap _ _ _).trans (List.Perm.cons _ (AN h'))
theorem Jx{α:Type}(next:Nat->Nat):∀(fuel k:Nat)(left:List α)(out:Array α),left.length<=fuel->(qo.go next fuel k left out).toList.Perm (out.toList++left)
 |0,k,left,out,h=>by
  have:left=[]:=nA.mp (by lia);subst this;unfold qo.go;rw[cD]
 |fuel+1,k,left,out,h=>by
  unfold qo.go;cases e:left[next k%left.length]? with
  |none=>
   dsimp only
   have:left=[]:=by
    cases left with
    |nil=>rfl
    |cons a t=>
     rw[bO (Nat.mod_lt _ (by simp))]at e;cases e
   rw[this,cD]
  |some x=>
   dsimp only;obtain⟨hi,ex⟩:=aK.mp e;refine(Jx next fuel (k+1) _ _ (by rw[EL hi];lia)).trans ?_;rw[Array.toList_push,dt];refine List.Perm.append_left _ ?_;rw[<-ex];exact AN hi
theorem Uu{α:Type}(next:Nat->Nat)(xs:Array α):(qo next xs).toList.Perm xs.toList:=by
 have:=Jx next xs.size 0 xs.toList #[] (by simp)
 exact this
section
variable{prog:aJ}{w:aH}{A:bM}{E:ae->aj->Prop}{s:aj}
theorem OG{src:Source}{n:Nat}{Q:Nat->aj->Prop}(hn:n≠0)(h:∀k d,k<n->Q k {s with drawn:=d}):az (aC prog w) A (choose src n) Q E s:=by
 intro Γ p _;unfold choose;rw[Sem.wp_choose];exact⟨hn,h _ _ (Nat.mod_lt _ (by lia))⟩
theorem GM{α:Type}:∀(n:Nat)(xs:List α)(s:aj)(Q:List α->aj->Prop),xs.length<=n->(∀ys d,ys.Perm xs->Q ys {s with drawn:=d})->az (aC prog w) A (drawOrder n xs) Q E s
 |0,xs,s,Q,hl,h=>by
  have:xs=[]:=nA.mp (by lia);subst this;exact aT (h [] s.drawn .nil)
 |n+1,[],s,Q,hl,h=>by
  exact aT (h [] s.drawn .nil)
 |n+1,x::xs,s,Q,hl,h=>by
  unfold drawOrder;refine ay (OG (by simp) fun k d hk=>?_);rw[bO hk];dsimp only;refine ay (GM n _ _ _ (by rw[EL hk];simp at hl⊢;lia) fun ys d' hp=>?_);exact aT (h _ d' ((List.Perm.cons _ hp).trans (AN hk)))
def gw(h:aA)(I a:aa)(first:ae)(i n ep:Nat):Prop:=∃o,h.get? I=TL o/\o.cls=.type "set_iterator"/\o.data=.fields #[first,cg (i:Int),.ref a,cg (n:Int),cg (ep:Int)]
theorem gw.typeIs{I a:aa}{f:ae}{i n ep:Nat}(x:gw s.heap I a f i n ep):s.TypeIs (.ref I) "set_iterator":=let⟨o,ho,hc,_⟩:=x;⟨o,ho,hc⟩
theorem gw.at{h h':aA}{I a:aa}{f:ae}{i n ep:Nat}(x:gw h I a f i n ep)(e:∀o,h.get? I=TL o->h'.get? I=TL o):gw h' I a f i n ep:=let⟨o,ho,r⟩:=x;⟨o,e _ ho,r⟩
structure gx(h:aA)(a:aa)(es:Array (Int×ae))(ep:Nat)(t:bY):Prop where
 ex:∃o,h.get? a=TL o/\o.ExactSet/\o.data=.set es ep t
 fits:t.fits es.size=J1
theorem gx.at{h h':aA}{a:aa}{es:Array (Int×ae)}{ep:Nat}{t:bY}(x:gx h a es ep t)(e:∀o,h.get? a=TL o->h'.get? a=TL o):gx h' a es ep t:=by
 obtain⟨⟨o,ho,r⟩,f⟩:=x;exact⟨⟨o,e _ ho,r⟩,f⟩
def qY(prog:aJ)(w:aH)(a:aa)(es:Array (Int×ae))(ep:Nat)(t:bY)(sl:Nat->Nat)(ord:List ae):Prop:=
 ∀(A:bM)(E:ae->aj->Prop)(s:aj)(i:Nat)(Q:Option (ae×Nat)->aj->Prop),i<=ord.length->gx s.heap a es ep t->Q ((ord[i]?).map fun x=>(x,sl (i+1))) s->az (aC prog w) A (setNext a (sl i) i ep) Q E s
theorem RZ{I a:aa}{sl:Nat->Nat}{ord:List ae}{es:Array (Int×ae)}{ep i:Nat}{t:bY}{x:ae}{Q:Option ae->aj->Prop}(N:qY prog w a es ep t sl ord)(hn:ord.length=es.size)(hIa:a≠I)
  (hit:gw s.heap I a (cg (sl i:Int)) i es.size ep)(hs:gx s.heap a es ep t)(hx:ord[i]?=TL x)
  (hQ:∀h',gw h' I a (cg (sl (i+1):Int)) (i+1) es.size ep->me I s.heap h'->Q (TL x) {s with heap:=h'}):az (aC prog w) A (ka (.ref I)) Q E s:=by
 obtain⟨o,ho,hc,hd⟩:=id hit;obtain⟨⟨oS,hoS,hex,hdS⟩,hf⟩:=id hs;unfold ka
 refine ay (Ee (Ef (name:=jK "__next__") hit.typeIs kO
  (sQ kO hit.typeIs xr ?_ (wW _))))
 unfold Builtin.«set_iterator.__next__»;refine ay (qy (a:=(cO I,[])) rfl ?_);dsimp only;refine ay (Eh ho hd ?_);dsimp only[cg];refine ay (yW hoS hdS hf ?_);have hne:(((es.size:Int)) != (es.size:Int))=false:=by simp
 rw[hne];simp only[aU,if_false,fD];have hil:i<ord.length:=(aK.mp hx).1;refine ay (N _ _ _ i _ (by lia) hs ?_);rw[hx];simp only[ly];refine ay (qz ho hd (by simp) ?_);have ho1:=mf (wu fun v=>v.setIfInBounds 0 (cg (sl (i+1):Int))) ho (wq (kA hd _));refine ay (qz ho1 (kA hd _) (by simp) ?_);refine aT ⟨x,rfl,aT (hQ _ ?_ ((oW ..).trans (oW ..)))⟩;refine⟨_,mf _ ho1 (wq (kA (kA hd _) _)),(EY ..).trans ((EY ..).trans hc),?_⟩;rw[kA (kA hd _)];simp[cg]
theorem RY{I a:aa}{sl:Nat->Nat}{ord:List ae}{es:Array (Int×ae)}{ep:Nat}{t:bY}{Q:Option ae->aj->Prop}(hh:A.handled=J0)(N:qY prog w a es ep t sl ord)(hn:ord.length=es.size)
  (hit:gw s.heap I a (cg (sl ord.length:Int)) ord.length es.size ep)(hs:gx s.heap a es ep t)
  (hQ:∀h',aA.ExtBut I s.heap h'->Q J0 {s with heap:=h'}):az (aC prog w) A (ka (.ref I)) Q E s:=by
 obtain⟨o,ho,hc,hd⟩:=id hit;obtain⟨⟨oS,hoS,hex,hdS⟩,hf⟩:=id hs;unfold ka
 refine ay (Ee (Ef (name:=jK "__next__") hit.typeIs kO
  (sQ kO hit.typeIs xr ?_ (wW _))))
 unfold Builtin.«set_iterator.__next__»;refine ay (qy (a:=(cO I,[])) rfl ?_);dsimp only;refine ay (Eh ho hd ?_);dsimp only[cg];refine ay (yW hoS hdS hf ?_);have hne:(((es.size:Int)) != (es.size:Int))=false:=by simp
 rw[hne];simp only[aU,if_false,fD];refine ay (N _ _ _ ord.length _ (aF _) hs ?_);rw[hU (aF _)];simp only[Option.map_none];refine ay (qz ho hd (by simp) ?_);refine ay ?_;simp only[newExc,newTuple];refine ay (ni ?_ (by size_fits));refine ay (m:=AQ _ _) (qy (a:=iP) (by first|rfl|(simp only[AQ];rfl)) ?_);refine ni ?_ (by size_fits);simp only[raiseNew];refine ay (wpAny_handled ?_)
 first|rw[show A.in1.handled=J0 from hh]|rw[hh]
 refine ay (aT (wpAny_throw ?_));refine ay (ME (T:="StopIteration") (b:=J1) ⟨_,dD _ rfl,rfl⟩ isSubtype_stop ?_);exact aT (hQ _ (((oW ..).extBut.push _).push _))
def TupAt(h:aA)(tu:aa)(pl:List Nat):Prop:=∃o,h.get? tu=TL o/\o.data=.seq (pl.map fun(i:Nat)=>cg (i:Int)).toArray 0
theorem TupAt.at{h h':aA}{tu:aa}{pl:List Nat}(x:TupAt h tu pl)(e:∀o,h.get? tu=TL o->h'.get? tu=TL o):TupAt h' tu pl:=let⟨o,ho,r⟩:=x;⟨o,e _ ho,r⟩
theorem Pk{I a tu:aa}{pl:List Nat}{es:Array (Int×ae)}{ep i p:Nat}{t:bY}{x:Int×ae}{Q:Option ae->aj->Prop}
  (hit:gw s.heap I a (.ref tu) i es.size ep)(hs:gx s.heap a es ep t)(htu:TupAt s.heap tu pl)(hp:pl[i]?=TL p)(hx:es[p]?=TL x)
  (hQ:∀h',gw h' I a (.ref tu) (i+1) es.size ep->me I s.heap h'->Q (TL x.2) {s with heap:=h'}):az (aC prog w) A (ka (.ref I)) Q E s:=by
 obtain⟨o,ho,hc,hd⟩:=id hit;obtain⟨⟨oS,hoS,hex,hdS⟩,hf⟩:=id hs;obtain⟨oT,hoT,hdT⟩:=id htu;unfold ka
 refine ay (Ee (Ef (name:=jK "__next__") hit.typeIs kO
  (sQ kO hit.typeIs xr ?_ (wW _))))
 unfold Builtin.«set_iterator.__next__»;refine ay (qy (a:=(cO I,[])) rfl ?_);dsimp only;refine ay (Eh ho hd ?_);dsimp only[cg];refine ay (yW hoS hdS hf ?_);have hne:(((es.size:Int)) != (es.size:Int))=false:=by simp
 rw[hne];simp only[aU,if_false,fD];refine ay (wpAny_seqItems hoT hdT ?_);dsimp only;rw[show((pl.map fun(i:Nat)=>cg (i:Int)).toArray)[i]?=TL (cg (p:Int)) by rw[Nd,cI,hp];rfl];dsimp only[cg];unfold setNextDrawn;refine ay (ay (qA hoS hdS hf ?_));dsimp only;rw[J3 (by simp)];simp only[fD];refine ay (aT ?_);rw[hx];obtain⟨xh,xv⟩:=x;refine aT ?_;refine ay (qz ho hd (by simp) ?_);refine aT ⟨xv,rfl,aT (hQ _ ?_ (oW ..))⟩;refine⟨_,mf _ ho (wq (kA hd _)),(EY ..).trans hc,?_⟩;rw[kA hd];simp[cg]
theorem Pj{I a tu:aa}{pl:List Nat}{es:Array (Int×ae)}{ep:Nat}{t:bY}{Q:Option ae->aj->Prop}(hh:A.handled=J0)
  (hit:gw s.heap I a (.ref tu) pl.length es.size ep)(hs:gx s.heap a es ep t)(htu:TupAt s.heap tu pl)
  (hQ:∀h',aA.ExtBut I s.heap h'->Q J0 {s with heap:=h'}):az (aC prog w) A (ka (.ref I)) Q E s:=by
 obtain⟨o,ho,hc,hd⟩:=id hit;obtain⟨⟨oS,hoS,hex,hdS⟩,hf⟩:=id hs;obtain⟨oT,hoT,hdT⟩:=id htu;unfold ka
 refine ay (Ee (Ef (name:=jK "__next__") hit.typeIs kO
  (sQ kO hit.typeIs xr ?_ (wW _))))
 unfold Builtin.«set_iterator.__next__»;refine ay (qy (a:=(cO I,[])) rfl ?_);dsimp only;refine ay (Eh ho hd ?_);dsimp only[cg];refine ay (yW hoS hdS hf ?_);have hne:(((es.size:Int)) != (es.size:Int))=false:=by simp
 rw[hne];simp only[aU,if_false,fD];refine ay (wpAny_seqItems hoT hdT ?_);dsimp only;rw[show((pl.map fun(i:Nat)=>cg (i:Int)).toArray)[pl.length]?=J0 by rw[Nd,cI,hU (aF _)];rfl];dsimp only;refine ay (qz ho hd (by simp) ?_);have ho1:=mf (wu fun v=>v.setIfInBounds 0 (cg 0)) ho (wq (kA hd _));refine ay (qz ho1 (kA hd _) (by simp) ?_);refine ay ?_;simp only[newExc,newTuple];refine ay (ni ?_ (by size_fits));refine ay (m:=AQ _ _) (qy (a:=iP) (by first|rfl|(simp only[AQ];rfl)) ?_);refine ni ?_ (by size_fits);simp only[raiseNew];refine ay (wpAny_handled ?_)
 first|rw[show A.in1.handled=J0 from hh]|rw[hh]
 refine ay (aT (wpAny_throw ?_));refine ay (ME (T:="StopIteration") (b:=J1) ⟨_,dD _ rfl,rfl⟩ isSubtype_stop ?_);exact aT (hQ _ (((((oW ..).trans (oW ..)).extBut).push _).push _))
theorem Lf{I a:aa}{f:ae}{i n ep:Nat}{Q:ae->aj->Prop}(hit:gw s.heap I a f i n ep)(h:Q (.ref I) s):az (aC prog w) A (pyIter (.ref I)) Q E s:=by
 refine wpAny_pyIter_slot hit.typeIs Ln (sQ Ln hit.typeIs Px ?_ (NZ _));show az _ _ (ret (.ref I)) _ _ s;exact aT ⟨_,rfl,"set_iterator",_,hit.typeIs,kO.lookup,h⟩
end
section
variable{prog:aJ}{w:aH}
theorem Se{a:aa}{es:Array (Int×ae)}{ep:Nat}{t:bY}(hb:w.params.followText "set-order"=J1):
  qY prog w a es ep t (fun _=>0) ((qo (w.params.setOrder a ep) es).toList.map (·.2)):=by
 intro A E s i Q hi hs h;obtain⟨⟨oS,hoS,hex,hdS⟩,hf⟩:=id hs;unfold setNext;refine ay (qA hoS hdS hf ?_);dsimp only;unfold setsByText;refine ay (ay (vE (aT ?_)));show az _ _ (if w.params.followText "set-order"=J1 then _ else _) _ _ _;rw[J4 hb];rw[J3 (by simp)];unfold setWalk setsByText;refine ay (ay (qA hoS hdS hf ?_));dsimp only;refine ay (ay (vE (aT ?_)));show az _ _ (if w.params.followText "set-order"=J1 then _ else _) _ _ _;rw[J4 hb];refine ay (vE (aT (aT ?_)))
 have e:(((qo (w.params.setOrder a ep) es).toList.map (·.2))[i]?).map (fun x=>(x,0))=((qo (w.params.setOrder a ep) es)[i]?).map fun e=>(e.2,0):=by
  rw[cI,iF,Option.map_map];rfl
 show Q (((qo (w.params.setOrder a ep) es)[i]?).map fun e=>(e.2,0)) s;rw[<-e];exact h
noncomputable def qw(t:bY):Nat->Nat
 |0=>0
 |i+1=>t.place.getD i 0+1
theorem Oe{t:bY}{i:Nat}(hr:nO t.place)(hi:i<=t.place.size):iM t.place (qw t i)=i:=by
 have hb:=FS hr (qw t i);generalize iM t.place (qw t i)=k at hb;cases i with
 |zero=>
  by_cases hk:0<k
  .have hlt:0<t.place.size:=by have:=hb.le;lia
   have:=hb.lo 0 _ hk (iY hlt);simp[qw]at this
  .lia
 |succ i=>
  have hg:t.place[i]?=TL t.place[i]:=iY (by lia)
  have hsl:qw t (i+1)=t.place[i]+1:=by
   show t.place.getD i 0+1=_;rw[oK,hg];rfl
  rw[hsl]at hb
  have h1:i<k:=by
   by_cases q:i<k
   .exact q
   .have:=hb.hi i _ (by lia) hg;lia
  by_cases h2:i+1<k
  .have hlt:i+1<t.place.size:=by have:=hb.le;lia
   have hg2:t.place[i+1]?=TL t.place[i+1]:=iY hlt;have:=hb.lo (i+1) _ h2 hg2;have:=hr i (i+1) _ _ (by lia) hg hg2;lia
  .lia
theorem Sd{a:aa}{es:Array (Int×ae)}{ep:Nat}{t:bY}(hb:w.params.followText "set-order"=J2)(ht:eU J1 t)(hd:(!t.plain&&decide (es.size>1))=J2)(hf0:t.fits es.size=J1):
  qY prog w a es ep t (qw t) (es.toList.map (·.2)):=by
 intro A E s i Q hi hs h;obtain⟨⟨oS,hoS,hex,hdS⟩,hf⟩:=id hs
 have hsz:t.place.size=es.size:=by
  simp only[bY.fits,bD,beq_iff_eq]at hf0;exact hf0.1
 rw[aE,fO]at hi;unfold setNext;refine ay (qA hoS hdS hf ?_);dsimp only;unfold setsByText;refine ay (ay (vE (aT ?_)));show az _ _ (if w.params.followText "set-order"=J1 then _ else _) _ _ _;rw[J3 (by rw[hb];decide)];refine ay (aT ?_);show az _ _ (if(!t.plain&&decide (es.size>1))=J1 then _ else _) _ _ _;rw[J3 (by rw[hd];decide)];refine ay ?_;show az _ _ (if(!t.led&&!es.isEmpty)=J1 then _ else pure ()) _ _ _;rw[J3 (by rw[ht.led];simp)];refine aT ?_;rw[Oe ht.rise (by lia)];refine aT ?_;by_cases hlt:i<es.size
 .have h1:es[i]?=TL es[i]:=iY hlt;have h2:t.place[i]?=TL t.place[i]:=iY (by lia);rw[cI,iF,h1]at h;rw[h1,h2]
  have e:qw t (i+1)=t.place[i]+1:=by
   show t.place.getD i 0+1=_;rw[oK,h2];rfl
  simp only[ly,e]at h;exact h
 .have h1:es[i]?=none:=zb (by lia);rw[cI,iF,h1]at h;rw[h1];exact h
variable{A:bM}{E:ae->aj->Prop}{s:aj}
noncomputable def mM(f:ae)(a:aa)(n ep:Nat):Obj:={cls:=.type "set_iterator",data:=.fields #[f,cg 0,.ref a,cg (n:Int),cg (ep:Int)]}
theorem Qv{a:aa}{es:Array (Int×ae)}{ep:Nat}{t:bY}{Q:ae->aj->Prop}(hs:gx s.heap a es ep t)(hz:es.size<=aZ)
  (h1:(w.params.followText "set-order"=J1\/(!t.plain&&decide (es.size>1))=J2)->Q (.ref s.heap.objs.size) {s with heap:=s.heap.push (mM (cg 0) a es.size ep)})
  (h2:∀(pl:List Nat) d,pl.Perm (er es.size)->Q (.ref (s.heap.objs.size+1)) {s with heap:=(s.heap.push {cls:=.type "tuple",data:=.seq (pl.map fun(i:Nat)=>cg (i:Int)).toArray 0}).push (mM (.ref s.heap.objs.size) a es.size ep),drawn:=d}):
  az (aC prog w) A (pyIter (.ref a)) Q E s:=by
 obtain⟨⟨oS,hoS,hex,hdS⟩,hf⟩:=id hs;have hT:s.TypeIs (.ref a) "set":=⟨oS,hoS,hex.1⟩;refine wpAny_pyIter_slot hT F.slot_set_iter (sQ F.slot_set_iter hT Pw ?_ (F.args_set_iter_1 _));unfold Builtin.«frozenset.__iter__»;refine ay (qy (a:=a) rfl ?_);unfold Builtin.Frozenset.sizeOf;refine ay (ay (yW hoS hdS hf (aT ?_)));unfold setDrawn setsByText;refine ay (ay (qA hoS hdS hf ?_));dsimp only;refine ay (ay (vE (aT (aT ?_))));show az _ _ (if(!w.params.followText "set-order"&&(!t.plain&&decide (es.size>1)))=J1 then _ else _) _ _ _;by_cases hd:(!w.params.followText "set-order"&&(!t.plain&&decide (es.size>1)))=J1
 .rw[J4 hd];refine ay (GM es.size (er es.size) _ _ (by rw[jf];exact aF _) fun pl d hp=>?_);refine ay (wpAny_newTuple ?_ (by rw[aE,hp.length_eq,jf];exact hz));have hoS2:(s.heap.push {cls:=.type "tuple",data:=.seq (pl.map fun(i:Nat)=>cg (i:Int)).toArray}).get? a=TL oS:=bV _ hoS;unfold setEpoch;refine ay (ay (qA hoS2 hdS hf (aT ?_)));refine ay (ni (aT ⟨_,rfl,"set_iterator",_,⟨_,dD _ rfl,rfl⟩,kO.lookup,?_⟩));have:=h2 pl d hp;rw[<-fQ s.heap {cls:=.type "tuple",data:=.seq (pl.map fun(i:Nat)=>cg (i:Int)).toArray 0}]at this;exact this
 .rw[J3 hd];unfold setEpoch;refine ay (aT ?_);refine ay (ay (qA hoS hdS hf (aT ?_)));refine ay (ni (aT ⟨_,rfl,"set_iterator",_,⟨_,dD _ rfl,rfl⟩,kO.lookup,?_⟩));refine h1 ?_;cases hx:w.params.followText "set-order" with
  |true=>exact .inl rfl
  |false=>
   refine .inr ?_;rw[hx]at hd;simpa using hd
theorem Hu{a:aa}{Q:Bool->aj->Prop}(hT:s.TypeIs (.ref a) "set")(h:Q J2 s):az (aC prog w) A (MM (.ref a)) Q E s:=by
 unfold MM;refine ay (wpAny_specialOf hT F.slot_set_len.lookup ?_);generalize hid:("set.__len__":String)=id0
 wp_delta
 rw[show splitId id0=TL ("set","__len__")from by subst hid;decide +kernel];subst hid;refine ay (ME (T:="set") (b:=J1) hT (by rw[HJ];kernel_rfl) ?_);refine Ei (fun hab=>J5 hab (by decide)) (fun _=>?_);refine Ei (fun _=>?_) (fun hab=>J5 (by decide +kernel) hab);refine ay (wpAny_typeOf hT ?_);exact aT h
end
section
variable{prog:aJ}{w:aH}{A:bM}{E:ae->aj->Prop}{s:aj}
theorem YG{I a:aa}{sl:Nat->Nat}{ord:List ae}{es:Array (Int×ae)}{ep:Nat}{t:bY}(hh:A.handled=J0)(N:qY prog w a es ep t sl ord)(hn:ord.length=es.size)(hIa:a≠I):
  Walks prog w A I [I,a] [I] es.size (fun i v=>ord[i]?=TL v) (fun i h=>gw h I a (cg (sl i:Int)) i es.size ep/\gx h a es ep t) where
 sub:=fun b hb=>by simp at hb;simp[hb]
 frame:=fun _ _ _ x hk=>⟨x.1.at fun o e=>hk I (by simp) o e,x.2.at fun o e=>hk a (by simp) o e⟩
 item:=fun i s Q E hi x hQ=>by
  obtain⟨v,hv⟩:∃v,ord[i]?=TL v:=⟨_,bO (by lia)⟩;refine RZ N hn hIa x.1 x.2 hv fun h' hit hsb=>?_;have hk:∀b o,b∉ [I]->s.heap.get? b=TL o->h'.get? b=TL o:=fun b o hb e=>by rw[hsb.2 b (by simpa using hb)];exact e
  exact hQ v h' s.toks hv ⟨hit,x.2.at fun o e=>hk a o (by simpa using hIa) e⟩ hk
 done:=fun s Q E x hQ=>by
  rw[<-hn]at x;refine RY hh N hn (by rw[hn]at x⊢;exact x.1) x.2 fun h' he=>?_;exact hQ h' s.toks fun b o hb e=>he b o (by simpa using hb) e
 self:=fun i s Q E x h=>Lf x.1 h
theorem YF{I a tu:aa}{pl:List Nat}{es:Array (Int×ae)}{ep:Nat}{t:bY}(hh:A.handled=J0)(hp:pl.Perm (er es.size))(hIa:a≠I)(hIt:tu≠I):
  Walks prog w A I [I,a,tu] [I] es.size (fun i v=>(pl.map fun p=>(es.getD p (0,.none)).2)[i]?=TL v) (fun i h=>gw h I a (.ref tu) i es.size ep/\gx h a es ep t/\TupAt h tu pl) where
 sub:=fun b hb=>by simp at hb;simp[hb]
 frame:=fun _ _ _ x hk=>⟨x.1.at fun o e=>hk I (by simp) o e,x.2.1.at fun o e=>hk a (by simp) o e,x.2.2.at fun o e=>hk tu (by simp) o e⟩
 item:=fun i s Q E hi x hQ=>by
  have hl:pl.length=es.size:=by rw[hp.length_eq,jf]
  obtain⟨p,hpi⟩:∃p,pl[i]?=TL p:=⟨_,bO (by lia)⟩;have hps:p<es.size:=mr.mp (hp.mem_iff.mp (du hpi));have hx:es[p]?=TL es[p]:=iY hps;refine Pk x.1 x.2.1 x.2.2 hpi hx fun h' hit hsb=>?_;have hk:∀b o,b∉ [I]->s.heap.get? b=TL o->h'.get? b=TL o:=fun b o hb e=>by rw[hsb.2 b (by simpa using hb)];exact e
  refine hQ _ h' s.toks ?_ ⟨hit,x.2.1.at fun o e=>hk a o (by simpa using hIa) e,x.2.2.at fun o e=>hk tu o (by simpa using hIt) e⟩ hk;rw[cI,hpi,ly,oK,hx];rfl
 done:=fun s Q E x hQ=>by
  have hl:pl.length=es.size:=by rw[hp.length_eq,jf]
  refine Pj hh (by rw[hl];exact x.1) x.2.1 x.2.2 fun h' he=>?_;exact hQ h' s.toks fun b o hb e=>he b o (by simpa using hb) e
 self:=fun i s Q E x h=>Lf x.1 h
theorem items_are{ord:List ae}{acc:Array ae}(h:ItemsOf (fun i v=>ord[i]?=TL v) acc ord.length):acc.toList=ord:=by
 refine EH fun i=>?_;by_cases hi:i<acc.size
 .rw[h.2 i acc[i] (iY hi),iF,iY hi]
 .rw[hU (by rw[fO];lia),hU (by rw[<-h.1];lia)]
theorem GN{pl:List Nat}{es:Array (Int×ae)}(hp:pl.Perm (er es.size)):(pl.map fun p=>(es.getD p (0,.none)).2).Perm (es.toList.map (·.2)):=by
 refine(hp.map _).trans (List.Perm.of_eq ?_);refine EH fun i=>?_;rw[cI,cI];by_cases hi:i<es.size
 .rw[zC hi,iF,iY hi,ly,ly,oK,iY hi];rfl
 .rw[hU (by rw[jf];lia),hU (by rw[fO];lia)];rfl
theorem PD{R:Result->aj->Prop}{S I:aa}{fp:List aa}{ord:List ae}{St:Nat->aA->Prop}{res:ae}{c0:Nat}{s1:aj}(W:Walks prog w A.in1 I fp [I] ord.length (fun i v=>ord[i]?=TL v) St)(hn:ord.length<=aZ)(hSf:S∉fp)(st:St 0 s1.heap)
  (hS:s1.heap.get? S=TL {cls:=.type "list",data:=.seq #[] c0})
  (hR:∀h' tk c',(∀b o,b≠S->b≠I->s1.heap.get? b=TL o->h'.get? b=TL o)->h'.get? S=TL {cls:=.type "list",dict:=J0,data:=.seq ord.toArray c',slots:= #[]}->R (.ok (.ret res)) {s1 with heap:=h',toks:=tk}):
  hX (aC prog w) A (.builtin "list.extend.loop" ⟨[.ref S,.ref I,res],[]⟩) R s1:=by
 refine codeAny_extend_loopS W.toS hn S hSf res ord.length 0 _ #[] c0 rfl (bI _) st hS (ItemsOf.nil _) fun s' acc' c' hm hS' hacc=>?_;rw[Moved.eq_with hm];have ea:acc'=ord.toArray:=by rw[<-items_are hacc]
 rw[ea]at hS';refine hR s'.heap s'.toks c' (fun b o hb hb2 e=>hm.heap b o (fun hmem=>?_) e) hS';rcases bg.mp hmem with e'|hmem
 .exact hb e'
 .exact hb2 (cE.mp hmem)
theorem PF{R:Result->aj->Prop}{a S:aa}{es:Array (Int×ae)}{ep c₀:Nat}{t:bY}{res:ae}(hh:A.handled=J0)(hs:gx s.heap a es ep t)(ht:eU (oj w) t)(hz:es.size<=aZ)(hSa:S≠a)(hS:s.heap.get? S=TL {cls:=.type "list",data:=.seq #[] c₀})
  (hR:∀(ord:List ae) h' tk d c',ord.Perm (es.toList.map (·.2))->(∀b o,b≠S->s.heap.get? b=TL o->h'.get? b=TL o)->h'.get? S=TL {cls:=.type "list",dict:=J0,data:=.seq ord.toArray c',slots:= #[]}->R (.ok (.ret res)) {s with heap:=h',toks:=tk,drawn:=d}):
  az (aC prog w) A.in1 (zf (.ref S) (.ref a) res)
   (fun fin s'=>match fin with|.done f=>R (.ok f) s'|.again c'=>c'.quiet=J1/\hX (aC prog w) A c' R s') (fun e s'=>R (.error e) s') s:=by
 obtain⟨⟨oS,hoS,hex,hdS⟩,hf⟩:=id hs;have hSlt:=bR hS;have halt:=bR hoS
 have key:∀(I:aa)(fp:List aa)(ord:List ae)(St:Nat->aA->Prop)(h:aA)(d:Drawn)(c₁ tk:Nat),Walks prog w A.in1 I fp [I] es.size (fun i v=>ord[i]?=TL v) St->ord.Perm (es.toList.map (·.2))->S∉fp->s.heap.objs.size<=I->St 0 h->
   (∀b o,b≠S->s.heap.get? b=TL o->h.get? b=TL o)->h.get? S=TL {cls:=.type "list",data:=.seq #[] c₁}->hX (aC prog w) A (.builtin "list.extend.loop" ⟨[.ref S,.ref I,res],[]⟩) R {s with heap:=h,toks:=tk,drawn:=d}:=by
  intro I fp ord St h d c₁ tk W hp hSf hI st hk hS1;have hl:ord.length=es.size:=by rw[hp.length_eq,aE,fO]
  rw[<-hl]at W;refine PD W (by lia) hSf st hS1 fun h' tk' c' hk' hS'=>?_;exact hR ord h' tk' d c' hp (fun b o hb e=>hk' b o hb (cJ (cR (bR e) hI)) (hk b o hb e)) hS'
 unfold zf;have hT:s.TypeIs (.ref a) "set":=⟨oS,hoS,hex.1⟩;refine ay (wpAny_typeOf hT ?_);have e1:MN (.ref S) (.ref a)=false:=by simp[MN,hSa]
 have e2:(nP "set"==nP "list")=false:=by decide
 have e3:(nP "set"==nP "tuple")=false:=by decide
 simp only[e1,e2,e3,Bool.or_false,aU,if_false];refine ay (Qv hs hz (fun hcase=>?_) fun pl d hp=>?_)
 .have hne:a≠s.heap.objs.size:=cJ halt;have hSf:S∉ [s.heap.objs.size,a]:=by simp only[bg,jg,or_false,not_or];exact⟨cJ hSlt,hSa⟩
  have hit:gw (s.heap.push (mM (cg 0) a es.size ep)) s.heap.objs.size a (cg 0) 0 es.size ep:=⟨_,dD _ rfl,rfl,rfl⟩;have hs1:gx (s.heap.push (mM (cg 0) a es.size ep)) a es ep t:=hs.at fun o e=>bV _ e
  have hcase2:∃(sl:Nat->Nat)(ord:List ae),qY prog w a es ep t sl ord/\ord.Perm (es.toList.map (·.2))/\sl 0=0:=by
   cases hb:w.params.followText "set-order" with
   |true=>exact⟨_,_,Se hb,(Uu _ _).map _,rfl⟩
   |false=>
    rcases hcase with z|z
    .rw[hb]at z;cases z
    .have ht:eU J1 t:=by have:=ht;unfold oj at this;rw[hb]at this;exact this
     exact⟨_,_,Sd hb ht z hf,.refl _,rfl⟩
  obtain⟨sl,ord,N,hp,hsl⟩:=hcase2;have hl:ord.length=es.size:=by rw[hp.length_eq,aE,fO]
  have W:=YG (A:=A.in1) (I:=s.heap.objs.size) hh N hl hne;have st:gw (s.heap.push (mM (cg 0) a es.size ep)) s.heap.objs.size a (cg (sl 0:Int)) 0 es.size ep/\gx (s.heap.push (mM (cg 0) a es.size ep)) a es ep t:=⟨by rw[hsl];exact hit,hs1⟩;have hS₁:(s.heap.push (mM (cg 0) a es.size ep)).get? S=TL {cls:=.type "list",data:=.seq #[] c₀}:=bV _ hS;have hT1:aj.TypeIs {s with heap:=s.heap.push (mM (cg 0) a es.size ep)} (.ref a) "set":=⟨oS,bV _ hoS,hex.1⟩;refine ay (sR (Hu hT1 ?_));refine Ei (fun _=>?_) (fun _=>aT ⟨qp zl _,key _ _ ord _ _ s.drawn c₀ _ W hp hSf (aF _) st (fun b o _ e=>bV _ e) hS₁⟩);refine ay (vF ?_);refine ay ?_;show az _ _ (updateSeq S (·.push .none)>>=fun _=>updateSeq S (·.pop)) _ _ _;refine ay (Ej hS₁ rfl ?_);have hS₂:=mf (tM (·.push iP)) hS₁ rfl;refine Ej (hz:=by seq_fits) hS₂ rfl ?_;have hS₃:=mf (tM (·.pop)) hS₂ rfl;refine aT ⟨qp zl _,key _ _ ord _ _ s.drawn _ _ W hp hSf (aF _) ?_ (fun b o hb e=>?_) hS₃⟩
  .refine W.frame 0 _ _ st fun b hb o e=>?_;have hbS:b≠S:=fun h=>hSf (h▸hb);exact(kY _ _ (br hbS)).trans ((kY _ _ (br hbS)).trans e)
  .exact(kY _ _ (br hb)).trans ((kY _ _ (br hb)).trans (bV _ e))
 .generalize htu:({cls:=.type "tuple",data:=.seq (pl.map fun(i:Nat)=>cg (i:Int)).toArray 0}:Obj)=tuO;generalize hh2:(s.heap.push tuO).push (mM (.ref s.heap.objs.size) a es.size ep)=h2;have hold:∀b o,s.heap.get? b=TL o->h2.get? b=TL o:=fun b o e=>by rw[<-hh2];exact bV _ (bV _ e)
  have hne:a≠s.heap.objs.size+1:=cJ (nF halt);have hne2:s.heap.objs.size≠s.heap.objs.size+1:=cJ (wg _);have hSf:S∉ [s.heap.objs.size+1,a,s.heap.objs.size]:=by simp only[bg,jg,or_false,not_or];exact⟨cJ (nF hSlt),hSa,cJ hSlt⟩
  have hit:gw h2 (s.heap.objs.size+1) a (.ref s.heap.objs.size) 0 es.size ep:=⟨_,by rw[<-hh2,<-fQ s.heap tuO];exact dD _ rfl,rfl,rfl⟩;have hs1:gx h2 a es ep t:=hs.at fun o e=>hold _ _ e;have htup:TupAt h2 s.heap.objs.size pl:=⟨_,by rw[<-hh2];exact bV _ (dD _ (by rw[<-htu];rfl)),by rw[<-htu]⟩;have W:=YF (w:=w) (prog:=prog) (A:=A.in1) (I:=s.heap.objs.size+1) (a:=a) (tu:=s.heap.objs.size) (ep:=ep) (t:=t) hh hp hne hne2;have st:gw h2 (s.heap.objs.size+1) a (.ref s.heap.objs.size) 0 es.size ep/\gx h2 a es ep t/\TupAt h2 s.heap.objs.size pl:=⟨hit,hs1,htup⟩;have hS₁:h2.get? S=TL {cls:=.type "list",data:=.seq #[] c₀}:=hold _ _ hS;have hT1:aj.TypeIs {s with heap:=h2,drawn:=d} (.ref a) "set":=⟨oS,hold _ _ hoS,hex.1⟩;refine ay (sR (Hu hT1 ?_));refine Ei (fun _=>?_) (fun _=>aT ⟨qp zl _,key _ _ _ _ _ d c₀ _ W (GN hp) hSf (tK _) st (fun b o _ e=>hold _ _ e) hS₁⟩);refine ay (vF ?_);refine ay ?_;show az _ _ (updateSeq S (·.push .none)>>=fun _=>updateSeq S (·.pop)) _ _ _;refine ay (Ej hS₁ rfl ?_);have hS₂:=mf (tM (·.push iP)) hS₁ rfl;refine Ej (hz:=by seq_fits) hS₂ rfl ?_;have hS₃:=mf (tM (·.pop)) hS₂ rfl;refine aT ⟨qp zl _,key _ _ _ _ _ d _ _ W (GN hp) hSf (tK _) ?_ (fun b o hb e=>?_) hS₃⟩
  .refine W.frame 0 _ _ st fun b hb o e=>?_;have hbS:b≠S:=fun h=>hSf (h▸hb);exact(kY _ _ (br hbS)).trans ((kY _ _ (br hbS)).trans e)
  .exact(kY _ _ (br hb)).trans ((kY _ _ (br hb)).trans (hold _ _ e))
theorem OK{a:aa}{es:Array (Int×ae)}{ep:Nat}{t:bY}{Q:List ae->aj->Prop}(hh:A.handled=J0)(hs:gx s.heap a es ep t)(ht:eU (oj w) t)(hz:es.size<=aZ)
  (hQ:∀(ord:List ae) h' tk d,ord.Perm (es.toList.map (·.2))->(∀b o,s.heap.get? b=TL o->h'.get? b=TL o)->s.heap.objs.size<=h'.objs.size->Q ord {s with heap:=h',toks:=tk,drawn:=d}):
  az (aC prog w) A (collect (.ref a)) Q E s:=by
 obtain⟨⟨oS,hoS,hex,hdS⟩,hf⟩:=id hs
 have hsuf:∀R:Result->aj->Prop,(∀(ord:List ae) h' tk d c',ord.Perm (es.toList.map (·.2))->(∀b o,b≠s.heap.objs.size->(s.heap.push {cls:=.type "list",data:=.seq ([]:List ae).toArray}).get? b=TL o->h'.get? b=TL o)->h'.get? s.heap.objs.size=TL {cls:=.type "list",dict:=J0,data:=.seq ord.toArray c',slots:= #[]}->R (.ok (.ret (.ref s.heap.objs.size))) {s with heap:=h',toks:=tk,drawn:=d})->
   hX (aC prog w) A (.builtin "proto.collect" ⟨[.ref a],[]⟩) R s:=fun R hR=>by
  refine pT MT ?_;rw[qD MV _];show az _ A.in1 (newList []>>=fun l=>again (.builtin "list.__iadd__" ⟨[l,.ref a],[]⟩)) _ _ s;refine ay (ni ?_);refine aT ⟨qp zm _,pT F.entry_list_iadd ?_⟩;rw[qD zm _];show az _ A.in1 (zf (.ref s.heap.objs.size) (.ref a) (.ref s.heap.objs.size)) _ _ _;exact PF (s:={s with heap:=s.heap.push {cls:=.type "list",data:=.seq ([]:List ae).toArray}}) (c₀:=0) hh (hs.at fun o e=>bV _ e) ht hz (qV (bR hoS)) (dD _ rfl) hR
 unfold collect;refine ay (MH (hsuf _ fun ord h' tk d c' hp hk hS'=>?_));show az _ A (load s.heap.objs.size>>=_) _ _ _;refine ay (wpAny_load hS' ?_);exact aT (hQ ord h' tk d hp (fun b o e=>hk b o (cJ (bR e)) (bV _ e)) (jH (bR hS')))
end
theorem HE:∀{ord:List ae},(∀v∈ord,∃k t,v=.int k t)->∃ns,jE ord ns/\∀k:Int,k∈ns↔∃t,kG k t∈ord
 | [],_=>⟨[],.nil,fun k=>by simp⟩
 |v::ord,h=>by
  obtain⟨k0,t0,rfl⟩:=h v dI;obtain⟨ns,h1,h2⟩:=HE (ord:=ord) fun v hv=>h v (bX _ hv);refine⟨k0::ns,.cons _ _ h1,fun k=>?_⟩;rw[bg,h2];constructor
  .rintro(rfl|⟨t,ht⟩)
   .exact⟨t0,dI⟩
   .exact⟨t,bX _ ht⟩
  .rintro⟨t,ht⟩;rcases bg.mp ht with e|ht
   .cases e;exact .inl rfl
   .exact .inr ⟨t,ht⟩
section
variable{prog:aJ}{w:aH}{A:bM}{E:ae->aj->Prop}{s:aj}
def wI(prog:aJ)(w:aH)(h:aA)(a:aa)(ns:List Int):Prop:=∃es ep t,gx h a es ep t/\eU (oj w) t/\es.size<4096/\ElemsOf (intKind prog w) es.toList/\∀k,k∈ns↔∃e∈es.toList,(intKind prog w).is k e.2=J1
theorem WG{a:aa}{ns:List Int}{Q:ae->aj->Prop}(hh:A.handled=J0)(hs:wI prog w s.heap a ns)
  (hQ:∀(p:aa)(its:List ae)(ns':List Int) h' tk d e,s.heap.objs.size<=p->jE its ns'->(∀k,k∈ns'↔k∈ns)->ns'.Pairwise (·<=·)->ns'.length<4096->(∀b o,s.heap.get? b=TL o->h'.get? b=TL o)->h'.get? p=TL (seqObj "list" its.toArray e)->Q (.ref p) {s with heap:=h',toks:=tk,drawn:=d}):
  az (aC prog w) A (call (.builtin "sorted") [.ref a]) Q E s:=by
 obtain⟨es,ep,t,hso,ht,hsz,hel,hmem⟩:=hs;have hz:es.size<=aZ:=by rw[sI];lia
 refine Calls.call_function_entry kind_sorted plain_sorted entry_sorted (args_sorted1 _) ?_;unfold Builtin.«sorted»;refine ay (m:=checkCount "sorted" 1 1 _) (aT ?_);refine ay (OK (by exact hh) hso ht hz fun ord h' tk d hp hk hle=>?_);have hl:ord.length=es.size:=by rw[hp.length_eq,aE,fO]
 refine ay (wpAny_newList ?_ (by lia));have hoL:(h'.push (seqObj "list" ord.toArray 0)).get? h'.objs.size=TL (seqObj "list" ord.toArray 0):=dD _ rfl
 have hint:∀v∈ord,∃k t,v=kG k t:=fun v hv=>by
  obtain⟨e,he,rfl⟩:=bS.mp (hp.mem_iff.mp hv);obtain⟨⟨k,hk1,_⟩,_⟩:=hel e he;obtain⟨t,e⟩:=Fz (k:=k) (v:=e.2) hk1;exact⟨k,t,e⟩
 obtain⟨ns0,hI,hm0⟩:=HE hint
 have hmm:∀k,k∈ns0↔k∈ns:=fun k=>by
  rw[hm0,hmem];constructor
  .rintro⟨t,ht⟩;obtain⟨e,he,ee⟩:=bS.mp (hp.mem_iff.mp ht);exact⟨e,he,by rw[ee];exact intKind_is _ _ _ _⟩
  .rintro⟨e,he,hk1⟩;obtain⟨t,e2⟩:=Fz (k:=k) (v:=e.2) hk1;exact⟨t,by rw[<-e2];exact hp.mem_iff.mpr (bS.mpr ⟨e,he,rfl⟩)⟩
 refine ay (sR (sQ slot_list_sort ⟨_,hoL,rfl⟩ entry_list_sort (list_sort_treeAny hoL hI (by lia) fun out ns' a1 a2 a3=>⟨_,rfl,?_⟩) (args_list_sort _)));obtain⟨e,he⟩:=sortedHeap_at (out:=out) hoL;refine aT ⟨_,rfl,hQ h'.objs.size out.toList ns' _ tk d e hle a1 (fun k=>by rw[a2.mem_iff];exact hmm k) a3 ?_ (fun b o hb=>?_) he⟩
 .rw[a2.length_eq,<-hI.length,hl];exact hsz
 .have hb':=hk b o hb;rw[sortedHeap_old (cJ (bR hb')) (by rw[fQ];exact nF (bR hb'))];exact bV _ hb'
end
def ro(prog:aJ)(w:aH)(a:aa)(ns:List Int):HO:=.ext fun h=>wI prog w h a ns
theorem Wl{prog:aJ}{w:aH}{H:Hp}{h:aA}{a:aa}{ns:List Int}(x:wI prog w h a ns):dS prog w H h a (ro prog w a ns):=by
 refine⟨x,?_,fun h1 h2 y k=>?_⟩
 .obtain⟨es,ep,t,⟨⟨o,ho,_⟩,_⟩,_⟩:=x;exact⟨o,ho⟩
 .obtain⟨es,ep,t,so,r⟩:=y;exact⟨es,ep,t,so.at k,r⟩
theorem boot_set:rK "set"=TL (.type "set"):=by kernel_rfl
section
variable{X:Cx}
def UL(P:aJ)(w:aH)(K:aw):List V->Hp->VK->Prop:=fun vs H Q=>∃(a:aa)(ns:List Int)(m:Nat),vs=[V.ref a]/\ak K H a (ns.map V.int)/\m<4096/\(∀n∈ns,0<=n/\n<m)/\∀p,H p=J0->Q (.ref p) (ah H p (ro P w p ns))
theorem Inv.drew{pins:List (aa×Obj)}{σ:List (Option V)}{H:Hp}{s:aj}(I:Inv X pins σ H s)(d:Drawn):Inv X pins σ H {s with drawn:=d}:=⟨I.ok,I.os,I.bare,I.base,I.loc,I.cell,I.free,I.freeC,I.pin,I.hok,I.len⟩
theorem OP(hc:X.calm=J1):jB X (.type "set") (UL X.prog X.w X.K):=by
 intro pins s σ H vs us Q I r h;obtain⟨a,ns,m,rfl,hs,hm,hb,q⟩:=h;obtain⟨its,rv,hl,_⟩:=I.list hs;rw[aX.ref1 r];have hi:=rv.ints;have hlen:=hi.length
 have hval:∀j,j<its.length->0<=ns.getD j 0/\ns.getD j 0<(m:Int):=fun j hj=>by
  rw[zB,bO (by lia)];exact hb _ (lb _)
 refine Oz (ns:=ns) (I.ok.hd hc) hl.isList hi (fun i hi2=>?_) fun h' tk hS hk=>?_
 .have:=PL (val:=fun i=>ns.getD i 0) (i:=i) (m:=m) fun j hj=>hval j (by simp at hi2;lia);have e:lT=4096:=rfl;lia
 .obtain⟨o,es,ep,t,ho,hex,hd,hel,hmem,hb2,hf,hn,ht⟩:=hS;have hk':∀b o,s.heap.get? b=TL o->h'.get? b=TL o:=fun b o e=>hk b o (bR e) e
  have hin:wI X.prog X.w h' s.heap.objs.size ns:=by
   refine⟨es,ep,t,⟨⟨o,ho,hex,hd⟩,hf⟩,ht,hb2,hel,fun k=>?_⟩;rw[<-hmem k,oY];constructor
   .intro hkn;obtain⟨j,hj,e⟩:=je hkn;refine⟨k,(uo _ _ _).mpr ⟨j,?_,?_⟩,beq_self_eq_true _⟩
    .simp;lia
    .rw[zB,bO hj,e];rfl
   .rintro⟨x,hx,e⟩;rw[<-eq_of_beq e];obtain⟨j,hj,e2⟩:=(uo _ _ _).mp hx;rw[<-e2];have hj2:j<ns.length:=by simp at hj;lia
    rw[zB,bO hj2];exact lb _
  exact⟨.ref _,ah H s.heap.objs.size (ro X.prog X.w s.heap.objs.size ns),I.laid (t':=tk) hk' (aF _) (Wl hin),rfl,q _ (I.hok.fresh (aF _))⟩
def UM(P:aJ)(w:aH):List V->Hp->VK->Prop:=fun vs H Q=>∃(a:aa)(ns:List Int),vs=[V.ref a]/\H a=TL (ro P w a ns)/\
 ∀(ns':List Int)(p:aa),(∀k,k∈ns'↔k∈ns)->ns'.Pairwise (·<=·)->ns'.length<4096->H p=J0->Q (.ref p) (ah H p (.lst (ns'.map V.int)))
theorem OQ(hc:X.calm=J1):jB X (.builtin "sorted") (UM X.prog X.w):=by
 intro pins s σ H vs us Q I r h;obtain⟨a,ns,rfl,ha,q⟩:=h;rw[aX.ref1 r];obtain⟨hin,_,_⟩:=I.hok a _ ha;refine WG (I.ok.hd hc) hin fun p its ns' h' tk d e hp hi hmem hpw hlen hk hget=>?_;have hz:(ns'.map V.int).length<=aZ:=by rw[aE,sI];lia
 exact⟨.ref p,ah H p (.lst (ns'.map V.int)),Inv.drew (I.laid (o:=.lst (ns'.map V.int)) (t':=tk) hk hp ⟨hz,its,e,Mz hi,hget⟩) d,rfl,q ns' p hmem hpw hlen (I.hok.fresh hp)⟩
end
end PP
namespace PP
open PySem PySem.Spec L2
open PyProof.Rows hiding St
open Pg PM
section
variable{P:aJ}{w:aH}{K:aw}{mg:Str->Option ae}{base:aA}{A:Ad}
theorem pY(l:List Nat):iv l=(l.map fun(n:Nat)=>(n:Int)).map V.int:=by
 unfold iv;rw[gH];rfl
theorem Qw{ns:List Int}(h:∀n∈ns,0<=n):ns.map V.int=iv (ns.map fR):=by
 unfold iv;rw[gH];refine zE fun n hn=>?_;have:=h n hn;show V.int n=V.int ((n.toNat:Nat):Int);rw[zr this]
def Xf(A:Ad):Sp:=fun vs H Q _=>∃(G:Hp)(m:aa)(M:ba)(c:Nat),vs=[.ref m]/\Wd A.toCn G H/\iK A G m M/\lr M c/\nE M/\M.steps.length<=4095/\c<=3000/\
 ∀G' H' v,Step A.toCn G H G' H'->((v=.non/\wH M J0)\/∃p row,v=.ref p/\G' p=TL (.lst (bv row))/\wH M (TL row))->Q v H'
theorem Ow{row:ag}{b:Nat}(hb:b<256):bv row++[V.int (b:Nat)]=bv (row++[kF b]):=by
 unfold bv;rw[cx];show _=_++[V.int ((kF b).toNat:Int)];rw[wM,wj hb]
theorem SY(T:aY K mg A):Kn P w K mg base aW "least_row" 3 ["machine"] (Xf A):=by
 have sc:aV ["machine","left","lengths","start","many","places","row","steps","byte","step"] ["machine"] (aN Kl):=bp;refine Kn.of T.aax sc (fun vs H Q E h=>?_) (fun f cdv A0 outer s0 H vs Q E hr h=>?_)
 .obtain⟨_,_,_,_,rfl,_⟩:=h;rfl
 obtain⟨G,m,M,c,rfl,wd,hmac,bd,ok,hn,hc,q⟩:=h;have hu:=mL hr;have hu64:=hr.units;have hsc:M.steps.length*c<=4095*3000:=qU hn hc
 refine⟨_,(aq (pS 1 sc.nd (cF (SO T) hr (af (pv 0) ao)))
   (aq (CD rfl sc.nd (i:=2) rfl rfl (yF rfl rfl rfl rfl) (dw (bN (pv 0) rfl)) (own:=[("start",3)]) (fI (by kernel_rfl)) (fun _ _ _ _ _=>by exact(gN 3 sc.nd)) (fun _ _ _ _ _=>by exact(oA (sE (Cu hu (pv 3) (pv 1))))) (fun _ _ _ _ _=>by exact(mW hu (pv 1) (pv 3) (fun _ _=>rfl))))
   (aq (bA (bL (mU hu64) (pv 2) (bt ao) (bq _))
    (au (aL lR))
    bG)
   (aq (pS 4 sc.nd (jX (Gs rfl) (by rfl) T.ZO boot_min (af (pv 2) ao)))
   (aq (pS 5 sc.nd (bN (pv 0) rfl))
   (aq (pS 6 sc.nd (bt ao))
   (aq (qr ff (bL mV (pv 4) aB (bq _))
    (aq (uX (i:=4) sc.nd rfl (by first|exact Or.inl rfl|exact lz rfl) aB Qr)
    (aq (pS 7 sc.nd (cF (Tt T) hr (af (pv 0) (af (pv 5) (af (pv 1) (af (pv 4) ao))))))
    (aq (pS 8 sc.nd (jX (Gs rfl) (by rfl) T.ZO boot_min (af (ij rfl sc.nd (dw (pv 7)) (own:=[("step",9)]) (fI (by kernel_rfl)) (fun _ _ _ _ _=>by exact(gN 9 sc.nd)) (fun _ _ _ _ _=>by exact jZ) (fun _ _ _ _ _=>by exact(cF (Ta T) hr (af (bP (xI (K:=K) rfl) (pv 9) aB (fun _ _=>rfl)) ao)))) ao)))
    (aq (eI (eN eT gn gr gc (pv 6) (af (pv 8) ao)))
    (au (pS 5 sc.nd (jX (OQ rfl) (by rfl) T.ZQ boot_sorted (af (Ud (OP rfl) (by rfl) T.aad boot_set (af (ij rfl sc.nd (dw (pv 7)) (own:=[("step",9)]) (fI (by kernel_rfl)) (fun _ _ _ _ _=>by exact(gN 9 sc.nd)) (fun _ _ _ _ _=>by exact(oA (bL eF (bb jU (bb uV (bP (xI (K:=K) rfl) (pv 9) aB (fun _ _=>rfl)) (pv 8)) aB) aB (bq _)))) (fun _ _ _ _ _=>by exact(bP (xI (K:=K) rfl) (pv 9) aB (fun _ _=>rfl)))) ao)) ao)))))))))
   (au (aL (pv 6)))))))))),?_⟩
 cb_eq
 refine⟨G,m,M,c,rfl,wd,hmac,bd,ok,by lia,by lia,fun G1 H1 dp L s1 hdp hL hsteady=>?_⟩;have hmac1:=hmac.mono (s1.same wd);obtain⟨dx,sa,la,hm,hsa,as,hla,pla⟩:=id hmac1
 cb_eq
 refine bz (s1.wd.sub _ _ hm) T.Zh T.Zx xP ?_;refine gY (ak.of (s1.wd.sub _ _ hsa)) (fun D i H'=>∃ds:List Nat,Step A.toCn G H G1 H'/\ar A.toCn H G1 H' D (.lst (iv ds))/\ds.length<=i/\∀d,d∈ds↔∃s,s∈M.starts.take i/\(s,d)∈L) ?_ ?_ ?_ ?_
 .intro D hD;exact⟨[],s1.new wd hD,ar.make wd s1 hD,aF _,fun d=>⟨fun z=>(by cases z),fun⟨s,z,_⟩=>(by rw[eR]at z;cases z)⟩⟩
 .rintro D i H' _ ⟨_,s2,_⟩;exact ak.of (s2.wd.sub _ _ hsa)
 .rintro D i v H2 hv ⟨ds,s2,o2,hdl,hds⟩;obtain⟨st,hst,rfl⟩:=mO hv;have hil:=(aK.mp hst).1;have hsl:=bd.sl
  cb_eq
  refine vI (k:=bZ (st:Int)) (s2.wd.sub _ _ hdp) ?_;rw[GI hL.nd,take_snoc hst]
  cb_eq
  by_cases hin:st∈L.map (·.1)
  .rw[dT hin];simp only[qE,if_true];obtain⟨⟨a,d⟩,hx,e⟩:=bS.mp hin;have e:a=st:=e;subst e;refine nj (k:=bZ (a:Int)) (s2.wd.sub _ _ hdp) (pV hL.nd hx) ?_;refine⟨_,o2.at_,?_,ds++[d],s2.put wd o2,?_,by rw[bw,dR];lia,fun d'=>?_⟩
   .rw[dO];exact cf (m:=3000) (by lia) (by decide)
   .rw[<-iA];exact o2.put_
   .rw[cn,cE,hds];constructor
    .rintro(⟨s,z1,z2⟩|rfl)
     .exact⟨s,cW _ z1,z2⟩
     .exact⟨a,dA _ (cE.mpr rfl),hx⟩
    .rintro⟨s,z1,z2⟩;rcases cn.mp z1 with z1|z1
     .exact .inl ⟨s,z1,z2⟩
     .rw[cE.mp z1]at z2;exact .inr (HY hL z2 hx)
  .rw[dF hin];simp only[qE,aU,if_false];refine⟨ds,s2,o2,by lia,fun d'=>?_⟩;rw[hds];constructor
   .rintro⟨s,z1,z2⟩;exact⟨s,cW _ z1,z2⟩
   .rintro⟨s,z1,z2⟩;rcases cn.mp z1 with z1|z1
    .exact⟨s,z1,z2⟩
    .rw[cE.mp z1]at z2;exact J5 (bS.mpr ⟨_,z2,rfl⟩) hin
 .rintro D H2 ⟨ds,s2,o2,hdl,hds⟩;rw[dO,cv]at hds
  cb_eq
  refine⟨by decide,fun ep hep=>?_⟩;have s3:=s2.new wd hep (o:=.lst []);have o3:=o2.new_ hep (o':=.lst []);refine nk (ns:=ds.map fun(n:Nat)=>(n:Int)) (ms:=[]) (by rw[<-pY];exact ak.of o3.at_) (ak.of ax) ?_
  cb_eq
  by_cases hnil:ds=[]
  .subst hnil;rw[dT (by rfl)];simp only[if_true];refine q _ _ _ s3 (.inl ⟨rfl,fun x=>Wh hL (fun s d hs hd=>?_) x⟩);exact jg ((hds d).mpr ⟨s,hs,hd⟩)
  .rw[dF (by simpa using hnil)];simp only[aU,if_false];refine⟨D,ds.map fun(n:Nat)=>(n:Int),rfl,by rw[<-pY];exact ak.of o3.at_,by rw[aE];exact fG.mpr hnil,fun mi hmi hle=>?_⟩;obtain⟨m0,hm0,rfl⟩:=bS.mp hmi
   have hfew:sY M L m0:=by
    obtain⟨s,z1,z2⟩:=(hds m0).mp hm0;refine⟨⟨s,z1,z2⟩,fun s d h1 h2=>?_⟩;have:=hle _ (bS.mpr ⟨d,(hds d).mpr ⟨s,h1,h2⟩,rfl⟩);lia
   cb_eq
   refine bz (s3.wd.sub _ _ hm) T.Zh T.Zx xP ?_
   cb_eq
   refine⟨by decide,fun rp hrp=>?_⟩;have s4:=s3.new wd hrp (o:=.lst []);have r4:=ar.make wd s3 hrp (o:=.lst [])
   refine qC (fun mm σ H'=>∃(x3 x7 x8 x9:Option V)(G5:Hp)(pa:aa)(ps:List Nat)(row:ag)(i:Nat),mm=m0-i/\σ=[TL (.ref m),TL (.ref dp),TL (.ref D),x3,TL (.int ((m0-i:Nat):Int)),TL (.ref pa),TL (.ref rp),x7,x8,x9]/\Step A.toCn G H G5 H'/\bh G1 G5/\ar A.toCn H G5 H' rp (.lst (bv row))/\
     G5 pa=TL (.lst (iv ps))/\(∀p∈ps,p<M.steps.length)/\ps.length<=4096/\rn M L m0 i row ps)
    ⟨_,_,_,_,_,G1,sa,M.starts,[],0,rfl,rfl,s4,bh.refl _,r4,hsa,bd.starts,by have:=bd.sl;lia,Wi hfew⟩ ?_
   rintro mm σ H5 ⟨x3,x7,x8,x9,G5,pa,ps,row,i,rfl,rfl,s5,e15,r5,hpa,hps,hpl,hrow⟩;have him:=hrow.le
   cb_eq
   by_cases hlt:i<m0
   .rw[dT (by lia:(0:Int)<((m0-i:Nat):Int))];simp only[if_true];refine⟨_,fun _ _ z=>z,?_⟩;refine vH rfl ?_
    cb_eq
    rw[show(((m0-i:Nat):Int)-1)=((m0-i-1:Nat):Int) by lia];have hpc:ps.length*c<=4096*3000:=qU hpl hc;have hmac5:=hmac1.mono e15;refine⟨G5,m,pa,dp,M,c,m0-i-1,ps,L,rfl,s5.wd,hmac5,bd,hpa,hps,e15 _ _ hdp,hL.nd,by lia,by lia,fun G6 H6 sp6 ts ss s56 hsp6 hts hss hssl=>?_⟩;have s6:=s5.trans wd s56;have e56:=s56.same s5.wd;have r6:=r5.call s56;have hlts:=bU hts;have hne:=Wg hL hrow hlt hss
    have hok6:∀x∈ss,∃p,(x.1,x.2)∈M.from p:=fun x hx=>by
     obtain⟨⟨p,_,h⟩,_⟩:=(hss x.1 x.2).mp hx;exact⟨p,h⟩
    cb_eq
    refine gY (ak.of (s6.wd.sub _ _ hsp6)) (fun D i H'=>∃bs:List Nat,Step A.toCn G H G6 H'/\ar A.toCn H G6 H' rp (.lst (bv row))/\ar A.toCn H G6 H' D (.lst (iv bs))/\D≠rp/\bK (fun b(x:Nat×Nat)=>ku x.1 b) bs (ss.take i)) ?_ ?_ ?_ ?_
    .intro D hD;exact⟨[],s6.new wd hD,r6.new_ hD,ar.make wd s6 hD,(fun z=>by rw[z,r6.at_]at hD;cases hD),by rw[eR];exact .nil⟩
    .rintro D i H' _ ⟨_,s7,_⟩;exact ak.of (s7.wd.sub _ _ hsp6)
    .rintro D j v H7 hv ⟨bs,s7,r7,d7,hDr,hlow⟩;obtain⟨t7,ht7,rfl⟩:=eM hv;obtain⟨⟨S,t⟩,hst,htG⟩:=dP hts ht7;have hjl:=(aK.mp hst).1;have hbl:=bU hlow;rw[cQ]at hbl;obtain⟨p,hp⟩:=hok6 _ (du hst);obtain⟨b,hb⟩:=Dz (ok.to p S t hp).2.1
     cb_eq
     refine cH (k:=0) (bT.of (s7.wd.sub _ _ htG)) rfl ?_;refine⟨S,b,rfl,hb,?_⟩;refine⟨_,d7.at_,?_,bs++[b],s7.put wd d7,r7.other (br hDr),?_,hDr,?_⟩
     .rw[dO];exact cf (m:=4096*3000) (by lia) (by decide)
     .rw[<-iA];exact d7.put_
     .rw[take_snoc hst];exact jV hlow (.cons hb .nil)
    .rintro D7 H7 ⟨bs,s7,r7,d7,hDr,hlow⟩;rw[aE,hlts,cv]at hlow;have hbl:=bU hlow
     cb_eq
     refine⟨D7,bs.map fun(n:Nat)=>(n:Int),rfl,by rw[<-pY];exact ak.of d7.at_,by rw[aE,hbl];exact fG.mpr hne,fun bi hbi hble=>?_⟩;obtain⟨b,hb,rfl⟩:=bS.mp hbi
     have hb1:∃S t,(S,t)∈ss/\ku S b:=by
      obtain⟨k,hk,e⟩:=je hb;obtain⟨⟨S,t⟩,h1,h2⟩:=dP hlow (i:=k) (by rw[bO hk,e]);exact⟨S,t,du h1,h2⟩
     have hb2:∀S t l,(S,t)∈ss->ku S l->b<=l:=fun S t l h1 h2=>by
      obtain⟨k,hk,e⟩:=je h1;obtain⟨b',h3,h4⟩:=jW hlow (i:=k) (b:=(S,t)) (by rw[bO hk,e]);have h5:=hble _ (bS.mpr ⟨b',du h3,rfl⟩);have h6:=h4.2 l h2.1;have h6:b'<=l:=h6;lia
     have hb256:b<256:=by
      obtain⟨S,t,h1,h2⟩:=hb1;obtain⟨p,hp⟩:=hok6 _ h1;exact Bu h2 (ok.to p S t hp).2.2
     cb_eq
     refine⟨eP (ak.of r7.at_),?_⟩
     cb_eq
     have hrl:row.length<16000000:=by
      rw[hrow.len]
      have h1:m0<=M.steps.length:=by
       obtain⟨⟨s,_,z2⟩,_⟩:=hfew;obtain⟨k,hk,e⟩:=je z2;have h2:=hsteady k _ (by rw[bO hk,e]);have h3:=hL.bound;have h2:m0<=k:=h2;lia
      lia
     refine gh r7.at_ (by rw[cY];exact cf (m:=16000000) (by lia) (by decide)) ?_;rw[Ow hb256];have s8:=s7.put wd r7 (o':=.lst (bv (row++[kF b])));have r8:=r7.put_ (o':=.lst (bv (row++[kF b])))
     cb_eq
     refine gY (ak.of (s8.wd.sub _ _ hsp6)) (fun D i H'=>∃qs:List Nat,Step A.toCn G H G6 H'/\ar A.toCn H G6 H' rp (.lst (bv (row++[kF b])))/\ar A.toCn H G6 H' D (.lst (iv qs))/\D≠rp/\qs.length<=i/\∀t,t∈qs↔∃S,(S,t)∈ss.take i/\S.testBit b=J1) ?_ ?_ ?_ ?_
     .intro D hD;exact⟨[],s8.new wd hD,r8.new_ hD,ar.make wd s8 hD,(fun z=>by rw[z,r8.at_]at hD;cases hD),aF _,fun t=>⟨fun z=>(by cases z),fun⟨S,z,_⟩=>(by rw[eR]at z;cases z)⟩⟩
     .rintro D i H' _ ⟨_,s9,_⟩;exact ak.of (s9.wd.sub _ _ hsp6)
     .rintro D j v H9 hv ⟨qs,s9,r9,d9,hDr,hql,hqs⟩;obtain⟨t7,ht7,rfl⟩:=eM hv;obtain⟨⟨S,t⟩,hst,htG⟩:=dP hts ht7;have hjl:=(aK.mp hst).1
      cb_eq
      refine cH (k:=0) (bT.of (s9.wd.sub _ _ htG)) rfl ?_
      cb_eq
      refine⟨by lia,?_⟩;rw[ua,take_snoc hst];cases hbt:S.testBit b with
      |true=>
       simp only[if_true];refine cH (k:=1) (bT.of (s9.wd.sub _ _ htG)) rfl ?_;refine⟨_,d9.at_,?_,qs++[t],s9.put wd d9,r9.other (br hDr),?_,hDr,by rw[bw,dR];lia,fun t'=>?_⟩
       .rw[dO];exact cf (m:=4096*3000) (by lia) (by decide)
       .rw[<-iA];exact d9.put_
       .rw[cn,cE,hqs];constructor
        .rintro(⟨S',z1,z2⟩|rfl)
         .exact⟨S',cW _ z1,z2⟩
         .exact⟨S,dA _ (cE.mpr rfl),hbt⟩
        .rintro⟨S',z1,z2⟩;rcases cn.mp z1 with z1|z1
         .exact .inl ⟨S',z1,z2⟩
         .cases cE.mp z1;exact .inr rfl
      |false=>
       simp only[aU,if_false];refine⟨qs,s9,r9,d9,hDr,by lia,fun t'=>?_⟩;rw[hqs];constructor
       .rintro⟨S',z1,z2⟩;exact⟨S',cW _ z1,z2⟩
       .rintro⟨S',z1,z2⟩;rcases cn.mp z1 with z1|z1
        .exact⟨S',z1,z2⟩
        .cases cE.mp z1;rw[hbt]at z2;cases z2
     .rintro D9 H9 ⟨qs,s9,r9,d9,hDr9,hql,hqs⟩;rw[aE,hlts,cv]at hqs
      have hqlt:∀t∈qs,t<M.steps.length:=fun t ht=>by
       obtain⟨S,h1,_⟩:=(hqs t).mp ht;obtain⟨p,hp⟩:=hok6 _ h1;exact(ok.to p S t hp).1
      cb_eq
      refine⟨D9,qs.map fun(n:Nat)=>(n:Int),M.steps.length,rfl,by rw[<-pY];exact ak.of d9.at_,by lia,fun n hn=>?_,fun sp hsp=>?_⟩
      .obtain⟨t,ht,rfl⟩:=bS.mp hn;have:=hqlt t ht;lia
      have s10:=s9.new wd hsp (o:=ro P w sp (qs.map fun(n:Nat)=>(n:Int)));have r10:=r9.new_ hsp (o':=ro P w sp (qs.map fun(n:Nat)=>(n:Int)));refine⟨sp,qs.map fun(n:Nat)=>(n:Int),rfl,ax,fun ns' p' hmem hpw hlen hp'=>?_⟩
      have hnn:∀n∈ns',0<=n:=fun n hn=>by
       obtain⟨t,_,rfl⟩:=bS.mp ((hmem n).mp hn);lia
      rw[Qw hnn];have s11:=s10.newI wd hp' (o:=.lst (iv (ns'.map fR))) aS;have r11:=r10.newI s10.wd hp' (o':=.lst (iv (ns'.map fR))) aS;have e11:=bx (o:=.lst (iv (ns'.map fR))) (s10.wd.noG hp')
      have hmemN:∀t,t∈ns'.map fR↔t∈qs:=fun t=>by
       rw[bS];constructor
       .rintro⟨n,hn,rfl⟩;obtain⟨t,ht,rfl⟩:=bS.mp ((hmem n).mp hn);rw[fD];exact ht
       .intro ht;exact⟨t,(hmem _).mpr (bS.mpr ⟨t,ht,rfl⟩),fD t⟩
      obtain⟨_,hrow'⟩:=Wj (places':=ns'.map fR) ok hL hfew hrow hlt hss hb1 hb2 (fun t=>by rw[hmemN,hqs]);rw[show m0-i-1=m0-(i+1) by lia];refine⟨m0-(i+1),by lia,_,_,_,_,_,p',ns'.map fR,_,i+1,rfl,rfl,s11,e15.trans (e56.trans e11),r11,ax,fun p hp=>hqlt p ((hmemN p).mp hp),by rw[aE];lia,hrow'⟩
   .rw[dF (by lia: ¬(0:Int)<((m0-i:Nat):Int))];simp only[aU,if_false];have e:i=m0:=by lia
    subst e
    cb_eq
    exact q _ _ _ (s5.sealO wd r5 aS) (.inr ⟨rp,row,rfl,ax,Wf hL hfew hrow⟩)
end
section
variable{X:Cx}{C:aa}
def DP(sp:Sp)(R:Hp->Prop)(σ0:L2.St)(t:TA):TE:=fun σ' H Q=>σ'=σ0/\t σ' H fun vs H1=>sp vs H1 Q fun _ _ H'=>R H'
theorem CK{sp:Sp}{R:Hp->Prop}{σ:L2.St}{t:TA}{H:Hp}{Q:VK}:DP sp R σ t σ H Q=t σ H fun vs H1=>sp vs H1 Q fun _ _ H'=>R H':=propext ⟨fun h=>h.2,fun h=>⟨rfl,h⟩⟩
theorem CL{tb:L2.St->(Hp->Prop)->TS}{ts:TS}{D:ja}{σ:L2.St}{H:Hp}:Mo tb ts D σ H=tb σ (fun H'=>ts D σ H') D σ H:=rfl
theorem Cy{pins:List (aa×Obj)}{σ:L2.St}{R:Hp->Prop}{x:Str}{k:Nat}{ps:List Str}{sp:Sp}{p pos:Pos}{e:aM}{es:List aM}{t:TA}(F:Kn X.prog X.w X.K X.mg X.base (dz X.prog X.w C) x k ps sp)(hr:cA k X.A)(hg:Gl X x)(ha:PA (X.tried C pins σ R) (e::es) t)
  (hdb:autoParam ((x==("__debug__":Str))=false) J9)(he:autoParam (bQ (e::es) X.env=(J2,bF e X.env)::bQ es X.env) J7)(hpl:autoParam ((eV pos (bQ es X.env)).any (·.1)=false) J7):
  PE (X.tried C pins σ R) (.Call (.Name x p) (e::es) [] pos) (DP sp R σ t):=by
 obtain⟨f,fd,F,h1,h2,h3⟩:=F;exact Uc F hr hg h1 h2 h3 ha hdb he hpl
end
section
variable{P:aJ}{w:aH}{K:aw}{mg:Str->Option ae}{base:aA}{A:Ad}
def WY(A:Ad):Sp:=fun vs H Q _=>∃(G:Hp)(a:aa)(s:ag),vs=[.ref a]/\Wd A.toCn G H/\G a=TL (.lst (bv s))/\
 cT A.toCn G H Q fun G' v=>(v=.non/\lH s=J0)\/∃p r,v=.ref p/\lH s=TL r/\jj A G' p r
theorem SR(T:aY K mg A):Kn P w K mg base aW "fits_pattern" 11 ["line"] (WY A):=by
 have sc:aV ["line"] ["line"] (aN Kd):=bp;refine Kn.of T.aap sc (fun vs H Q E h=>?_) (fun f cdv A0 outer s0 H vs Q E hr h=>?_)
 .obtain⟨_,_,_,rfl,_⟩:=h;rfl
 obtain⟨G,a,s,rfl,wd,hs,q⟩:=h
 refine⟨_,(aq (bA (PW.pt (yl (bL mV (cL T.Ze (pv 0)) (bC T.aby rfl) (bq _)) (ym (bL yc (bC T.ZN rfl) (pv 0) (by with_unfolding_all rfl)))))
    (au (aL lR))
    bG)
   (au (CF rfl rfl rfl T.Zq T.Zr (by decide) (fun _ _ _=>by exact(au (aL (Cy (BX T) (hr.mono (by decide)) rfl (af (pv 0) ao))))) (fun _=>by exact(au (aL lR)))))),?_⟩
 cb_eq
 refine cy (ak.of (wd.sub _ _ hs)) ?_;rw[cY]
 cb_eq
 by_cases hl:128<s.length
 .rw[dT (by lia:(128:Int)<((s.length:Nat):Int))];simp only[if_true];exact q _ _ _ (Step.refl wd) (.inl ⟨rfl,by unfold lH;rw[J4 (.inl hl)]⟩)
 .rw[dF (by lia: ¬(128:Int)<((s.length:Nat):Int))];simp only[aU,if_false];refine yY (ak.of (wd.sub _ _ hs)) rfl (AS s) ?_;rw[show(if J2=J1 then !gB (.int 10) (bv s)else gB (.int 10) (bv s))=s.contains 10 by rw[J3 (by decide)];show gB (.int ((10:UInt8).toNat:Int)) (bv s)=_;rw[xE 10 s,tj]]
  cb_eq
  cases hc:s.contains 10 with
  |true=>
   simp only[if_true];exact q _ _ _ (Step.refl wd) (.inl ⟨rfl,by unfold lH;rw[J4 (.inr hc)]⟩)
  |false=>
   simp only[aU,if_false,CL]
   cb_eq
   simp only[CK]
   cb_eq
   have hpo:lH s=(dG s).bind fun y=>y:=by unfold lH;rw[J3 (fun z=>by rcases z with z|z;exact hl z;rw[hc]at z;cases z)]
   refine⟨G,a,s,rfl,wd,hs,by lia,fun o ho G1 H1 v s1 hv=>?_,fun hf G1 H1 s1=>?_⟩
   .refine q _ _ _ s1 ?_;cases o with
    |none=>exact .inl ⟨hv,by rw[hpo,ho];rfl⟩
    |some r=>
     obtain⟨p,rfl,hp⟩:=hv;exact .inr ⟨p,r,rfl,by rw[hpo,ho];rfl,hp⟩
   .exact q _ _ _ s1 (.inl ⟨rfl,by rw[hpo,hf];rfl⟩)
def fH(a:wN):List V:=V.int a.ret::iv a.nums
def yZ(A:Ad)(G H:Hp)(Q:VK)(a:wN):Prop:=cT A.toCn G H Q fun G' v=>∃p,v=.ref p/\G' p=TL (.lst (fH a))
theorem pP{G H G1 H1:Hp}{Q:VK}{a:wN}{xs:List V}(wd:Wd A.toCn G H)(q:yZ A G H Q a)(s:Step A.toCn G H G1 H1)(e:xs=fH a):∀p,H1 p=J0->Q (.ref p) (ah H1 p (.lst xs)):=fun p hp=>by
 subst e;exact q _ _ _ (s.newI wd hp aS) ⟨p,rfl,ax⟩
def WX(A:Ad):Sp:=fun vs H Q _=>∃(G:Hp)(d:Nat)(a b:aa)(y x:ag),vs=[.int d,.ref a,.ref b]/\Wd A.toCn G H/\G a=TL (.lst (bv y))/\G b=TL (.lst (bv x))/\yZ A G H Q (lI [] (.fits d y x))
theorem SQ(T:aY K mg A):Kn P w K mg base aW "fits" 12 ["is_directory","line","path"] (WX A):=by
 have sc:aV ["is_directory","line","path","pattern"] ["is_directory","line","path"] (aN Kc):=bp;refine Kn.of T.aao sc (fun vs H Q E h=>?_) (fun f cdv A0 outer s0 H vs Q E hr h=>?_)
 .obtain⟨_,_,_,_,_,_,rfl,_⟩:=h;rfl
 obtain⟨G,d,a,b,y,x,rfl,wd,hy,hx,q⟩:=h
 refine⟨_,(aq (pS 3 sc.nd (cF (SR T) hr (af (pv 1) ao)))
   (aq (bA (bL Ca (pv 3) lR (bq _))
    (au (aL (bt (af (gV gW aB) ao))))
    bG)
   (aq (bA (lS (dZ (cF (BS T) hr (af (pv 2) ao))))
    (au (aL (bt (af (gV gW aB) ao))))
    bG)
   (au (aL (bt (af (Cz (dZ (cF (Tb T) hr (af (pv 3) (af (fN uU (pv 0) aB (bq _)) (af (pv 2) ao))))) aB aB) ao))))))),?_⟩
 cb_eq
 refine⟨G,a,y,rfl,wd,hy,fun G1 H1 v s1 hv=>?_⟩
 cb_eq
 rcases hv with⟨rfl,hp⟩|⟨p,r,rfl,hp,hpat⟩
 .rw[dT rfl];simp only[if_true];refine⟨by decide,pP wd q s1 ?_⟩;show _=fH (match lH y with|none=>hV|some r=>_);rw[hp];rfl
 .rw[dF (fun z=>by cases z)];simp only[aU,if_false];refine⟨G1,b,x,rfl,s1.wd,eK (s1.same wd _ _ hx),fun G2 H2 v s2 hv=>?_⟩;subst hv;have s12:=s1.trans wd s2
  cb_eq
  cases hpo:gU x with
  |none=>
   simp only[qZ,eJ,if_true];refine⟨by decide,pP wd q s12 ?_⟩;show _=fH (match lH y with|none=>hV|some r=>(match gU x with|none=>di (-2)|some p=>_));rw[hp,hpo];rfl
  |some pp=>
   simp only[nG,fc,aU,if_false]
   have hgood:(aG 47 x).all gC=J1/\x.length<=PATH:=by
    unfold gU at hpo;by_cases z:(aG 47 x).all gC=J1/\x.length<=PATH
    .exact z
    .rw[J3 z]at hpo;cases hpo
   have hpp:pp=aG 47 x:=by
    unfold gU at hpo;rw[J4 hgood]at hpo;cases hpo;rfl
   refine⟨G2,p,r,!decide ((d:Int)=0),b,x,rfl,s12.wd,hpat.mono (s2.same s1.wd),eK (s12.same wd _ _ hx),hgood.2,xy hgood.1,fun G3 H3 v s3 hv=>?_⟩;subst hv;have s13:=s12.trans wd s3
   cb_eq
   have hd:(d != 0)=!decide ((d:Int)=0):=by
    by_cases z:d=0
    .subst z;rfl
    .rw[dF (by lia)];simp[z]
   have key:∀z:Int,z=(if kN r [] (aG 47 x) (d != 0)=J1 then 1 else 0)->[V.int z]=fH (lI [] (.fits d y x)):=fun z e=>by
    show _=fH (match lH y with|none=>hV|some r=>(match gU x with|none=>di (-2)|some p=>di (if kN r [] p (d != 0)=J1 then 1 else 0)));rw[hp,hpo,hpp,e];rfl
   rw[<-hd];cases hrf:kN r [] (aG 47 x) (d != 0)with
   |true=>
    simp only[if_true];exact⟨by decide,pP wd q s13 (key 1 (by rw[hrf];rfl))⟩
   |false=>
    simp only[aU,if_false];exact⟨by decide,pP wd q s13 (key 0 (by rw[hrf];rfl))⟩
abbrev vg(s:ag):Option cZ:=(dG s).bind id
abbrev wA(A:Ad)(G:Hp)(as:List aa)(rs:List cZ):Prop:=bK (fun p r=>jj A G p r) as rs
def Xu(A:Ad):Sp:=fun vs H Q E=>∃(G:Hp)(a:aa)(rows:List ag),vs=[.ref a]/\Wd A.toCn G H/\Ft G a rows/\(∀s∈rows,s.length<=10000)/\rows.length<=10000/\
 (rows.all (fun s=>!iz s)=J1->cT A.toCn G H Q fun G' v=>∃p as,v=.ref p/\G' p=TL (.lst (as.map V.ref))/\wA A G' as (rows.filterMap vg))/\(rows.all (fun s=>!iz s)=J2->kl A G H E)
theorem Bp{G:Hp}{v:V}{s:ag}(h:jd A G v s):(v=.non/\vg s=J0)\/∃p r,v=.ref p/\vg s=TL r/\jj A G p r:=by
 unfold jd at h;unfold vg;cases e:dG s with
 |none=>rw[e]at h;exact fP h
 |some o=>
  rw[e]at h;cases o with
  |none=>exact .inl ⟨h,rfl⟩
  |some r=>
   obtain⟨p,h1,h2⟩:=h;exact .inr ⟨p,r,h1,rfl,h2⟩
theorem Ik{G:Hp}{v:V}{s:ag}{o:Option cZ}(h:match o with|none=>v=.non|some r=>∃p,v=.ref p/\jj A G p r)(e:dG s=TL o):jd A G v s:=by
 unfold jd;rw[e];cases o with
 |none=>exact h
 |some r=>exact h
theorem Tf(T:aY K mg A):Kn P w K mg base (dz P w A.fault) "patterns_of" 11 ["lines"] (Xu A):=by
 have sc:aV ["lines","patterns","line","pattern"] ["lines"] (aN Ky):=bp;refine Kn.ofF T.aaK sc (fun vs H Q E h=>?_) (fun f cdv A0 outer s0 H vs Q E hr h=>?_)
 .obtain⟨_,_,_,rfl,_⟩:=h;rfl
 obtain⟨G,a,rows,rfl,wd,⟨ras,hra,prows⟩,hrl,hrn,q,qf⟩:=h;have hlr:=bU prows
 refine⟨_,(aq (UA fY rfl sc.nd (i:=1) rfl rfl (yF rfl rfl rfl rfl) (dw (pv 0)) (own:=[("line",2)]) (fI (by kernel_rfl)) (fun _ _ _ _ _=>by exact(gN 2 sc.nd)) (fun _ _ _ _ _=>by exact jZ) (fun _ _ _ _ _ _=>by exact(iC (BX T) (hr.mono (by decide)) TK rfl (af (pv 2) ao))))
   (au (aL (ij rfl sc.nd (dw (pv 1)) (own:=[("pattern",3)]) (fI (by kernel_rfl)) (fun _ _ _ _ _=>by exact(gN 3 sc.nd)) (fun _ _ _ _ _=>by exact(oA (bL Cd (pv 3) lR (bq _)))) (fun _ _ _ _ _=>by exact(pv 3)))))),?_⟩
 cb_eq
 refine gY (ak.of (wd.sub _ _ hra)) (fun D i H'=>∃(G1:Hp)(vs:List V),Step A.toCn G H G1 H'/\ar A.toCn H G1 H' D (.lst vs)/\vs.length=i/\(rows.take i).all (fun s=>!iz s)=J1/\bK (jd A G1) vs (rows.take i)) ?_ ?_ ?_ ?_
 .intro D hD;exact⟨G,[],(Step.refl wd).new wd hD,ar.make wd (Step.refl wd) hD,rfl,by rw[eR];rfl,by rw[eR];exact .nil⟩
 .rintro D i H' _ ⟨G1,_,s1,_⟩;exact ak.of (s1.wd.sub _ _ (s1.same wd _ _ hra))
 .rintro D i v H1 hv ⟨G1,vs,s1,o1,hvl,hall,hp1⟩;obtain⟨pa,hpa,rfl⟩:=eM hv;obtain⟨s,hs,hsG⟩:=dP prows hpa;have hil:=(aK.mp hs).1
  cb_eq
  refine⟨G1,pa,s,rfl,s1.wd,s1.same wd _ _ hsG,hrl s (du hs),fun o ho G2 H2 v s2 hv=>?_,fun hf G2 H2 s2=>?_⟩
  .have s12:=s1.trans wd s2;have o2:=o1.call s2;refine⟨vs,o2.at_,by rw[hvl];exact cf (m:=10000) (by lia) (by decide),G2,vs++[v],s12.put wd o2,o2.put_,by rw[bw,hvl];rfl,?_,?_⟩
   .rw[take_snoc hs,List.all_append,hall];show(J1&&((!iz s)&&J1))=J1;unfold iz;rw[ho];rfl
   .rw[take_snoc hs];exact jV (cP (fun _ _ z=>z.mono (s2.same s1.wd)) hp1) (.cons (Ik hv ho) .nil)
  .refine qf ?_ _ _ (s1.trans wd s2);rw[List.all_eq_false];exact⟨s,du hs,by unfold iz;rw[hf];decide⟩
 .rintro D H1 ⟨G1,vs,s1,o1,hvl,hall,hp1⟩;rw[aE,hlr,cv]at hall hp1;rw[aE,hlr]at hvl
  cb_eq
  refine gY (ak.of o1.at_) (fun D2 i H'=>∃(as:List aa),Step A.toCn G H G1 H'/\ar A.toCn H G1 H' D (.lst vs)/\ar A.toCn H G1 H' D2 (.lst (as.map V.ref))/\D2≠D/\as.length<=i/\wA A G1 as ((rows.take i).filterMap vg)) ?_ ?_ ?_ ?_
  .intro D2 hD2;exact⟨[],s1.new wd hD2,o1.new_ hD2,ar.make wd s1 hD2,(fun z=>by rw[z,o1.at_]at hD2;cases hD2),aF _,by rw[eR];exact .nil⟩
  .rintro D2 i H' _ ⟨_,_,o2,_⟩;exact ak.of o2.at_
  .rintro D2 i v H2 hv ⟨as,s2,o2,d2,hne,hal,hpa⟩;obtain⟨s,hs,hline⟩:=dP hp1 hv;have hil:=(aK.mp hs).1
   cb_eq
   rw[take_snoc hs,List.filterMap_append];rcases Bp hline with⟨rfl,hr⟩|⟨p,r,rfl,hr,hpat⟩
   .rw[dT rfl];simp only[fc,aU,if_false];refine⟨as,s2,o2,d2,hne,by lia,?_⟩;rw[tq,hr,List.filterMap_nil,cD];exact hpa
   .rw[dF (fun z=>by cases z)];simp only[eJ,if_true];refine⟨_,d2.at_,by rw[aE];exact cf (m:=10000) (by lia) (by decide),as++[p],s2.put wd d2,o2.other (br hne),?_,hne,by rw[bw,dR];lia,?_⟩
    .rw[cx];exact d2.put_
    .rw[tq,hr,List.filterMap_nil];exact jV hpa (.cons hpat .nil)
  .rintro D2 H2 ⟨as,s2,o2,d2,hne,hal,hpa⟩;rw[hvl,cv]at hpa
   cb_eq
   refine q hall _ _ _ (s2.sealO wd d2 aS) ⟨D2,as,rfl,ax,cP (fun _ _ z=>z.mono (bx d2.g)) hpa⟩
theorem GU(x:ag):(pX x).isNone=(linesOf x).all (fun s=>!iz s):=by
 unfold pX;rw[Option.isNone_map];cases h:(linesOf x).findIdx? iz with
 |none=>
  have:=Nb.mp h
  symm
  rw[Option.isNone_none,gG];intro s hs;rw[this s hs];rfl
 |some i=>
  obtain⟨hi,hp,_⟩:=EI.mp h
  symm
  rw[Option.isNone_some,List.all_eq_false];exact⟨_,lb hi,by rw[hp];decide⟩
theorem rG(x:ag):jk x=J1↔(linesOf x).all (fun s=>!iz s)=J1/\(∀s∈linesOf x,s.length<=24)/\(dy x).any (·.neg)=J2/\1<=(dy x).length/\(dy x).length<=2:=by
 unfold jk;rw[GU];simp only[bD,decide_eq_true_iff]
 have e1:(linesOf x).all (fun s=>decide (s.length<=24))=J1↔∀s∈linesOf x,s.length<=24:=by
  rw[gG];exact⟨fun h s hs=>of_decide_eq_true (h s hs),fun h s hs=>dT (h s hs)⟩
 have e2:(dy x).all (fun r=>!r.neg)=J1↔(dy x).any (·.neg)=false:=by
  rw[gG,vU];constructor
  .intro h r hr z;have:=h r hr;rw[z]at this;cases this
  .intro h r hr;have:=h r hr;cases z:r.neg with
   |false=>rfl
   |true=>exact J5 z this
 rw[e1,e2]
def Xe(A:Ad):Sp:=fun vs H Q _=>∃(G:Hp)(a:aa)(x:ag),vs=[.ref a]/\Wd A.toCn G H/\G a=TL (.lst (bv x))/\
 cT A.toCn G H Q fun G' v=>∃p as rs,v=.ref p/\G' p=TL (.lst (as.map V.ref))/\wA A G' as rs/\rs=(if x.length<=64/\jk x=J1 then dy x else [])
theorem SX(T:aY K mg A):Kn P w K mg base aW "least_patterns" 12 ["text"] (Xe A):=by
 have sc:aV ["text","lines","line","patterns","pattern"] ["text"] (aN Kk):=bp;refine Kn.of T.aaw sc (fun vs H Q E h=>?_) (fun f cdv A0 outer s0 H vs Q E hr h=>?_)
 .obtain⟨_,_,_,rfl,_⟩:=h;rfl
 obtain⟨G,a,x,rfl,wd,hx,q⟩:=h
 have none_:∀{G1 H1:Hp},Step A.toCn G H G1 H1-> ¬(x.length<=64/\jk x=J1)->∀p,H1 p=J0->Q (.ref p) (ah H1 p (.lst [])):=fun s1 hno p hp=>
  q _ _ _ (s1.newI wd hp (o:=.lst []) aS) ⟨p,[],[],rfl,ax,.nil,by rw[J3 hno]⟩
 refine⟨_,(aq (bA (bL mV (cL T.Ze (pv 0)) (bC T.abz rfl) (bq _))
    (au (aL (bt ao)))
    bG)
   (aq (pS 1 sc.nd (cF (BV T) hr (af (pv 0) (af (bC T.ZN rfl) ao))))
   (aq (bA (bL mV (jX (OO rfl) (by rfl) T.aac boot_max (af (ij rfl sc.nd (dw (pv 1)) (own:=[("line",2)]) (fI (by kernel_rfl)) (fun _ _ _ _ _=>by exact(gN 2 sc.nd)) (fun _ _ _ _ _=>by exact jZ) (fun _ _ _ _ _=>by exact(jX (AK (K:=K) rfl) (by rfl) T.Ze Ai (af (pv 2) ao)))) ao)) (bC T.abA rfl) (bq _))
    (au (aL (bt ao)))
    bG)
   (aq (CF rfl rfl rfl T.Zq T.Zr (by decide) (fun _ _ _=>by exact(au (pS 3 sc.nd (Cy (Tf T) (hr.mono (by decide)) rfl (af (pv 1) ao))))) (fun _=>by exact(au (aL (bt ao)))))
   (aq (bA (PW.pt (yl (bL mV (cL T.Ze (pv 3)) (bC T.abB rfl) (bq _)) (ym (dZ (jX (ON rfl) (by rfl) T.aab boot_any (af (ij rfl sc.nd (dw (pv 3)) (own:=[("pattern",4)]) (fI (by kernel_rfl)) (fun _ _ _ _ _=>by exact(gN 4 sc.nd)) (fun _ _ _ _ _=>by exact jZ) (fun _ _ _ _ _=>by exact(sC (K:=K) rfl (pv 4) rfl))) ao))))))
    (au (aL (bt ao)))
    bG)
   (au (aL (pv 3)))))))),?_⟩
 cb_eq
 refine cy (ak.of (wd.sub _ _ hx)) ?_;rw[cY]
 cb_eq
 by_cases hl:64<x.length
 .rw[dT (by lia:(64:Int)<((x.length:Nat):Int))];simp only[if_true];exact⟨by decide,none_ (Step.refl wd) (fun z=>by lia)⟩
 rw[dF (by lia: ¬(64:Int)<((x.length:Nat):Int))];simp only[aU,if_false];refine⟨G,a,x,10,rfl,wd,eK hx,by lia,fun G1 H1 v s1 hv=>?_⟩;obtain⟨p1,rfl,hrows⟩:=hv;have hrowsL:=hrows;obtain⟨ras,hra,prows⟩:=hrows;have hlr:=bU prows;have hsl:=split_len 10 x
 cb_eq
 refine gY (ak.of (s1.wd.sub _ _ hra)) (fun D i H'=>Step A.toCn G H G1 H'/\ar A.toCn H G1 H' D (.lst (iv (((aG 10 x).take i).map eh)))) ?_ ?_ ?_ ?_
 .intro D hD;exact⟨s1.new wd hD,by rw[eR];exact ar.make wd s1 hD⟩
 .rintro D i H' _ ⟨s2,_⟩;exact ak.of (s2.wd.sub _ _ hra)
 .rintro D i v H2 hv ⟨s2,o2⟩;obtain⟨pa,hpa,rfl⟩:=eM hv;obtain⟨s,hs,hsG⟩:=dP prows hpa;have hil:=(aK.mp hs).1
  cb_eq
  refine cy (ak.of (s2.wd.sub _ _ hsG)) ?_;refine⟨_,o2.at_,?_,s2.put wd o2,?_⟩
  .rw[dO,aE,cQ];exact cf (m:=65) (by lia) (by decide)
  .rw[take_snoc hs,cx,<-iA,cY];exact o2.put_
 .rintro D H2 ⟨s2,o2⟩;rw[aE,hlr,cv]at o2
  cb_eq
  refine⟨D,((aG 10 x).map eh).map fun(n:Nat)=>(n:Int),rfl,by rw[<-pY];exact ak.of o2.at_,by rw[aE,aE];exact fG.mpr (eZ 10 x),fun m hm hle=>?_⟩;obtain⟨k,hk,rfl⟩:=bS.mp hm;obtain⟨sk,hsk,rfl⟩:=bS.mp hk
  cb_eq
  by_cases h24:24<sk.length
  .rw[dT (by lia:(24:Int)<((sk.length:Nat):Int))];simp only[if_true];exact⟨by decide,none_ s2 (fun z=>by have:=((rG x).mp z.2).2.1 sk hsk;lia)⟩
  rw[dF (by lia: ¬(24:Int)<((sk.length:Nat):Int))];simp only[aU,if_false]
  have hall24:∀s∈linesOf x,s.length<=24:=fun s hs=>by
   have:=hle _ (bS.mpr ⟨_,bS.mpr ⟨s,hs,rfl⟩,rfl⟩);lia
  simp only[CL]
  cb_eq
  simp only[CK]
  cb_eq
  refine⟨G1,p1,aG 10 x,rfl,s2.wd,hrowsL,fun s hs=>dM (hall24 s hs) (by decide),by lia,fun hok G3 H3 v s3 hv=>?_,fun hf G3 H3 s3=>?_⟩
  .obtain⟨p3,as,rfl,hp3,hpats⟩:=hv;have s23:=s2.trans wd s3;have hpats:wA A G3 as (dy x):=hpats;have hlas:=bU hpats
   have hrl:(dy x).length<=65:=by
    have:(dy x).length<=(linesOf x).length:=List.length_filterMap_le _ _;have:(linesOf x).length=(aG 10 x).length:=rfl;lia
   cb_eq
   refine cy (ak.of (s23.wd.sub _ _ hp3)) ?_;rw[aE,hlas]
   cb_eq
   by_cases h2:2<(dy x).length
   .rw[dT (by lia:(2:Int)<(((dy x).length:Nat):Int))];simp only[if_true];exact⟨by decide,none_ s23 (fun z=>by have:=((rG x).mp z.2).2.2.2.2;lia)⟩
   rw[dF (by lia: ¬(2:Int)<(((dy x).length:Nat):Int))];simp only[aU,if_false];refine gY (ak.of (s23.wd.sub _ _ hp3)) (fun D i H'=>Step A.toCn G H G3 H'/\ar A.toCn H G3 H' D (.lst ((((dy x).take i).map (·.neg)).map V.bl))) ?_ ?_ ?_ ?_
   .intro D hD;exact⟨s23.new wd hD,by rw[eR];exact ar.make wd s23 hD⟩
   .rintro D i H' _ ⟨s4,_⟩;exact ak.of (s4.wd.sub _ _ hp3)
   .rintro D i v H4 hv ⟨s4,o4⟩;obtain⟨pa,hpa,rfl⟩:=eM hv;obtain⟨r,hr,dx,m,cs,hrG,_⟩:=dP hpats hpa;have hil:=(aK.mp hr).1
    cb_eq
    refine bz (s4.wd.sub _ _ hrG) T.Zl T.ZF Cq ?_;refine⟨_,o4.at_,?_,s4.put wd o4,?_⟩
    .rw[aE,aE,cQ];exact cf (m:=65) (by lia) (by decide)
    .rw[take_snoc hr,cx,cx];exact o4.put_
   .rintro D4 H4 ⟨s4,o4⟩;rw[aE,hlas,cv]at o4
    cb_eq
    refine⟨D4,(dy x).map (·.neg),rfl,ak.of o4.at_,?_⟩
    cb_eq
    have hany:((dy x).map (·.neg)).any id=(dy x).any (·.neg):=by rw[vV];rfl
    rw[hany];cases hn:(dy x).any (·.neg)with
    |true=>
     simp only[if_true];exact⟨by decide,none_ s4 (fun z=>by have:=((rG x).mp z.2).2.2.1;rw[hn]at this;cases this)⟩
    |false=>
     simp only[aU,if_false];refine q _ _ _ s4 ⟨p3,as,_,rfl,hp3,hpats,?_⟩;by_cases h0:dy x=[]
     .rw[h0];split<;>rfl
     .rw[J4 ⟨by lia,(rG x).mpr ⟨hok,hall24,hn,fG.mpr h0,by lia⟩⟩]
  .refine⟨by decide,none_ (s2.trans wd s3) (fun z=>?_)⟩;have:=((rG x).mp z.2).1;have hf:(linesOf x).all (fun s=>!iz s)=false:=hf;rw[hf]at this;cases this
theorem OF{x:ag}{r:cZ}{cs:List MC}(h24:∀s∈linesOf x,s.length<=24)(hr:r∈dy x)(hc:iZ r.segs cs):cs.length<=28:=by
 unfold dy at hr;obtain⟨s,hs,e⟩:=lg.mp hr
 have hl:dG s=TL (TL r):=by
  cases z:dG s with
  |none=>rw[z]at e;cases e
  |some o=>rw[z]at e;have e:o=TL r:=e;rw[e]
 have:=OE hl hc;have:=h24 s hs;lia
theorem TU{a b c:Bool}{m:aa}:(lQ a b c m).lookup ("matcher":Str)=TL (.ref m):=by rfl
structure Nq(A:Ad)(G:Hp)(ma:aa)(rs:List cZ)(M:ba)(c:Nat)(Bs:List ba):Prop where
 at_:iK A G ma M
 bd:lr M c
 set:∀p S t,(S,t)∈M.from p->S<2^256
 each:bK (fun B(r:cZ)=>∃cs,iZ r.segs cs/\cs.length<=28/\jI cs B) Bs rs
 lang:∀x,fF M x↔fF jw x/\∀B∈Bs,fF B x
 len:M.steps.length<=4*29^rs.length
 cl:c<=2*30^rs.length
 ok:rs≠[]->nE M
def Xd(A:Ad):Sp:=fun vs H Q _=>∃(G:Hp)(a:aa)(x:ag),vs=[.ref a]/\Wd A.toCn G H/\G a=TL (.lst (bv x))/\yZ A G H Q (lI [] (.least x))
theorem NY(y:ag):fH (nQ 1 (y.length::y.map fun(c:UInt8)=>c.toNat))=[V.int 1,V.int (y.length:Nat)]++bv y:=by
 show V.int 1::iv (y.length::y.map fun(c:UInt8)=>c.toNat)=_;unfold iv bv;rw[cV,gH];rfl
theorem SW(T:aY K mg A):Kn P w K mg base aW "least" 13 ["text"] (Xd A):=by
 have sc:aV ["text","patterns","machine","pattern","path"] ["text"] (aN Kj):=bp;refine Kn.of T.aav sc (fun vs H Q E h=>?_) (fun f cdv A0 outer s0 H vs Q E hr h=>?_)
 .obtain⟨_,_,_,rfl,_⟩:=h;rfl
 obtain⟨G,a,x,rfl,wd,hx,q⟩:=h;have hu64:=hr.units
 refine⟨_,(aq (pS 1 sc.nd (cF (SX T) hr (af (pv 0) ao)))
   (aq (bA (bL (Tu hu64) (pv 1) (bt ao) (bq _))
    (au (aL (bt (af (gV gW aB) ao))))
    bG)
   (aq (pS 2 sc.nd (ig (Tc T) (hr.mono (by decide)) bB rfl))
   (aq (gf ff rfl (dw (pv 1)) (gN 3 sc.nd)
    (au (pS 2 sc.nd (cF (SK T) hr (af (pv 2) (af (cF (Te T) hr (af (bN (pv 3) rfl) ao)) ao))))))
   (aq (pS 4 sc.nd (cF (SY T) hr (af (pv 2) ao)))
   (aq (bA (bL Ca (pv 4) lR (bq _))
    (au (aL (bt (af aB ao))))
    bG)
   (au (aL (bb sx (bt (af aB (af (cL T.Ze (pv 4)) ao))) (pv 4)))))))))),?_⟩
 cb_eq
 refine⟨G,a,x,rfl,wd,hx,fun G1 H1 v s1 hv=>?_⟩;obtain⟨p1,as,rs,rfl,hp1,hpats,hrs⟩:=hv;have hlas:=bU hpats
 cb_eq
 refine⟨by decide,fun e2 he2=>?_⟩;have s2:=s1.new wd he2 (o:=.lst []);refine⟨p1,e2,as.map V.ref,rfl,rfl,ak.of (s2.wd.sub _ _ hp1),ak.of ax,?_⟩
 cb_eq
 have htold:lI [] (.least x)=if 64<x.length\/jk x=J2 then hV else(match Pg.least x with
  |some y=>nQ 1 (y.length::y.map fun(c:UInt8)=>c.toNat)
  |none=>di 0):=rfl
 by_cases hz:x.length<=64/\jk x=J1
 case neg=>
  rw[J3 hz]at hrs;subst hrs;cases hpats;rw[dT (by rfl)];simp only[if_true];refine⟨by decide,pP wd q s2 ?_⟩;rw[htold,J4 ?_]
  .rfl
  .by_cases z:64<x.length
   .exact .inl z
   .refine .inr ?_;cases e:jk x with
    |false=>rfl
    |true=>exact J5 ⟨by lia,e⟩ hz
 case pos=>
  rw[J4 hz]at hrs;subst hrs;obtain⟨_,h24,_,h1,h2⟩:=(rG x).mp hz.2;rw[dF (fun z=>by have:=congrArg eh z;rw[aE,hlas]at this;have:(dy x).length=0:=this;lia)];simp only[aU,if_false];refine⟨G1,rfl,s2.wd,fun G3 H3 pm s3 hpm=>?_⟩;have s13:=s2.trans wd s3;have e13:=s3.same s2.wd
  cb_eq
  refine kh (ak.of (s13.wd.sub _ _ (e13 _ _ hp1))) (fun i σ H'=>∃(x3 x4:Option V)(G4:Hp)(ma:aa)(M:ba)(c:Nat)(Bs:List ba),σ=[TL (.ref a),TL (.ref p1),TL (.ref ma),x3,x4]/\Step A.toCn G H G4 H'/\bh G1 G4/\Nq A G4 ma ((dy x).take i) M c Bs) ?_ ?_ ?_ ?_
  .refine⟨_,_,G3,pm,jw,2,[],rfl,s13,e13,?_⟩;rw[eR];exact⟨hpm,TV,fun p S t h=>TZ h,.nil,fun y=>⟨fun h=>⟨h,fun B hB=>(by cases hB)⟩,fun h=>h.1⟩,by decide,by decide,fun z=>J5 rfl z⟩
  .rintro i σ H' _ ⟨_,_,G4,_,_,_,_,_,s4,e4,_⟩;exact ak.of (s4.wd.sub _ _ (e4 _ _ hp1))
  .rintro i v σ H4 hv ⟨x3,x4,G4,ma,M,c,Bs,rfl,s4,e4,hM⟩;obtain⟨pa,hpa,rfl⟩:=eM hv;obtain⟨r,hr,hpat⟩:=dP hpats hpa;have hil:=(aK.mp hr).1;obtain⟨dx,m,cs,hrG,hmat,hcells,_⟩:=hpat.mono e4;have hcl:=OF h24 (du hr) hcells;have hMl:=hM.len;have hMc:=hM.cl;rw[cQ,mw (by lia)]at hMl hMc;have hpow:29^i<=29^1/\30^i<=30^1:=⟨kx (by decide) (by lia),kx (by decide) (by lia)⟩
   cb_eq
   refine bz (s4.wd.sub _ _ hrG) T.Zl T.ZM TU ?_;refine⟨G4,m,cs,rfl,s4.wd,hmat,by lia,fun G5 H5 pb B s5 hB hPM hf1 hs1=>?_⟩;have s45:=s4.trans wd s5;have e45:=s5.same s4.wd
   cb_eq
   have bdB:=TN hPM hf1 hs1;have hBl:B.steps.length<=29:=by rw[hPM.len];lia
   have hprod:M.steps.length*B.steps.length<=4*29^i*29:=qU hMl hBl;have hprodc:c*(cs.length+2)<=2*30^i*30:=qU hMc (by lia);refine⟨G5,ma,pb,M,B,c,cs.length+2,rfl,s45.wd,hM.at_.mono e45,hB,hM.bd,bdB,hM.set,by lia,by lia,fun G6 H6 pn N met s6 hN hboth hok hbdN hlenN=>?_⟩;have s46:=s45.trans wd s6
   cb_eq
   refine⟨_,_,G6,pn,N,c*(cs.length+2),Bs++[B],rfl,s46,e4.trans (e45.trans (s6.same s45.wd)),?_⟩;rw[take_snoc hr];refine⟨hN,hbdN,fun p S t h=>(hok.to p S t h).2.2,jV hM.each (.cons ⟨cs,hcells,hcl,hPM⟩ .nil),fun y=>?_,?_,?_,fun _=>hok⟩
   .rw[Os hboth y,hM.lang y];constructor
    .rintro⟨⟨z1,z2⟩,z3⟩;refine⟨z1,fun B' hB'=>?_⟩;rcases cn.mp hB' with z|z
     .exact z2 B' z
     .rw[cE.mp z];exact z3
    .rintro⟨z1,z2⟩;exact⟨⟨z1,fun B' hB'=>z2 B' (cW _ hB')⟩,z2 B (dA _ (cE.mpr rfl))⟩
   .rw[bw,cQ,mw (by lia),dR,Nat.pow_succ,<-Nat.mul_assoc];exact dM hlenN hprod
   .rw[bw,cQ,mw (by lia),dR,Nat.pow_succ,<-Nat.mul_assoc];exact hprodc
  .rintro σ H4 ⟨x3,x4,G4,ma,M,c,Bs,rfl,s4,e4,hM⟩;rw[aE,hlas,cv]at hM
   cb_eq
   have hMl:=hM.len;have hMc:=hM.cl;have hpow:29^(dy x).length<=29^2/\30^(dy x).length<=30^2:=⟨kx (by decide) (by lia),kx (by decide) (by lia)⟩;refine⟨G4,ma,M,c,rfl,s4.wd,hM.at_,hM.bd,hM.ok (fun z=>by rw[z]at h1;exact J5 h1 (by decide)),by lia,by lia,fun G5 H5 v s5 hv=>?_⟩;have s45:=s4.trans wd s5;obtain⟨r,q',hrq,hLI⟩:=HX hz.2
   have main:∀o,wH M o->o=Pg.least x:=fun o ho=>by
    have hLI2:qK r q' o:=by
     rcases hrq with⟨hr1,rfl⟩|hr1
     .have he:=hM.each;have hlang:=hM.lang;rw[hr1]at he;generalize Bs=Bs at he hlang;cases he with
      |cons h1' t=>
       cases t;obtain⟨cs,c1,c2,c3⟩:=h1';refine JM c1 c1 c3 c3 (fun y=>?_) (by lia) ho;rw[hlang y];exact⟨fun⟨z1,z2⟩=>⟨z1,z2 _ dI,z2 _ dI⟩,fun⟨z1,z2,z3⟩=>⟨z1,fun B hB=>by rw[cE.mp hB];exact z2⟩⟩
     .have he:=hM.each;have hlang:=hM.lang;rw[hr1]at he;cases he with
      |cons h1' t=>
       cases t with
       |cons h2' t=>
        cases t;obtain⟨cs,c1,c2,c3⟩:=h1';obtain⟨ds,d1,d2,d3⟩:=h2';refine JM c1 d1 c3 d3 (fun y=>?_) (by lia) ho;rw[hlang y];refine⟨fun⟨z1,z2⟩=>⟨z1,z2 _ dI,z2 _ (bX _ dI)⟩,fun⟨z1,z2,z3⟩=>⟨z1,fun B hB=>?_⟩⟩;rcases bg.mp hB with rfl|hB
        .exact z2
        .rw[cE.mp hB];exact z3
    exact QP hLI2 hLI
   have hnot: ¬(64<x.length\/jk x=J2):=fun z=>by
    rcases z with z|z
    .lia
    .rw[hz.2]at z;cases z
   cb_eq
   rcases hv with⟨rfl,hno⟩|⟨pr,row,rfl,hpr,hrow⟩
   .rw[dT rfl];simp only[if_true];refine⟨by decide,pP wd q s45 ?_⟩;rw[htold,J3 hnot,<-main J0 hno];rfl
   .rw[dF (fun z=>by cases z)];simp only[aU,if_false];refine cy (ak.of (s45.wd.sub _ _ hpr)) ?_;rw[cY];refine⟨by decide,fun p6 hp6=>?_⟩;have s6:=s45.new wd hp6 (o:=.lst [V.int 1,V.int (row.length:Nat)])
    have hl:row.length<=16000000:=by
     have h:=hLI;rw[<-main (TL row) hrow]at h;have h:row.length<=PATH:=h.2;exact dM h (by decide)
    refine sU ax (s6.wd.sub _ _ hpr) ?_ (pP wd q s6 ?_)
    .rw[cY];have:(16000002:Nat)<=aZ:=by decide
     show 2+row.length<=aZ;lia
    .rw[htold,J3 hnot,<-main (TL row) hrow];exact(NY row).symm
theorem BM{A:Cn}{C dx ld ll:aa}{n:Nat}:fU A (.ins C dx (jx ld n ll)):=uN (by show TL ("directory":Str)≠TL "cells";decide +kernel)
def WJ:Ad->Sp:=fun A vs H Q _=>∃(x dx ld ll:aa)(n:Nat),vs=[.ref x,.ref ld,.int n,.ref ll]/\H x=TL (.ins A.plist dx [])/\Q .non (ah H x (.ins A.plist dx (jx ld n ll)))
theorem Sw(T:aY K mg A):fE P w K mg base aW A.plist "PatternList" 1 ["self","directory","size","lines"] (WJ A):=by
 have sc:aV ["self","directory","size","lines"] ["self","directory","size","lines"] (aN Dg):=bp;refine fE.of T.aa7 sc (fun vs H Q E h=>?_) (fun f cdv A0 outer s H vs Q E hr h=>?_)
 .obtain⟨_,_,_,_,_,rfl,_⟩:=h;rfl
 obtain⟨x,dx,ld,ll,n,rfl,h1,q⟩:=h
 refine⟨_,(aq (fj (pv 0) (pv 1) rfl)
   (aq (fj (pv 0) (pv 2) rfl)
   (au (fj (pv 0) (pv 3) rfl)))),?_⟩
 cb_eq
 refine fq h1 T.Zm T.ZD (by decide) ?_
 cb_eq
 refine fq ax T.Zm T.ZT qc ?_
 cb_eq
 refine fq ax T.Zm T.ZE uF ?_;rw[gX,gX];exact q
def Xr(A:Ad):Sp:=fun vs H Q _=>∃(G:Hp)(p:aa)(l:bE)(dx ld ll:aa)(lv:List V),vs=[.ref p]/\Wd A.toCn G H/\pC A G p l dx ld ll lv/\cT A.toCn G H Q fun G' v=>v=.int (rD l:Nat)
theorem Qu{G:Hp}{v:V}{s:ag}(h:jd A G v s):decide (v=.non)=!isRule s:=by
 unfold isRule;rcases Bp h with⟨rfl,e⟩|⟨p,r,rfl,e,_⟩
 .rw[dT rfl,show(dG s).bind id=J0 from e];rfl
 .rw[dF (fun z=>by cases z),show(dG s).bind id=TL r from e];rfl
theorem Sx(T:aY K mg A):cK P w K mg base aW A.plist "pattern_count" 1 ["self"] (Xr A):=by
 have sc:aV ["self","line"] ["self"] (aN Dh):=bp;refine cK.of T.abg sc (fun vs H Q E h=>?_) (fun f cdv A0 outer s0 H vs Q E hr h=>?_)
 .obtain⟨_,_,_,_,_,_,_,rfl,_⟩:=h;rfl
 obtain⟨G,p,l,dx,ld,ll,lv,rfl,wd,hPL,q⟩:=h;have hlv:=bU hPL.each;have hll:=Rb l.text;have htl:=hPL.tlen;refine⟨_,(au (aL (cL T.Ze (ij rfl sc.nd (dw (bN (pv 0) rfl)) (own:=[("line",1)]) (fI (by kernel_rfl)) (fun _ _ _ _ _=>by exact(gN 1 sc.nd)) (fun _ _ _ _ _=>by exact(oA (bL Cd (pv 1) lR (bq _)))) (fun _ _ _ _ _=>by exact(pv 1)))))),?_⟩
 cb_eq
 refine bz (wd.sub _ _ hPL.at_) T.Zm T.ZE CC ?_;refine gY (ak.of (wd.sub _ _ hPL.lines)) (fun D i H'=>∃vs:List V,Step A.toCn G H G H'/\ar A.toCn H G H' D (.lst vs)/\vs.length=(((linesOf l.text).take i).filter isRule).length) ?_ ?_ ?_ ?_
 .intro D hD;exact⟨[],(Step.refl wd).new wd hD,ar.make wd (Step.refl wd) hD,by rw[eR];rfl⟩
 .rintro D i H' _ ⟨_,s1,_⟩;exact ak.of (s1.wd.sub _ _ hPL.lines)
 .rintro D i v H1 hv ⟨vs,s1,o1,hl⟩;obtain⟨s,hs,hLi⟩:=dP hPL.each hv;have hil:=(aK.mp hs).1
  cb_eq
  rw[Qu hLi,take_snoc hs,qN,kZ,pf];cases hr:isRule s with
  |true=>
   simp only[fc,eJ,if_true];refine⟨_,o1.at_,?_,vs++[v],s1.put wd o1,o1.put_,by rw[bw,bw,hl];rfl⟩;rw[hl];have:=pj isRule ((linesOf l.text).take i);rw[cQ]at this;exact cf (m:=10000) (by lia) (by decide)
  |false=>
   simp only[eJ,fc,aU,if_false];exact⟨vs,s1,o1,by rw[cD];exact hl⟩
 .rintro D H1 ⟨vs,s1,o1,hl⟩;rw[hlv,cv]at hl
  cb_eq
  refine cy (ak.of o1.at_) ?_;rw[hl];exact q _ _ _ s1 rfl
def XF(A:Ad):Sp:=fun vs H Q _=>∃(G:Hp)(p:aa)(r:cZ),vs=[.ref p]/\Wd A.toCn G H/\jj A G p r/\Q (.int (wO r)) H
theorem To(T:aY K mg A):Kn P w K mg base aW "rule_number" 1 ["pattern"] (XF A):=by
 have sc:aV ["pattern","number"] ["pattern"] (aN KL):=bp;refine Kn.of T.aaW sc (fun vs H Q E h=>?_) (fun f cdv A0 outer s0 H vs Q E hr h=>?_)
 .obtain⟨_,_,_,rfl,_⟩:=h;rfl
 obtain⟨G,p,r,rfl,wd,⟨dx,m,cs,hp,_⟩,q⟩:=h;unfold wO at q
 refine⟨_,(aq (pS 1 sc.nd aB)
   (aq (bA (dZ (bN (pv 0) rfl))
    (au (uX (i:=1) sc.nd rfl (by first|exact Or.inl rfl|exact lz rfl) aB xG))
    bG)
   (aq (bA (dZ (bN (pv 0) rfl))
    (au (uX (i:=1) sc.nd rfl (by first|exact Or.inl rfl|exact lz rfl) aB xG))
    bG)
   (aq (bA (dZ (bN (pv 0) rfl))
    (au (uX (i:=1) sc.nd rfl (by first|exact Or.inl rfl|exact lz rfl) aB xG))
    bG)
   (au (aL (pv 1))))))),?_⟩
 cb_eq
 refine bz (wd.sub _ _ hp) T.Zl T.ZF Cq ?_
 cb_eq
 have third:∀z:Int,(z=1+(if r.neg=J1 then 2 else 0)+(if r.dirs=J1 then 4 else 0))->sZ K "anchored" (.ref p) H fun x H'=>∃k,x=.bl k/\if k=J1 then sM 1 (tC (.int 8)) (oh fun i j=>i+j) {nx:=vA (kf 1) {nx:=fun _ H'=>Q .non H',rt:=Q},rt:=Q} [TL (.ref p),TL (.int z)] H' else Q (.int z) H':=fun z hz=>by
  refine bz (wd.sub _ _ hp) T.Zl T.ZU TQ ?_;refine⟨_,rfl,?_⟩;subst hz;cases ha:r.anchored with
  |true=>
   rw[ha]at q;simp only[if_true]at q⊢;refine vH rfl ?_
   cb_eq
   exact q
  |false=>
   rw[ha]at q;simp only[aU,if_false,Int.add_zero]at q⊢;exact q
 have second:∀z:Int,(z=1+(if r.neg=J1 then 2 else 0))->sZ K "for_directories" (.ref p) H fun x H'=>∃k,x=.bl k/\if k=J1 then sM 1 (tC (.int 4)) (oh fun i j=>i+j) {nx:=DS (DQ (DT (yH K (kf 0) "anchored")) (sM 1 (tC (.int 8)) (oh fun i j=>i+j)) DR) (vA (kf 1)) {nx:=fun _ H'=>Q .non H',rt:=Q},rt:=Q} [TL (.ref p),TL (.int z)] H'
   else sZ K "anchored" (.ref p) H' fun x H'=>∃k,x=.bl k/\if k=J1 then sM 1 (tC (.int 8)) (oh fun i j=>i+j) {nx:=vA (kf 1) {nx:=fun _ H'=>Q .non H',rt:=Q},rt:=Q} [TL (.ref p),TL (.int z)] H' else Q (.int z) H':=fun z hz=>by
  refine bz (wd.sub _ _ hp) T.Zl T.ZL Jq ?_;refine⟨_,rfl,?_⟩;cases hd:r.dirs with
  |true=>
   simp only[if_true];refine vH rfl ?_
   cb_eq
   have:=third (z+4) (by rw[hd,hz];rfl);exact this
  |false=>
   simp only[aU,if_false];exact third z (by rw[hd,hz];simp)
 cases hn:r.neg with
 |true=>
  simp only[if_true];refine vH rfl ?_
  cb_eq
  exact second 3 (by rw[hn];rfl)
 |false=>
  simp only[aU,if_false];exact second 1 (by rw[hn];rfl)
def WZ(A:Ad):Sp:=fun vs H Q _=>∃(G:Hp)(la:aa)(as:List aa)(ls:List bE),vs=[.ref la]/\Wd A.toCn G H/\H la=TL (.lst (as.map V.ref))/\lj A G as ls/\ls.length<=1000/\cT A.toCn G H Q fun G' v=>v=.bl (rC ls)
theorem LR(l:List Nat):(l.map fun(n:Nat)=>(n:Int)).sum=((l.sum:Nat):Int):=by
 induction l with
 |nil=>rfl
 |cons a t ih=>rw[cV,jh,jh,ih];lia
theorem SS(T:aY K mg A):Kn P w K mg base aW "have_room" 2 ["lists"] (WZ A):=by
 have sc:aV ["lists","patterns","pattern_list","size"] ["lists"] (aN Ke):=bp;refine Kn.of T.aaq sc (fun vs H Q E h=>?_) (fun f cdv A0 outer s0 H vs Q E hr h=>?_)
 .obtain⟨_,_,_,_,rfl,_⟩:=h;rfl
 obtain⟨G,la,as,ls,rfl,wd,hla,hLs,hln,q⟩:=h;have hlas:=bU hLs
 refine⟨_,(aq (pS 1 sc.nd (jX (Gu rfl) (by rfl) T.ZR boot_sum (af (ij rfl sc.nd (dw (pv 0)) (own:=[("pattern_list",2)]) (fI (by kernel_rfl)) (fun _ _ _ _ _=>by exact(gN 2 sc.nd)) (fun _ _ _ _ _=>by exact jZ) (fun _ _ _ _ _=>by exact(il (pv 2) T.Zm (Sx T) (hr.mono (by decide)) bB))) ao)))
   (aq (pS 3 sc.nd (jX (Gu rfl) (by rfl) T.ZR boot_sum (af (ij rfl sc.nd (dw (pv 0)) (own:=[("pattern_list",2)]) (fI (by kernel_rfl)) (fun _ _ _ _ _=>by exact(gN 2 sc.nd)) (fun _ _ _ _ _=>by exact jZ) (fun _ _ _ _ _=>by exact(sC (K:=K) rfl (pv 2) rfl))) ao)))
   (au (aL (Cw (fN Cb (cL T.Ze (pv 0)) (bC T.abC rfl) (bq _)) (Cw (fN Cb (pv 1) (bC T.abE rfl) (bq _)) (CA (fN Cb (pv 3) (bC T.abx rfl) (bq _))))))))),?_⟩
 cb_eq
 refine gY (ak.of hla) (fun D i H'=>∃G1,Step A.toCn G H G1 H'/\ar A.toCn H G1 H' D (.lst (iv ((ls.take i).map rD)))) ?_ ?_ ?_ ?_
 .intro D hD;exact⟨G,(Step.refl wd).new wd hD,by rw[eR];exact ar.make wd (Step.refl wd) hD⟩
 .rintro D i H' _ ⟨G1,s1,_⟩;exact ak.of (s1.keepL wd hla)
 .rintro D i v H1 hv ⟨G1,s1,o1⟩;obtain⟨pa,hpa,rfl⟩:=eM hv;obtain⟨l,hl,dx,ld,ll,lv,hPL⟩:=dP hLs hpa;have hil:=(aK.mp hl).1;have hPL1:=hPL.mono (s1.same wd)
  cb_eq
  refine eO (s1.wd.sub _ _ hPL1.at_) (by rfl) ?_;refine⟨G1,pa,l,dx,ld,ll,lv,rfl,s1.wd,hPL1,fun G2 H2 v s2 hv=>?_⟩;subst hv;have s12:=s1.trans wd s2;have o2:=o1.call s2;refine⟨_,o2.at_,?_,G2,s12.put wd o2,?_⟩
  .rw[dO,aE,cQ];exact cf (m:=1000) (by lia) (by decide)
  .rw[take_snoc hl,cx,<-iA];exact o2.put_
 .rintro D H1 ⟨G1,s1,o1⟩;rw[aE,hlas,cv]at o1
  cb_eq
  refine⟨D,(ls.map rD).map fun(n:Nat)=>(n:Int),rfl,by rw[<-pY];exact ak.of o1.at_,?_⟩;rw[LR]
  cb_eq
  have hLs1:=hLs.mono (s1.same wd);refine gY (ak.of (s1.keepL wd hla)) (fun D2 i H'=>Step A.toCn G H G1 H'/\ar A.toCn H G1 H' D2 (.lst (iv ((ls.take i).map fun(l:bE)=>(aD l.dir).length+l.text.length)))) ?_ ?_ ?_ ?_
  .intro D2 hD2;exact⟨s1.new wd hD2,by rw[eR];exact ar.make wd s1 hD2⟩
  .rintro D2 i H' _ ⟨s2,_⟩;exact ak.of (s2.keepL wd hla)
  .rintro D2 i v H2 hv ⟨s2,o2⟩;obtain⟨pa,hpa,rfl⟩:=eM hv;obtain⟨l,hl,dx,ld,ll,lv,hPL⟩:=dP hLs1 hpa;have hil:=(aK.mp hl).1
   cb_eq
   refine bz (s2.wd.sub _ _ hPL.at_) T.Zm T.ZT Uv ?_;refine⟨_,o2.at_,?_,s2.put wd o2,?_⟩
   .rw[dO,aE,cQ];exact cf (m:=1000) (by lia) (by decide)
   .rw[take_snoc hl,cx,<-iA];exact o2.put_
  .rintro D2 H2 ⟨s2,o2⟩;rw[aE,hlas,cv]at o2
   cb_eq
   refine⟨D2,(ls.map fun(l:bE)=>(aD l.dir).length+l.text.length).map fun(n:Nat)=>(n:Int),rfl,by rw[<-pY];exact ak.of o2.at_,?_⟩;rw[LR]
   cb_eq
   refine cy (ak.of (s2.keepL wd hla)) ?_;rw[aE,hlas]
   cb_eq
   have e1:decide (((ls.length:Nat):Int)<=16)=decide (ls.length<=16):=by
    by_cases z:ls.length<=16
    .rw[dT z,dT (by lia)]
    .rw[dF z,dF (by lia)]
   have e2:decide ((((ls.map rD).sum:Nat):Int)<=64)=decide ((ls.map rD).sum<=64):=by
    by_cases z:(ls.map rD).sum<=64
    .rw[dT z,dT (by lia)]
    .rw[dF z,dF (by lia)]
   have e3:decide ((((ls.map fun(l:bE)=>(aD l.dir).length+l.text.length).sum:Nat):Int)<=2048)=decide ((ls.map fun(l:bE)=>(aD l.dir).length+l.text.length).sum<=2048):=by
    by_cases z:(ls.map fun(l:bE)=>(aD l.dir).length+l.text.length).sum<=2048
    .rw[dT z,dT (by lia)]
    .rw[dF z,dF (by lia)]
   rw[e1,e2,e3];have fin:=fun v hv=>q _ _ v s2 hv;unfold rC at fin;by_cases z1:ls.length<=16
   .rw[dT z1]at fin⊢;simp only[if_true,ze]at fin⊢;by_cases z2:(ls.map rD).sum<=64
    .rw[dT z2]at fin⊢;simp only[if_true,ze]at fin⊢;exact fin _ rfl
    .rw[dF z2]at fin⊢;simp only[aU,if_false,vJ]at fin⊢;exact fin _ rfl
   .rw[dF z1]at fin⊢;simp only[aU,if_false,vJ]at fin⊢;exact fin _ rfl
theorem Cf{A:Cn}{G He G1 H1:Hp}(wd:Wd A G He)(s:Step A G He G1 H1){m:aa}{o1:HO}(x:ar A He G1 H1 m o1):
  ∃Hb,H1=ah Hb m o1/\Hb m=J0/\Step A G He G1 Hb/\∀q o,ar A He G1 H1 q o->q≠m->ar A He G1 Hb q o:=by
 obtain⟨Ha,e1,h1,sa⟩:=x.open_ wd s;refine⟨Ha,e1,h1,sa,fun q o z hm=>⟨z.new,z.g,z.nc,?_⟩⟩;have:=z.at_;rw[e1,aO hm]at this;exact this
def yD(la:aa):List (Str×V):=[("lists",.ref la)]
abbrev lV(A:Ad)(dx la:aa):HO:=.ins A.store dx (yD la)
theorem qx{la:aa}:(yD la).lookup ("lists":Str)=TL (.ref la):=by rfl
structure dE(A:Ad)(He G H:Hp)(st dx la:aa)(as:List aa)(ls:List bE):Prop where
 os:ar A.toCn He G H st (lV A dx la)
 ol:ar A.toCn He G H la (.lst (as.map V.ref))
 ne:st≠la
 at_:lj A G as ls
 le:ls.length<=16
theorem dE.call{He G H G1 H1:Hp}{st dx la:aa}{as:List aa}{ls:List bE}(h:dE A He G H st dx la as ls)(wd:Wd A.toCn G H)(s:Step A.toCn G H G1 H1):dE A He G1 H1 st dx la as ls:=
 ⟨h.os.call s,h.ol.call s,h.ne,h.at_.mono (s.same wd),h.le⟩
theorem dE.re{He He' G H:Hp}{st dx la:aa}{as:List aa}{ls:List bE}(h:dE A He G H st dx la as ls)(h1:He' st=J0)(h2:He' la=J0):dE A He' G H st dx la as ls:=⟨h.os.re h1,h.ol.re h2,h.ne,h.at_,h.le⟩
def WL(A:Ad):Sp:=fun vs H Q _=>∃(G H1:Hp)(x dx:aa),vs=[.ref x]/\H=ah (ah H1 dx (.own x)) x (.ins A.store dx [])/\H1 x=J0/\H1 dx=J0/\dx≠x/\Wd A.toCn G H1/\
 ∀H' la,Step A.toCn G H1 G H'->dE A H1 G H' x dx la [] []->Q .non H'
theorem SA(T:aY K mg A):fE P w K mg base aW A.store "Store" 1 ["self"] (WL A):=by
 have sc:aV ["self"] ["self"] (aN Dr):=bp;refine fE.of T.aa9 sc (fun vs H Q E h=>?_) (fun f cdv A0 outer s0 H vs Q E hr h=>?_)
 .obtain⟨_,_,_,_,rfl,_⟩:=h;rfl
 obtain⟨G,H1,x,dx,rfl,rfl,hx,hdx,hne,wd,q⟩:=h;have s1:Step A.toCn G H1 G (ah H1 dx (.own x)):=(Step.refl wd).new wd hdx;have hx1:ah H1 dx (.own x) x=none:=by rw[aO (br hne)];exact hx
 have s2:=s1.new wd hx1 (o:=.ins A.store dx []);have o2:=ar.make wd s1 hx1 (o:=.ins A.store dx []);refine⟨_,(au (fj (pv 0) (bt ao) rfl)),?_⟩
 cb_eq
 refine⟨by decide,fun ml hml=>?_⟩;have s3:=s2.new wd hml (o:=.lst []);have o3:=o2.new_ hml (o':=.lst []);have om3:=ar.make wd s2 hml (o:=.lst []);refine fq o3.at_ T.Zi T.Zn (by decide) ?_;have hxm:x≠ml:=mS o3.at_ om3.at_ (by intro z;cases z);exact q _ ml (s3.put wd o3) ⟨o3.put_,om3.other (br hxm),hxm,.nil,by decide⟩
def mG(A:Ad)(G H0 H:Hp)(st dx la:aa)(as:List aa)(ls:List bE):Prop:=H=ah (ah H0 st (lV A dx la)) la (.lst (as.map V.ref))/\H0 st=J0/\H0 la=J0/\st≠la/\Wd A.toCn G H0/\lj A G as ls/\ls.length<=16
theorem mG.start{G H0 H:Hp}{st dx la:aa}{as:List aa}{ls:List bE}(h:mG A G H0 H st dx la as ls):Step A.toCn G H0 G H/\dE A H0 G H st dx la as ls:=by
 obtain⟨rfl,h1,h2,h3,wd,h4,h5⟩:=h;have s1:=(Step.refl wd).new wd h1 (o:=lV A dx la);have o1:=ar.make wd (Step.refl wd) h1 (o:=lV A dx la);have h2':ah H0 st (lV A dx la) la=none:=by rw[aO (br h3)];exact h2
 exact⟨s1.new wd h2',o1.new_ h2',ar.make wd s1 h2',h3,h4,h5⟩
theorem dE.open_{He G G1 H1:Hp}{st dx la:aa}{as:List aa}{ls:List bE}(wd:Wd A.toCn G He)(s:Step A.toCn G He G1 H1)(h:dE A He G1 H1 st dx la as ls):
  ∃Hb,mG A G1 Hb H1 st dx la as ls/\Step A.toCn G He G1 Hb/\∀q o,ar A.toCn He G1 H1 q o->q≠st->q≠la->ar A.toCn He G1 Hb q o:=by
 obtain⟨Hb,e1,h1,h2,sb,hoth⟩:=ye wd s h.os h.ol h.ne;exact⟨Hb,⟨e1,h1,h2,h.ne,sb.wd,h.at_,h.le⟩,sb,hoth⟩
def Xh(A:Ad):Sp:=fun vs H Q _=>∃(G H0:Hp)(st dx la:aa)(as:List aa)(ls:List bE),vs=[.ref st]/\mG A G H0 H st dx la as ls/\
 ∀G' H' p,Step A.toCn G H0 G' H'->dE A H0 G' H' st dx la as ls->G' p=TL (.lst (fH (lI ls .lists)))->Q (.ref p) H'
theorem SE(T:aY K mg A):cK P w K mg base aW A.store "list_count" 1 ["self"] (Xh A):=by
 have sc:aV ["self"] ["self"] (aN Ds):=bp;refine cK.of T.abn sc (fun vs H Q E h=>?_) (fun f cdv A0 outer s0 H vs Q E hr h=>?_)
 .obtain⟨_,_,_,_,_,_,_,rfl,_⟩:=h;rfl
 obtain⟨G,H0,st,dx,la,as,ls,rfl,hop,q⟩:=h;have wd:Wd A.toCn G H0:=hop.2.2.2.2.1;obtain⟨s1,t1⟩:=hop.start;refine⟨_,(au (aL (bt (af (cL T.Ze (bN (pv 0) rfl)) ao)))),?_⟩
 cb_eq
 refine bz t1.os.at_ T.Zi T.Zn qx ?_;refine cy (ak.of t1.ol.at_) ?_;rw[aE,bU t1.at_];refine⟨by decide,fun p hp=>?_⟩;have s2:=s1.newI wd hp (o:=.lst [.int (ls.length:Nat)]) aS;refine q _ _ p s2 ⟨t1.os.newI s1.wd hp aS,t1.ol.newI s1.wd hp aS,t1.ne,t1.at_.mono (bx (s1.wd.noG hp)),t1.le⟩ ax
theorem jy{G H0 G1 H1:Hp}{st dx la:aa}{as:List aa}{ls:List bE}{xs:List V}{Q:VK}(wd:Wd A.toCn G H0)(s:Step A.toCn G H0 G1 H1)(t:dE A H0 G1 H1 st dx la as ls){a:wN}
  (q:∀G' H' p,Step A.toCn G H0 G' H'->dE A H0 G' H' st dx la as ls->G' p=TL (.lst (fH a))->Q (.ref p) H')(e:xs=fH a):∀p,H1 p=J0->Q (.ref p) (ah H1 p (.lst xs)):=fun p hp=>by
 subst e;exact q _ _ p (s.newI wd hp aS) ⟨t.os.newI s.wd hp aS,t.ol.newI s.wd hp aS,t.ne,t.at_.mono (bx (s.wd.noG hp)),t.le⟩ ax
def WT(A:Ad):Sp:=fun vs H Q _=>∃(G H0:Hp)(st dx la:aa)(as:List aa)(ls:List bE)(i:Nat),vs=[.ref st,.int i]/\mG A G H0 H st dx la as ls/\
 ∀G' H' p as',Step A.toCn G H0 G' H'->dE A H0 G' H' st dx la as' (rE ls (.drop i)).1->G' p=TL (.lst (fH (rE ls (.drop i)).2))->Q (.ref p) H'
theorem Jl{α β:Type}{F:α->β->Prop}:∀{as:List α}{bs:List β}(i:Nat),bK F as bs->bK F (as.eraseIdx i) (bs.eraseIdx i)
 |_,_,i,.nil=>by rw[List.eraseIdx_nil,List.eraseIdx_nil];exact .nil
 |_,_,0,.cons _ t=>t
 |_,_,i+1,.cons r t=>.cons r (Jl i t)
theorem Iu{α β:Type}(f:α->β):∀(l:List α)(i:Nat),(l.map f).eraseIdx i=(l.eraseIdx i).map f
 | [],i=>by simp
 |a::t,0=>rfl
 |a::t,i+1=>by
  show f a::(t.map f).eraseIdx i=f a::(t.eraseIdx i).map f;rw[Iu f t i]
theorem SD(T:aY K mg A):cK P w K mg base aW A.store "drop" 1 ["self","number"] (WT A):=by
 have sc:aV ["self","number"] ["self","number"] (aN Dq):=bp;refine cK.of T.abm sc (fun vs H Q E h=>?_) (fun f cdv A0 outer s0 H vs Q E hr h=>?_)
 .obtain⟨_,_,_,_,_,_,_,_,rfl,_⟩:=h;rfl
 obtain⟨G,H0,st,dx,la,as,ls,i,rfl,hop,q⟩:=h;have wd:Wd A.toCn G H0:=hop.2.2.2.2.1;obtain⟨s1,t1⟩:=hop.start;have hlen:=bU t1.at_;have hle:=t1.le
 refine⟨_,(aq (bA (bL uT (pv 1) (cL T.Ze (bN (pv 0) rfl)) (bq _))
    (au (aL (bt (af (gV gW aB) ao))))
    bG)
   (aq (eI (eN eT PySem.F.slot_list_pop PySem.F.type_list_pop RO (bN (pv 0) rfl) (af (pv 1) ao)))
   (au (aL (bt (af aB ao)))))),?_⟩
 cb_eq
 refine bz t1.os.at_ T.Zi T.Zn qx ?_;refine cy (ak.of t1.ol.at_) ?_;rw[aE,hlen]
 cb_eq
 by_cases hi:i<ls.length
 .rw[dF (by lia: ¬((ls.length:Nat):Int)<=(i:Int))];simp only[aU,if_false];have e:rE ls (.drop i)=(ls.eraseIdx i,di 0):=by show(if i<ls.length then _ else _)=_;rw[J4 hi]
  rw[e]at q;refine bz t1.os.at_ T.Zi T.Zn qx ?_;refine⟨eP (ak.of t1.ol.at_),?_⟩
  cb_eq
  obtain⟨ai,hai⟩:∃ai,as[i]?=TL ai:=⟨_,bO (by lia)⟩;refine⟨la,as.map V.ref,i,i,.ref ai,rfl,rfl,t1.ol.at_,by lia,by lia,?_,by rw[cI,hai];rfl,?_⟩
  .rw[seqIndex_of (by lia) (by rw[aE];lia)];rfl
  rw[Iu];have s2:=s1.put wd t1.ol (o':=.lst ((as.eraseIdx i).map V.ref))
  have t2:dE A H0 G (ah (ah (ah H0 st (lV A dx la)) la (.lst (as.map V.ref))) la (.lst ((as.eraseIdx i).map V.ref))) st dx la (as.eraseIdx i) (ls.eraseIdx i):=by
   obtain⟨rfl,_⟩:=hop;exact⟨t1.os.other t1.ne,t1.ol.put_,t1.ne,Jl i t1.at_,by rw[EL hi];lia⟩
  cb_eq
  obtain⟨rfl,_⟩:=hop;exact⟨by decide,jy (a:=di 0) wd s2 t2 (fun G' H' p=>q G' H' p _) rfl⟩
 .rw[dT (by lia:((ls.length:Nat):Int)<=(i:Int))];simp only[if_true];have e:rE ls (.drop i)=(ls,hV):=by show(if i<ls.length then _ else _)=_;rw[J3 hi]
  rw[e]at q;exact⟨by decide,jy (a:=hV) wd s1 t1 (fun G' H' p=>q G' H' p _) rfl⟩
def XE(A:Ad):Sp:=fun vs H Q _=>∃(G H0:Hp)(st dx la:aa)(as:List aa)(ls:List bE)(i n:Nat),vs=[.ref st,.int i,.int n]/\mG A G H0 H st dx la as ls/\
 ∀G' H' p,Step A.toCn G H0 G' H'->dE A H0 G' H' st dx la as ls->G' p=TL (.lst (fH (lI ls (.rule i n))))->Q (.ref p) H'
theorem SF(T:aY K mg A):cK P w K mg base aW A.store "rule" 2 ["self","number","line"] (XE A):=by
 have sc:aV ["self","number","line","lines","pattern"] ["self","number","line"] (aN Dt):=bp;refine cK.of T.abo sc (fun vs H Q E h=>?_) (fun f cdv A0 outer s0 H vs Q E hr h=>?_)
 .obtain⟨_,_,_,_,_,_,_,_,_,rfl,_⟩:=h;rfl
 obtain⟨G,H0,st,dx,la,as,ls,i,n,rfl,hop,q⟩:=h;have wd:Wd A.toCn G H0:=hop.2.2.2.2.1;obtain⟨s1,t1⟩:=hop.start;have hlen:=bU t1.at_
 have htold:lI ls (.rule i n)=(match ls[i]? with
  |none=>hV
  |some l=>if n=0\/(linesOf l.text).length<n then hV else match ruleAt l.text n with
   |none=>di 0
   |some r=>di (wO r)):=rfl
 refine⟨_,(aq (bA (bL uT (pv 1) (cL T.Ze (bN (pv 0) rfl)) (bq _))
    (au (aL (bt (af (gV gW aB) ao))))
    bG)
   (aq (pS 3 sc.nd (bN (bP eX (bN (pv 0) rfl) (pv 1) (fun _ _=>rfl)) rfl))
   (aq (bA (PW.pt (yl (bL qk (pv 2) aB (bq _)) (ym (bL mV (pv 2) (cL T.Ze (pv 3)) (bq _)))))
    (au (aL (bt (af (gV gW aB) ao))))
    bG)
   (aq (pS 4 sc.nd (bP eX (pv 3) (bb sy (pv 2) aB) (fun _ _=>rfl)))
   (aq (bA (bL Ca (pv 4) lR (bq _))
    (au (aL (bt (af aB ao))))
    bG)
   (au (aL (bt (af (cF (To T) hr (af (pv 4) ao)) ao))))))))),?_⟩
 cb_eq
 refine bz t1.os.at_ T.Zi T.Zn qx ?_;refine cy (ak.of t1.ol.at_) ?_;rw[aE,hlen]
 cb_eq
 by_cases hi:i<ls.length
 case neg=>
  rw[dT (by lia:((ls.length:Nat):Int)<=(i:Int))];simp only[if_true];refine⟨by decide,jy wd s1 t1 q ?_⟩;rw[htold,hU (by lia)];rfl
 case pos=>
  rw[dF (by lia: ¬((ls.length:Nat):Int)<=(i:Int))];simp only[aU,if_false];refine bz t1.os.at_ T.Zi T.Zn qx ?_;obtain⟨l,hl⟩:∃l,ls[i]?=TL l:=⟨_,bO hi⟩;obtain⟨ai,hai,dxl,ld,ll,lv,hPL⟩:=jW t1.at_ hl;rw[hl]at htold;refine fB (ak.of t1.ol.at_) (by rw[cI,hai];rfl) ?_;refine bz (s1.wd.sub _ _ hPL.at_) T.Zm T.ZE CC ?_
  cb_eq
  have hlv:=bU hPL.each;by_cases hn0:n<1
  .rw[dT (by lia:(n:Int)<1)];simp only[if_true];refine⟨by decide,jy wd s1 t1 q ?_⟩;rw[htold];show _=fH (if n=0\/_ then _ else _);rw[J4 (.inl (by lia))];rfl
  rw[dF (by lia: ¬(n:Int)<1)];simp only[aU,if_false];refine cy (ak.of (s1.wd.sub _ _ hPL.lines)) ?_;rw[hlv]
  cb_eq
  by_cases hnl:(linesOf l.text).length<n
  .rw[dT (by lia:(((linesOf l.text).length:Nat):Int)<(n:Int))];simp only[if_true];refine⟨by decide,jy wd s1 t1 q ?_⟩;rw[htold];show _=fH (if n=0\/_ then _ else _);rw[J4 (.inr hnl)];rfl
  rw[dF (by lia: ¬(((linesOf l.text).length:Nat):Int)<(n:Int))];simp only[aU,if_false];rw[show((n:Int)-1)=((n-1:Nat):Int) by lia];obtain⟨s,hs⟩:∃s,(linesOf l.text)[n-1]?=TL s:=⟨_,bO (by lia)⟩;obtain⟨v,hv,hLi⟩:=jW hPL.each hs;refine fB (ak.of (s1.wd.sub _ _ hPL.lines)) hv ?_
  have hra:ruleAt l.text n=(dG s).bind id:=by
   unfold ruleAt;rw[hs];show(if n=0 then J0 else _)=_;rw[J3 (by lia)]
  have htold2:lI ls (.rule i n)=(match(dG s).bind id with|none=>di 0|some r=>di (wO r)):=by
   rw[htold];show(if n=0\/_ then _ else _)=_;rw[J3 (fun z=>by lia),hra]
  cb_eq
  rcases Bp hLi with⟨rfl,e⟩|⟨p,r,rfl,e,hpat⟩
  .rw[dT rfl];simp only[if_true];refine⟨by decide,jy wd s1 t1 q ?_⟩;rw[htold2,show(dG s).bind id=J0 from e];rfl
  .rw[dF (fun z=>by cases z)];simp only[aU,if_false];refine⟨G,p,r,rfl,s1.wd,hpat,?_⟩;refine⟨by decide,jy wd s1 t1 q ?_⟩;rw[htold2,show(dG s).bind id=TL r from e];rfl
theorem Js{x:ag}{p:bj}(h:gU x=TL p):p=aG 47 x/\ck p/\aD p=x/\x.length<=256:=by
 unfold gU at h;by_cases z:(aG 47 x).all gC=J1/\x.length<=PATH
 .rw[J4 z]at h;cases h;exact⟨rfl,xy z.1,lX x,z.2⟩
 .rw[J3 z]at h;cases h
def Lu(A:Ad):Sp:=fun vs H Q _=>∃(G H0:Hp)(st dx la:aa)(as:List aa)(ls:List bE)(d:Nat)(a:aa)(x:ag),vs=[.ref st,.int d,.ref a]/\mG A G H0 H st dx la as ls/\G a=TL (.lst (bv x))/\
 ∀G' H' p,Step A.toCn G H0 G' H'->dE A H0 G' H' st dx la as ls->G' p=TL (.lst (fH (lI ls (.becomes d x))))->Q (.ref p) H'
theorem NX(y:Nat×Nat×Nat):Ao y=fH (if y.1=0 then di 0 else nQ (y.1:Nat) [y.2.1,y.2.2]):=by
 unfold Ao;split<;>rfl
theorem SC(T:aY K mg A)(ok_fate:aY K mg A->Kn P w K mg base aW "fate" 9 ["lists","is_directory","path"] (Lv K A)):cK P w K mg base aW A.store "becomes" 10 ["self","is_directory","path"] (Lu A):=by
 have sc:aV ["self","is_directory","path"] ["self","is_directory","path"] (aN Do):=bp;refine cK.of T.abl sc (fun vs H Q E h=>?_) (fun f cdv A0 outer s0 H vs Q E hr h=>?_)
 .obtain⟨_,_,_,_,_,_,_,_,_,_,rfl,_⟩:=h;rfl
 obtain⟨G,H0,st,dx,la,as,ls,d,a,x,rfl,hop,hx,q⟩:=h;have wd:Wd A.toCn G H0:=hop.2.2.2.2.1;obtain⟨s1,t1⟩:=hop.start
 have htold:lI ls (.becomes d x)=(match gU x with
  |none=>hV
  |some p=>if(nI ls p (d != 0)).1=0 then di 0 else nQ ((nI ls p (d != 0)).1:Nat) [(nI ls p (d != 0)).2.1,(nI ls p (d != 0)).2.2]):=rfl
 refine⟨_,(aq (bA (lS (dZ (cF (BS T) hr (af (pv 2) ao))))
    (au (aL (bt (af (gV gW aB) ao))))
    bG)
   (au (aL (cF (ok_fate T) hr (af (bN (pv 0) rfl) (af (fN uU (pv 1) aB (bq _)) (af (pv 2) ao))))))),?_⟩
 cb_eq
 refine⟨G,a,x,rfl,s1.wd,eK hx,fun G2 H2 v s2 hv=>?_⟩;subst hv;have s12:=s1.trans wd s2;have t2:=t1.call s1.wd s2
 cb_eq
 cases hpo:gU x with
 |none=>
  simp only[qZ,eJ,if_true];refine⟨by decide,jy wd s12 t2 q ?_⟩;rw[htold,hpo];rfl
 |some p=>
  simp only[nG,fc,aU,if_false];obtain⟨_,hgp,htp,hlp⟩:=Js hpo;refine bz t2.os.at_ T.Zi T.Zn qx ?_
  have hd:(d != 0)=!decide ((d:Int)=0):=by
   by_cases z:d=0
   .subst z;rfl
   .rw[dF (by lia)];simp[z]
  refine⟨G2,la,as,ls,!decide ((d:Int)=0),a,p,rfl,s12.wd,t2.ol.at_,t2.at_,t2.le,hgp,by rw[htp];exact eK (s12.same wd _ _ hx),by rw[htp];exact hlp,fun G3 H3 v s3 hv=>?_⟩;obtain⟨e,rfl,he⟩:=hv;refine q _ _ e (s12.trans wd s3) (t2.call s12.wd s3) ?_;rw[he,htold,hpo,hd];show TL (HO.lst _)=TL (HO.lst (fH (if(nI ls p (!decide ((d:Int)=0))).1=0 then _ else _)));rw[NX]
def WM(A:Ad):Sp:=fun vs H Q _=>∃(G H0:Hp)(st dx la:aa)(as:List aa)(ls:List bE)(a b:aa)(d x:ag),vs=[.ref st,.ref a,.ref b]/\mG A G H0 H st dx la as ls/\G a=TL (.lst (bv d))/\G b=TL (.lst (bv x))/\
 ∀G' H' p la' as',Step A.toCn G H0 G' H'->dE A H0 G' H' st dx la' as' (mI ls d x).1->G' p=TL (.lst (fH (mI ls d x).2))->Q (.ref p) H'
theorem PH{x:ag}{i:Nat}{s:ag}(h:((linesOf x).take i).all (fun s=>!iz s)=J1)(hs:(linesOf x)[i]?=TL s)(hf:dG s=J0):pX x=TL (i+1):=by
 unfold pX;have hi:=(aK.mp hs)
 have e:(linesOf x).findIdx? iz=TL i:=by
  rw[EI];refine⟨hi.1,?_,fun j hj z=>?_⟩
  .rw[hi.2];unfold iz;rw[hf];rfl
  .have hm:(linesOf x)[j]'(by have:=hi.1;lia)∈(linesOf x).take i:=by
    rw[List.mem_take_iff_getElem];exact⟨j,by have:=hi.1;lia,rfl⟩
   have:=gG.mp h _ hm;rw[z]at this;cases this
 rw[e];rfl
theorem IE:∀{l:List Nat}{n:Nat},n∈l->n<=l.sum
 |a::t,n,h=>by
  rw[jh];rcases bg.mp h with rfl|h
  .lia
  .have:=IE h;lia
theorem Ot{d:ag}{a:aa}{G3 H3:Hp}{bad rest:Hp->Prop}(wd3:Wd A.toCn G3 H3)(hd:G3 a=TL (.lst (bv d)))(hbad:dirOf d=J0->∀G4 H4,Step A.toCn G3 H3 G4 H4->bad H4)
  (hrest:∀p,dirOf d=TL p->oP p->aD p=d->d.length<=256->∀G4 H4,Step A.toCn G3 H3 G4 H4->rest H4):
  if(!decide (bi d=[]))=J1 then Lw K A [.ref a] H3 (fun x H'=>∃k,x=.bl k/\if(!k)=J1 then bad H' else rest H') E0 else rest H3:=by
 by_cases h0:d=[]
 .subst h0;rw[dT (by rfl)];simp only[fc,aU,if_false];exact hrest [] rfl (.inl rfl) rfl (by decide) _ _ (Step.refl wd3)
 .have hb: ¬bi d=[]:=fun z=>h0 (List.map_eq_nil_iff.mp z);rw[dF hb];simp only[eJ,if_true];have hdo:dirOf d=gU d:=by unfold Pg.dirOf;rw[J3 h0]
  refine⟨G3,a,d,rfl,wd3,eK hd,fun G4 H4 v s4 hv=>⟨_,hv,?_⟩⟩;cases hp:gU d with
  |none=>
   simp only[qZ,eJ,if_true];exact hbad (by rw[hdo,hp]) _ _ s4
  |some p=>
   simp only[nG,fc,aU,if_false];obtain⟨_,h1,h2,h3⟩:=Js hp;exact hrest p (by rw[hdo,hp]) (.inr h1) h2 h3 _ _ s4
def Mr(K:aw)(A:Ad):L2.St->(Hp->Prop)->TS:=fun σ R=>DO (DL K "list" CH (kf 3) (vw (DP (Lz K A) R σ (vw (kf 4) kQ)) kQ))
theorem SB(T:aY K mg A):cK P w K mg base aW A.store "add" 11 ["self","directory","text"] (WM A):=by
 have sc:aV ["self","directory","text","lines","line","lists"] ["self","directory","text"] (aN Dn):=bp;refine cK.of T.abk sc (fun vs H Q E h=>?_) (fun f cdv A0 outer s0 H vs Q E hr h=>?_)
 .obtain⟨_,_,_,_,_,_,_,_,_,_,_,rfl,_⟩:=h;rfl
 obtain⟨G,H0,st,dx,la,as,ls,a,b,d,x,rfl,hop,hd,hx,q⟩:=h;have wd:Wd A.toCn G H0:=hop.2.2.2.2.1;obtain⟨s1,t1⟩:=hop.start;have hu64:=hr.units
 have hadd:mI ls d x=(match dirOf d with
  |none=>(ls,hV)
  |some p=>if 512<x.length then(ls,di (-2))else match pX x with
   |some n=>(ls,nQ (-3) [n])
   |none=>if rC (ls++[⟨p,x⟩])=J1 then(ls++[⟨p,x⟩],di (ls.length:Nat))else(ls,di (-4))):=rfl
 refine⟨_,(aq (bA (PW.pt (uZ (bL (Cc hu64) (pv 1) (bt ao) (bq _)) (va (lS (dZ (cF (BS T) hr (af (pv 1) ao)))))))
    (au (aL (bt (af (gV gW aB) ao))))
    bG)
   (aq (bA (bL mV (cL T.Ze (pv 2)) (bC T.abF rfl) (bq _))
    (au (aL (bt (af (gV gW aB) ao))))
    bG)
   (aq (pS 3 sc.nd (bt ao))
   (aq (gf ff rfl (dw (cF (BV T) hr (af (pv 2) (af (bC T.ZN rfl) ao)))) (gN 4 sc.nd)
    (au (CF (tb:=Mr K A) rfl rfl rfl T.Zq T.Zr (by decide) (fun _ _ _=>by exact(au (eI (eN eT gn gr gc (pv 3) (af (Cy (BX T) (hr.mono (by decide)) rfl (af (pv 4) ao)) ao))))) (fun _=>by exact(au (aL (bt (af (gV gW aB) (af (bb dX (jX (AK (K:=K) rfl) (by rfl) T.Ze Ai (af (pv 3) ao)) aB) ao)))))))))
   (aq (pS 5 sc.nd (bb sx (bN (pv 0) rfl) (bt (af (jY (Sw T) (hr.mono (by decide)) bB rfl (af (pv 1) (af (bb dX (cL T.Ze (pv 1)) (cL T.Ze (pv 2))) (af (pv 3) ao)))) ao))))
   (aq (bA (lS (dZ (cF (SS T) hr (af (pv 5) ao))))
    (au (aL (bt (af (gV gW aB) ao))))
    bG)
   (aq (fj (pv 0) (pv 5) rfl)
   (au (aL (bt (af (bb sy (cL T.Ze (pv 5)) aB) ao))))))))))),?_⟩
 cb_eq
 refine⟨by decide,fun e1 he1=>?_⟩;have s2:=s1.new wd he1 (o:=.lst []);have t2:dE A H0 G (ah H e1 (.lst [])) st dx la as ls:=⟨t1.os.new_ he1,t1.ol.new_ he1,t1.ne,t1.at_,t1.le⟩;refine El (ns:=bi d) (ms:=[]) (by rw[<-xb];exact ak.of (s2.wd.sub _ _ hd)) (ak.of ax) ?_
 cb_eq
 refine Ot (K:=K) (G3:=G) s2.wd hd (fun hno G4 H4 s4=>⟨by decide,?_⟩) fun p hp hpok htp hdl G4 H4 s4=>?_
 .rw[hadd,hno]at q;exact jy (a:=hV) wd (s2.trans wd s4) (t2.call s2.wd s4) (fun G' H' p=>q G' H' p la as) rfl
 rw[hp]at hadd;have s24:=s2.trans wd s4;have t4:=t2.call s2.wd s4;refine cy (ak.of (s24.wd.sub _ _ (s24.same wd _ _ hx))) ?_;rw[cY]
 cb_eq
 by_cases hl:512<x.length
 .rw[dT (by lia:(512:Int)<((x.length:Nat):Int))];simp only[if_true];have hadd:mI ls d x=(ls,di (-2)):=by rw[hadd];show(if _ then _ else _)=_;rw[J4 hl]
  rw[hadd]at q;exact⟨by decide,jy (a:=di (-2)) wd s24 t4 (fun G' H' p=>q G' H' p la as) rfl⟩
 rw[dF (by lia: ¬(512:Int)<((x.length:Nat):Int))];simp only[aU,if_false]
 have hadd:mI ls d x=(match pX x with
   |some n=>(ls,nQ (-3) [n])
   |none=>if rC (ls++[⟨p,x⟩])=J1 then(ls++[⟨p,x⟩],di (ls.length:Nat))else(ls,di (-4))):=by rw[hadd];show(if _ then _ else _)=_;rw[J3 hl]
 refine⟨by decide,fun lp hlp=>?_⟩;have s5:=s24.new wd hlp (o:=.lst []);have t5:dE A H0 G4 (ah H4 lp (.lst [])) st dx la as ls:=⟨t4.os.new_ hlp,t4.ol.new_ hlp,t4.ne,t4.at_,t4.le⟩;have o5:=ar.make wd s24 hlp (o:=.lst []);refine⟨G4,b,x,10,rfl,s5.wd,eK (s24.same wd _ _ hx),by lia,fun G6 H6 v s6 hv=>?_⟩;obtain⟨p6,rfl,ras,hra,prows⟩:=hv;have hlr:=bU prows;have hsl:=split_len 10 x;have s56:=s5.trans wd s6;have t6:=t5.call s5.wd s6;have o6:=o5.call s6;have hls:st≠lp:=fun z=>by have:=t4.os.at_;rw[z,hlp]at this;cases this
 have hll:la≠lp:=fun z=>by have:=t4.ol.at_;rw[z,hlp]at this;cases this
 refine kh (ak.of (s56.wd.sub _ _ hra)) (fun i σ H'=>∃(x4:Option V)(G7:Hp)(vs:List V),σ=[TL (.ref st),TL (.ref a),TL (.ref b),TL (.ref lp),x4,J0]/\Step A.toCn G H0 G7 H'/\bh G6 G7/\dE A H0 G7 H' st dx la as ls/\ar A.toCn H0 G7 H' lp (.lst vs)/\vs.length=i/\((linesOf x).take i).all (fun s=>!iz s)=J1/\bK (jd A G7) vs ((linesOf x).take i)) ?_ ?_ ?_ ?_
 .exact⟨_,G6,[],rfl,s56,bh.refl _,t6,o6,rfl,by rw[eR];rfl,by rw[eR];exact .nil⟩
 .rintro i σ H' _ ⟨_,G7,_,_,s7,e7,_⟩;exact ak.of (s7.wd.sub _ _ (e7 _ _ hra))
 .rintro i v σ H7 hv ⟨x4,G7,vs,rfl,s7,e7,t7,o7,hvl,hall,hp7⟩;obtain⟨pa,hpa,rfl⟩:=eM hv;obtain⟨s,hs,hsG⟩:=dP prows hpa;have hil:=(aK.mp hs).1
  have hslen:s.length<=10000:=by
   have h9:s.length<=((aG 10 x).map eh).sum:=IE (bS.mpr ⟨s,du hs,rfl⟩);lia
  cb_eq
  simp only[CL,Mr]
  cb_eq
  refine⟨eP (ak.of o7.at_),?_⟩;simp only[CK]
  cb_eq
  refine⟨G7,pa,s,rfl,s7.wd,e7 _ _ hsG,hslen,fun o ho G8 H8 v s8 hv=>?_,fun hf G8 H8 s8=>?_⟩
  .have s78:=s7.trans wd s8;have t8:=t7.call s7.wd s8;have o8:=o7.call s8;refine gh o8.at_ (by rw[hvl];exact cf (m:=10000) (by lia) (by decide)) ?_;refine⟨_,G8,vs++[v],rfl,s78.put wd o8,e7.trans (s8.same s7.wd),⟨t8.os.other hls,t8.ol.other hll,t8.ne,t8.at_,t8.le⟩,o8.put_,by rw[bw,hvl];rfl,?_,?_⟩
   .rw[take_snoc (show(linesOf x)[i]?=TL s from hs),List.all_append,hall];show(J1&&((!iz s)&&J1))=J1;unfold iz;rw[ho];rfl
   .rw[take_snoc (show(linesOf x)[i]?=TL s from hs)];exact jV (cP (fun _ _ z=>z.mono (s8.same s7.wd)) hp7) (.cons (Ik hv ho) .nil)
  .have s78:=s7.trans wd s8;have t8:=t7.call s7.wd s8;have o8:=o7.call s8;have hfa:=PH hall hs hf;refine cy (ak.of o8.at_) ?_;rw[hvl]
   cb_eq
   rw[hfa]at hadd;rw[hadd]at q;refine⟨by decide,jy (a:=nQ (-3) [i+1]) wd s78 t8 (fun G' H' p=>q G' H' p la as) ?_⟩;show _=[V.int (-3),V.int ((i+1:Nat):Int)];rfl
 .rintro σ H7 ⟨x4,G7,vs,rfl,s7,e7,t7,o7,hvl,hall,hp7⟩;rw[aE,hlr]at hall hp7 hvl;have hlx:(linesOf x).length=(aG 10 x).length:=rfl;rw[<-hlx,cv]at hall hp7
  have hfn:pX x=none:=by
   have:=GU x;rw[hall]at this;exact Nw.mp this
  rw[hfn]at hadd;have hadd:mI ls d x=if rC (ls++[⟨p,x⟩])=J1 then(ls++[⟨p,x⟩],di (ls.length:Nat))else(ls,di (-4)):=hadd
  have s7l:=s7.sealO wd o7 (aS (xs:=vs));have e7l:=bx (o:=.lst vs) o7.g;have t7l:dE A H0 (ah G7 lp (.lst vs)) H7 st dx la as ls:=⟨t7.os.seal_ o7 hls aS,t7.ol.seal_ o7 hll aS,t7.ne,t7.at_.mono e7l,t7.le⟩;have hd7:=s7l.same wd _ _ hd;have hx7:=s7l.same wd _ _ hx
  cb_eq
  refine bz t7l.os.at_ T.Zi T.Zn qx ?_;refine cy (ak.of (s7l.wd.sub _ _ hd7)) ?_;refine cy (ak.of (s7l.wd.sub _ _ hx7)) ?_;rw[cY,cY]
  cb_eq
  intro pl dxl hpl hdxl hnep;refine⟨pl,dxl,a,lp,d.length+x.length,rfl,ax,rfl,?_⟩;rw[gX];have s8:=s7l.mkI wd hpl hdxl hnep (BM (A:=A.toCn) (C:=A.plist) (dx:=dxl) (ld:=a) (ll:=lp) (n:=d.length+x.length));have e8:=bx (o:=.ins A.plist dxl (jx a (d.length+x.length) lp)) (s7l.wd.noG hpl);have sdx:=s7l.new wd hdxl (o:=.own pl);have hpl':ah H7 dxl (.own pl) pl=none:=by rw[aO (br hnep)];exact hpl
  have t8:dE A H0 (ah (ah G7 lp (.lst vs)) pl (.ins A.plist dxl (jx a (d.length+x.length) lp))) (ah (ah H7 dxl (.own pl)) pl (.ins A.plist dxl (jx a (d.length+x.length) lp))) st dx la as ls:=
   ⟨(t7l.os.new_ hdxl).newI sdx.wd hpl' BM,(t7l.ol.new_ hdxl).newI sdx.wd hpl' BM,t7l.ne,t7l.at_.mono e8,t7l.le⟩
  have hPL:pC A (ah (ah G7 lp (.lst vs)) pl (.ins A.plist dxl (jx a (d.length+x.length) lp))) pl ⟨p,x⟩ dxl a lp vs:=
   ⟨by rw[ax];show _=TL (HO.ins A.plist dxl (jx a ((aD p).length+x.length) lp));rw[htp],by show _=TL (HO.lst (bv (aD p)));rw[htp];exact e8 _ _ hd7,e8 _ _ ax,cP (fun _ _ z=>z.mono (e7l.trans e8)) hp7,hpok,by show(aD p).length<=256;rw[htp];exact hdl,by show x.length<=512;lia⟩
  generalize ah (ah G7 lp (.lst vs)) pl (.ins A.plist dxl (jx a (d.length+x.length) lp))=G8 at s8 t8 hPL;generalize ah (ah H7 dxl (.own pl)) pl (.ins A.plist dxl (jx a (d.length+x.length) lp))=H8 at s8 t8;refine⟨by decide,fun p9 hp9=>?_⟩;have s9:=s8.new wd hp9 (o:=.lst [.ref pl]);have t9:dE A H0 G8 (ah H8 p9 (.lst [.ref pl])) st dx la as ls:=⟨t8.os.new_ hp9,t8.ol.new_ hp9,t8.ne,t8.at_,t8.le⟩;have hlen:=bU t9.at_;have hle:=t9.le;refine sU t9.ol.at_ ax (by rw[aE];exact jH (cf (m:=17) (by show as.length+1<=17;lia) (by decide))) fun p10 hp10=>?_;rw[show as.map V.ref++[V.ref pl]=(as++[pl]).map V.ref by rw[cx];rfl];have s10:=s9.new wd hp10 (o:=.lst ((as++[pl]).map V.ref));have o10:=ar.make wd s9 hp10 (o:=.lst ((as++[pl]).map V.ref));have t10:dE A H0 G8 (ah (ah H8 p9 (.lst [.ref pl])) p10 (.lst ((as++[pl]).map V.ref))) st dx la as ls:=⟨t9.os.new_ hp10,t9.ol.new_ hp10,t9.ne,t9.at_,t9.le⟩;have hLs:lj A G8 (as++[pl]) (ls++[⟨p,x⟩]):=jV t10.at_ (.cons ⟨dxl,a,lp,vs,hPL⟩ .nil);have hst10:st≠p10:=fun z=>by have:=t9.os.at_;rw[z,hp10]at this;cases this
  cb_eq
  refine⟨G8,p10,as++[pl],ls++[⟨p,x⟩],rfl,s10.wd,o10.at_,hLs,by rw[bw,dR];lia,fun G11 H11 v s11 hv=>?_⟩;subst hv;have s12:=s10.trans wd s11;have t12:=t10.call s10.wd s11;have o12:=o10.call s11;have hLs12:=hLs.mono (s11.same s10.wd)
  cb_eq
  cases hfit:rC (ls++[⟨p,x⟩])with
  |false=>
   simp only[eJ,if_true];rw[hfit]at hadd;have hadd:mI ls d x=(ls,di (-4)):=hadd;rw[hadd]at q;exact⟨by decide,jy (a:=di (-4)) wd s12 t12 (fun G' H' p=>q G' H' p la as) rfl⟩
  |true=>
   simp only[fc,aU,if_false];rw[hfit]at hadd;have hadd:mI ls d x=(ls++[⟨p,x⟩],di (ls.length:Nat)):=hadd;rw[hadd]at q
   have h16:(ls++[(⟨p,x⟩:bE)]).length<=16:=by
    unfold rC at hfit;simp only[bD,decide_eq_true_iff]at hfit;exact hfit.1
   refine fq t12.os.at_ T.Zi T.Zn (by show 1<1000;decide) ?_;rw[show bW "lists" (.ref p10) (yD la)=yD p10 from rfl];have s13:=s12.put wd t12.os (o':=lV A dx p10);have t13:dE A H0 G11 (ah H11 st (lV A dx p10)) st dx p10 (as++[pl]) (ls++[⟨p,x⟩]):=⟨t12.os.put_,o12.other (br hst10),hst10,hLs12,h16⟩
   cb_eq
   refine cy (ak.of t13.ol.at_) ?_
   cb_eq
   rw[aE,bw,dR,hlen];refine⟨by decide,jy (a:=di (ls.length:Nat)) wd s13 t13 (fun G' H' p=>q G' H' p p10 _) ?_⟩;rw[show(((ls.length+1:Nat):Int)-1)=((ls.length:Nat):Int) by lia];rfl
noncomputable def kM(ca:aa)(k:Nat):List (Str×V):=[("calls",.ref ca),("place",.int k)]
abbrev eY(A:Ad)(dx ca:aa)(k:Nat):HO:=.ins A.reader dx (kM ca k)
theorem CM{ca:aa}{k:Nat}:(kM ca k).lookup ("calls":Str)=TL (.ref ca):=by rfl
theorem sF{ca:aa}{k:Nat}:(kM ca k).lookup ("place":Str)=TL (.int k):=by rfl
def WK:Ad->Sp:=fun A vs H Q _=>∃(x dx ca:aa),vs=[.ref x,.ref ca]/\H x=TL (.ins A.reader dx [])/\Q .non (ah H x (eY A dx ca 0))
theorem Sy(T:aY K mg A):fE P w K mg base aW A.reader "Reader" 1 ["self","calls"] (WK A):=by
 have sc:aV ["self","calls"] ["self","calls"] (aN Dk):=bp;refine fE.of T.aa8 sc (fun vs H Q E h=>?_) (fun f cdv A0 outer s H vs Q E hr h=>?_)
 .obtain⟨_,_,_,rfl,_⟩:=h;rfl
 obtain⟨x,dx,ca,rfl,h1,q⟩:=h
 refine⟨_,(aq (fj (pv 0) (pv 1) rfl)
   (au (fj (pv 0) aB rfl))),?_⟩
 cb_eq
 refine fq h1 T.Zf T.ZG (by decide) ?_
 cb_eq
 refine fq ax T.Zf T.Zs qc ?_;rw[gX];exact q
def WN(K:aw)(A:Ad):Sp:=fun vs H Q _=>∃(rd dx ca:aa)(k:Nat)(ns:List Int),vs=[.ref rd]/\H rd=TL (eY A dx ca k)/\ak K H ca (ns.map V.int)/\Q (.bl (decide (ns.length<=k))) H
theorem Sz(T:aY K mg A):cK P w K mg base aW A.reader "at_end" 1 ["self"] (WN K A):=by
 have sc:aV ["self"] ["self"] (aN Dj):=bp;refine cK.of T.abh sc (fun vs H Q E h=>?_) (fun f cdv A0 outer s0 H vs Q E hr h=>?_)
 .obtain⟨_,_,_,_,_,rfl,_⟩:=h;rfl
 obtain⟨rd,dx,ca,k,ns,rfl,h1,h2,q⟩:=h;refine⟨_,(au (aL (fN uT (bN (pv 0) rfl) (cL T.Ze (bN (pv 0) rfl)) (bq _)))),?_⟩
 cb_eq
 refine bz h1 T.Zf T.Zs sF ?_;refine bz h1 T.Zf T.ZG CM ?_;refine cy h2 ?_;rw[aE]
 cb_eq
 by_cases z:ns.length<=k
 .rw[dT z]at q;rw[dT (by lia)];exact q
 .rw[dF z]at q;rw[dF (by lia)];exact q
def Fq(K:aw)(A:Ad)(G H0 H:Hp)(rd dx ca:aa)(k:Nat)(ns:List Int):Prop:=H=ah H0 rd (eY A dx ca k)/\H0 rd=J0/\Wd A.toCn G H0/\ak K G ca (ns.map V.int)
def DB(K:aw)(A:Ad):Sp:=fun vs H Q _=>∃(G H0:Hp)(rd dx ca:aa)(k:Nat)(ns:List Int)(z:Int),vs=[.ref rd]/\Fq K A G H0 H rd dx ca k ns/\ns[k]?=TL z/\Q (.int z) (ah H0 rd (eY A dx ca (k+1)))
theorem qi(T:aY K mg A):cK P w K mg base aW A.reader "number" 1 ["self"] (DB K A):=by
 have sc:aV ["self"] ["self"] (aN Dl):=bp;refine cK.of T.abi sc (fun vs H Q E h=>?_) (fun f cdv A0 outer s0 H vs Q E hr h=>?_)
 .obtain⟨_,_,_,_,_,_,_,_,rfl,_⟩:=h;rfl
 obtain⟨G,H0,rd,dx,ca,k,ns,z,rfl,⟨rfl,h0,wd,hsq⟩,hz,q⟩:=h;have s2:=(Step.refl wd).new wd h0 (o:=eY A dx ca (k+1))
 refine⟨_,(aq (Jz (pv 0) aB HD)
   (au (aL (bP eX (bN (pv 0) rfl) (bb sy (bN (pv 0) rfl) aB) (fun _ _=>rfl))))),?_⟩
 cb_eq
 simp only[CS]
 cb_eq
 refine⟨rd,A.reader,dx,kM ca k,.int k,rfl,ax,T.Zf,T.Zs,sF,?_⟩
 cb_eq
 refine⟨(k:Int),1,rfl,rfl,dx,kM ca k,ax,by show 2<1000;decide,?_⟩;rw[gX];rw[show bW "place" (.int ((k:Int)+1)) (kM ca k)=kM ca (k+1)from rfl]
 cb_eq
 refine bz ax T.Zf T.ZG CM ?_;refine bz ax T.Zf T.Zs sF ?_
 cb_eq
 rw[show(((k+1:Nat):Int)-1)=((k:Nat):Int) by lia];exact fB (PP.ak.mono (K:=K) s2.wd.sub hsq) (by rw[cI,hz];rfl) q
def DF(K:aw)(A:Ad):Sp:=fun vs H Q _=>∃(G H0:Hp)(rd dx ca:aa)(k n:Nat)(ns:List Int),vs=[.ref rd]/\Fq K A G H0 H rd dx ca k ns/\ns[k]?=TL (n:Int)/\k+1+n<=ns.length/\
 ∀p,ah H0 rd (eY A dx ca (k+1+n)) p=J0->Q (.ref p) (ah (ah H0 rd (eY A dx ca (k+1+n))) p (.lst (((ns.drop (k+1)).take n).map V.int)))
theorem sv(T:aY K mg A):cK P w K mg base aW A.reader "row" 2 ["self"] (DF K A):=by
 have sc:aV ["self","length","start"] ["self"] (aN Dm):=bp;refine cK.of T.abj sc (fun vs H Q E h=>?_) (fun f cdv A0 outer s0 H vs Q E hr h=>?_)
 .obtain⟨_,_,_,_,_,_,_,_,rfl,_⟩:=h;rfl
 obtain⟨G,H0,rd,dx,ca,k,n,ns,rfl,hop,hz,hle,q⟩:=h;have hop':=hop;obtain⟨rfl,h0,wd,hsq⟩:=hop;have s2:=(Step.refl wd).new wd h0 (o:=eY A dx ca (k+1+n))
 refine⟨_,(aq (pS 1 sc.nd (il (pv 0) T.Zf (qi T) (hr.mono (by decide)) bB))
   (aq (pS 2 sc.nd (bN (pv 0) rfl))
   (aq (Jz (pv 0) (pv 1) HD)
   (au (aL (iU iV (bN (pv 0) rfl) (gd (pv 2)) (gd (bN (pv 0) rfl)))))))),?_⟩
 cb_eq
 refine eO ax (by rfl) ?_;refine⟨G,H0,rd,dx,ca,k,ns,n,rfl,hop',hz,?_⟩
 cb_eq
 refine bz ax T.Zf T.Zs sF ?_
 cb_eq
 simp only[CS]
 cb_eq
 refine⟨rd,A.reader,dx,kM ca (k+1),.int ((k+1:Nat):Int),rfl,ax,T.Zf,T.Zs,sF,?_⟩
 cb_eq
 refine⟨((k+1:Nat):Int),(n:Int),rfl,rfl,dx,kM ca (k+1),ax,by show 2<1000;decide,?_⟩;rw[gX];rw[show bW "place" (.int (((k+1:Nat):Int)+(n:Int))) (kM ca (k+1))=kM ca (k+1+n)from rfl]
 cb_eq
 refine bz ax T.Zf T.ZG CM ?_;refine bz ax T.Zf T.Zs sF ?_
 cb_eq
 refine iX (PP.ak.mono (K:=K) s2.wd.sub hsq) fun p hp=>?_;rw[ug,show k+1+n-(k+1)=n by lia,<-zF,<-vZ];exact q p hp
theorem VZ{G He G1 H1:Hp}{rd dx ca:aa}{k:Nat}{ns:List Int}{z:Int}{Q:VK}{E:XK}(wd:Wd A.toCn G He)(s:Step A.toCn G He G1 H1)(o:ar A.toCn He G1 H1 rd (eY A dx ca k))(hsq:ak K G1 ca (ns.map V.int))(hz:ns[k]?=TL z)
  (h:∀H2,Step A.toCn G He G1 H2->ar A.toCn He G1 H2 rd (eY A dx ca (k+1))->(∀q u,ar A.toCn He G1 H1 q u->q≠rd->ar A.toCn He G1 H2 q u)->Q (.int z) H2):DB K A [.ref rd] H1 Q E:=by
 obtain⟨Hb,rfl,h1,sb,hoth⟩:=Cf wd s o;refine⟨G1,Hb,rd,dx,ca,k,ns,z,rfl,⟨rfl,h1,sb.wd,hsq⟩,hz,?_⟩;have s2:=s.put wd o (o':=eY A dx ca (k+1));have o2:=o.put_ (o':=eY A dx ca (k+1));rw[gX]at s2 o2;refine h _ s2 o2 fun q u x hq=>?_;have:=x.other hq (o':=eY A dx ca (k+1));rw[gX]at this;exact this
theorem Wa{G He G1 H1:Hp}{rd dx ca:aa}{k n:Nat}{ns:List Int}{Q:VK}{E:XK}(wd:Wd A.toCn G He)(s:Step A.toCn G He G1 H1)(o:ar A.toCn He G1 H1 rd (eY A dx ca k))(hsq:ak K G1 ca (ns.map V.int))(hz:ns[k]?=TL (n:Int))(hle:k+1+n<=ns.length)
  (h:∀G2 H2 p,Step A.toCn G He G2 H2->bh G1 G2->ar A.toCn He G2 H2 rd (eY A dx ca (k+1+n))->G2 p=TL (.lst (((ns.drop (k+1)).take n).map V.int))->(∀q u,ar A.toCn He G1 H1 q u->q≠rd->ar A.toCn He G2 H2 q u)->Q (.ref p) H2):DF K A [.ref rd] H1 Q E:=by
 obtain⟨Hb,rfl,h1,sb,hoth⟩:=Cf wd s o;refine⟨G1,Hb,rd,dx,ca,k,n,ns,rfl,⟨rfl,h1,sb.wd,hsq⟩,hz,hle,fun p hp=>?_⟩;have s2:=s.put wd o (o':=eY A dx ca (k+1+n));have o2:=o.put_ (o':=eY A dx ca (k+1+n));rw[gX]at s2 o2;refine h _ _ p (s2.newI wd hp aS) (bx (s2.wd.noG hp)) (o2.newI s2.wd hp aS) ax fun q u x hq=>?_;have:=x.other hq (o':=eY A dx ca (k+1+n));rw[gX]at this;exact this.newI s2.wd hp aS
end
end PP
namespace PM
theorem uP{ns:List Int}{j:Nat}{z:Int}{r:List Int}(h:ns.drop j=z::r):ns[j]?=TL z/\r=ns.drop (j+1):=by
 constructor
 .have:=congrArg (fun l=>l[0]?) h;simp only[vW,Nat.add_zero]at this;exact this
 .have:=congrArg (List.drop 1) h;rw[fS]at this;exact this.symm
theorem sG{ns:List Int}{j:Nat}{x s:List Int}(h:rg (ns.drop j)=TL (x,s)):∃n:Nat,ns[j]?=TL (n:Int)/\j+1+n<=ns.length/\x=(ns.drop (j+1)).take n/\s=ns.drop (j+1+n):=by
 cases e:ns.drop j with
 |nil=>rw[e]at h;cases h
 |cons z r=>
  rw[e]at h;obtain⟨h1,rfl⟩:=uP e;unfold rg at h;dsimp only at h;by_cases hz:0<=z/\z.toNat<=(ns.drop (j+1)).length
  .rw[J4 hz]at h;cases h;have hj:=(aK.mp h1).1;have h2:=hz.2;rw[cM]at h2;exact⟨z.toNat,by rw[zr hz.1];exact h1,by lia,rfl,by rw[fS]⟩
  .rw[J3 hz]at h;cases h
theorem CP{r:List Int}{xs:List (List Int)}{t:List Int}(h:nJ 1 r=TL (xs,t)):∃x,rg r=TL (x,t)/\xs=[x]:=by
 unfold nJ at h;cases e:rg r with
 |none=>rw[e]at h;cases h
 |some y=>
  obtain⟨x,s⟩:=y;rw[e]at h;cases h;exact⟨x,rfl,rfl⟩
theorem JN{r:List Int}{xs:List (List Int)}{t:List Int}(h:nJ 2 r=TL (xs,t)):∃x s y,rg r=TL (x,s)/\rg s=TL (y,t)/\xs=[x,y]:=by
 unfold nJ at h;cases e:rg r with
 |none=>rw[e]at h;cases h
 |some y=>
  obtain⟨x,s⟩:=y;rw[e]at h;dsimp only at h;cases e2:nJ 1 s with
  |none=>rw[e2]at h;cases h
  |some y2=>
   obtain⟨ys,t'⟩:=y2;rw[e2]at h;cases h;obtain⟨y,h1,rfl⟩:=CP e2;exact⟨x,s,y,rfl,h1,rfl⟩
theorem DX{ns:List Int}{j:Nat}(h: ¬(ns.drop j).length<1):∃z,ns[j]?=TL z/\(ns.drop j).take 1=[z]:=by
 cases e:ns.drop j with
 |nil=>rw[e]at h;exact J5 (by decide) h
 |cons z r=>exact⟨z,(uP e).1,rfl⟩
theorem Yn{ns:List Int}{j:Nat}(h: ¬(ns.drop j).length<2):∃z y,ns[j]?=TL z/\ns[j+1]?=TL y/\(ns.drop j).take 2=[z,y]:=by
 cases e:ns.drop j with
 |nil=>rw[e]at h;exact J5 (by decide) h
 |cons z r=>
  rw[e]at h;obtain⟨h1,h2⟩:=uP e;cases r with
  |nil=>exact J5 (by simp) h
  |cons y r=>exact⟨z,y,h1,(uP h2.symm).1,rfl⟩
inductive kj(ns:List Int)(k:Nat):List (List Int)->Nat->Prop
 |add (n m:Nat):ns[k]?=TL 0->ns[k+1]?=TL (n:Int)->k+1+1+n<=ns.length->ns[k+1+1+n]?=TL (m:Int)->k+1+1+n+1+m<=ns.length->kj ns k [[0],(ns.drop (k+1+1)).take n,(ns.drop (k+1+1+n+1)).take m] (k+1+1+n+1+m)
 |drop (z:Int):ns[k]?=TL 1->ns[k+1]?=TL z->kj ns k [[1,z]] (k+1+1)
 |lists:ns[k]?=TL 2->kj ns k [[2]] (k+1)
 |becomes (z:Int) (n:Nat):ns[k]?=TL 3->ns[k+1]?=TL z->ns[k+1+1]?=TL (n:Int)->k+1+1+1+n<=ns.length->kj ns k [[3,z],(ns.drop (k+1+1+1)).take n] (k+1+1+1+n)
 |rule (z y:Int):ns[k]?=TL 4->ns[k+1]?=TL z->ns[k+1+1]?=TL y->kj ns k [[4,z,y]] (k+1+1+1)
 |fits (z:Int) (n m:Nat):ns[k]?=TL 5->ns[k+1]?=TL z->ns[k+1+1]?=TL (n:Int)->k+1+1+1+n<=ns.length->ns[k+1+1+1+n]?=TL (m:Int)->k+1+1+1+n+1+m<=ns.length->kj ns k [[5,z],(ns.drop (k+1+1+1)).take n,(ns.drop (k+1+1+1+n+1)).take m] (k+1+1+1+n+1+m)
 |least (n:Nat):ns[k]?=TL 6->ns[k+1]?=TL (n:Int)->k+1+1+n<=ns.length->kj ns k [[6],(ns.drop (k+1+1)).take n] (k+1+1+n)
theorem Gg{ns:List Int}{k:Nat}{c:List (List Int)}{t:List Int}(h:zX rl (ns.drop k)=TL (c,t)):∃k',kj ns k c k'/\t=ns.drop k':=by
 cases e:ns.drop k with
 |nil=>rw[e]at h;cases h
 |cons p r=>
  rw[e]at h;obtain⟨hp,rfl⟩:=uP e;unfold zX at h;unfold rl at h;dsimp only at h;by_cases h0:p=0
  .subst h0;rw[J4 rfl]at h;dsimp only at h;rw[J3 (by lia),tm]at h;cases e2:nJ 2 (ns.drop (k+1))with
   |none=>rw[e2]at h;cases h
   |some y=>
    obtain⟨xs,t'⟩:=y;rw[e2]at h;cases h;obtain⟨x,s,y,h1,h2,rfl⟩:=JN e2;obtain⟨n,a1,a2,rfl,rfl⟩:=sG h1;obtain⟨m,b1,b2,rfl,rfl⟩:=sG h2;exact⟨_,.add n m hp a1 a2 b1 b2,rfl⟩
  rw[J3 h0]at h;by_cases h1:p=1
  .subst h1;rw[J4 rfl]at h;dsimp only at h;by_cases hl:(ns.drop (k+1)).length<1
   .rw[J4 hl]at h;cases h
   rw[J3 hl]at h;obtain⟨z,hz,ez⟩:=DX hl;have h:TL ((1::(ns.drop (k+1)).take 1)::[],(ns.drop (k+1)).drop 1)=TL (c,t):=h;rw[ez,fS]at h;cases h;exact⟨_,.drop z hp hz,rfl⟩
  rw[J3 h1]at h;by_cases h2:p=2
  .subst h2;rw[J4 rfl]at h;dsimp only at h;rw[J3 (by lia)]at h;have h:TL ((2::(ns.drop (k+1)).take 0)::[],(ns.drop (k+1)).drop 0)=TL (c,t):=h;cases h;exact⟨_,.lists hp,rfl⟩
  rw[J3 h2]at h;by_cases h3:p=3
  .subst h3;rw[J4 rfl]at h;dsimp only at h;by_cases hl:(ns.drop (k+1)).length<1
   .rw[J4 hl]at h;cases h
   rw[J3 hl]at h;obtain⟨z,hz,ez⟩:=DX hl;rw[fS,ez]at h;cases e2:nJ 1 (ns.drop (k+1+1))with
   |none=>rw[e2]at h;cases h
   |some y=>
    obtain⟨xs,t'⟩:=y;rw[e2]at h;cases h;obtain⟨x,h1,rfl⟩:=CP e2;obtain⟨n,a1,a2,rfl,rfl⟩:=sG h1;exact⟨_,.becomes z n hp hz a1 a2,rfl⟩
  rw[J3 h3]at h;by_cases h4:p=4
  .subst h4;rw[J4 rfl]at h;dsimp only at h;by_cases hl:(ns.drop (k+1)).length<2
   .rw[J4 hl]at h;cases h
   rw[J3 hl]at h;obtain⟨z,y,hz,hy,ez⟩:=Yn hl;have h:TL ((4::(ns.drop (k+1)).take 2)::[],(ns.drop (k+1)).drop 2)=TL (c,t):=h;rw[ez,fS]at h;cases h;exact⟨_,.rule z y hp hz hy,rfl⟩
  rw[J3 h4]at h;by_cases h5:p=5
  .subst h5;rw[J4 rfl]at h;dsimp only at h;by_cases hl:(ns.drop (k+1)).length<1
   .rw[J4 hl]at h;cases h
   rw[J3 hl]at h;obtain⟨z,hz,ez⟩:=DX hl;rw[fS,ez]at h;cases e2:nJ 2 (ns.drop (k+1+1))with
   |none=>rw[e2]at h;cases h
   |some y=>
    obtain⟨xs,t'⟩:=y;rw[e2]at h;cases h;obtain⟨x,s,y,h1,h2,rfl⟩:=JN e2;obtain⟨n,a1,a2,rfl,rfl⟩:=sG h1;obtain⟨m,b1,b2,rfl,rfl⟩:=sG h2;exact⟨_,.fits z n m hp hz a1 a2 b1 b2,rfl⟩
  rw[J3 h5]at h;by_cases h6:p=6
  .subst h6;rw[J4 rfl]at h;dsimp only at h;rw[J3 (by lia),tm]at h;cases e2:nJ 1 (ns.drop (k+1))with
   |none=>rw[e2]at h;cases h
   |some y=>
    obtain⟨xs,t'⟩:=y;rw[e2]at h;cases h;obtain⟨x,h1,rfl⟩:=CP e2;obtain⟨n,a1,a2,rfl,rfl⟩:=sG h1;exact⟨_,.least n hp a1 a2,rfl⟩
  rw[J3 h6]at h;cases h
theorem Oy{ns:List Int}{k k':Nat}{c:List (List Int)}(h:kj ns k c k'):k<k'/\k'<=ns.length:=by
 cases h with
 |add n m h0 h1 h2 h3 h4=>lia
 |drop z h0 h1=>have:=(aK.mp h1).1;lia
 |lists h0=>have:=(aK.mp h0).1;lia
 |becomes z n h0 h1 h2 h3=>lia
 |rule z y h0 h1 h2=>have:=(aK.mp h2).1;lia
 |fits z n m h0 h1 h2 h3 h4 h5=>lia
 |least n h0 h1 h2=>lia
theorem su{z:Int}{b:Nat}(h:jM z b=J1):z=((Am z:Nat):Int)/\0<=z/\z<2^b:=by
 unfold jM at h;simp only[bD,decide_eq_true_iff]at h;exact⟨(zr h.1).symm,h.1,h.2⟩
end PM
namespace PP
open PySem PySem.Spec L2
open PyProof.Rows hiding St
open Pg PM
section
variable{P:aJ}{w:aH}{K:aw}{mg:Str->Option ae}{base:aA}{A:Ad}
theorem pR:∀{l:List Int},l.all (fun z=>jM z 8)=J1->l.map V.int=bv (NS l)
 | [],_=>rfl
 |z::l,h=>by
  rw[vT,bD]at h;obtain⟨h1,h2,h3⟩:=su h.1;show V.int z::l.map V.int=V.int ((kF z.toNat).toNat:Int)::bv (NS l);have hz:z.toNat<256:=by have:z<256:=h3;lia
  rw[pR h.2,wM,wj hz,zr h2]
theorem pO(a:wN):(a.ret::a.nums.map WqatafNeutral.int).map V.int=fH a:=by
 unfold fH iv;rw[cV,gH];rfl
structure Both(K:aw)(A:Ad)(He G H:Hp)(st dx la:aa)(as:List aa)(ls:List bE)(rd dxr ca:aa)(k:Nat)(ns:List Int):Prop where
 st_:dE A He G H st dx la as ls
 rd_:ar A.toCn He G H rd (eY A dxr ca k)
 sq:ak K G ca (ns.map V.int)
 n1:st≠rd
 n2:la≠rd
theorem Both.call{He G H G1 H1:Hp}{st dx la:aa}{as:List aa}{ls:List bE}{rd dxr ca:aa}{k:Nat}{ns:List Int}(h:Both K A He G H st dx la as ls rd dxr ca k ns)(wd:Wd A.toCn G H)(s:Step A.toCn G H G1 H1):Both K A He G1 H1 st dx la as ls rd dxr ca k ns:=
 ⟨h.st_.call wd s,h.rd_.call s,PP.ak.mono (K:=K) (s.same wd) h.sq,h.n1,h.n2⟩
theorem jN{G He G1 H1:Hp}{st dx la:aa}{as:List aa}{ls:List bE}{rd dxr ca:aa}{k:Nat}{ns:List Int}{z:Int}{Q:VK}{E:XK}(wd:Wd A.toCn G He)(s:Step A.toCn G He G1 H1)(b:Both K A He G1 H1 st dx la as ls rd dxr ca k ns)(hz:ns[k]?=TL z)
  (h:∀H2,Step A.toCn G He G1 H2->Both K A He G1 H2 st dx la as ls rd dxr ca (k+1) ns->Q (.int z) H2):wc A.reader "number" (.ref rd) H1 (DB K A [.ref rd] H1 Q E):=by
 refine eO b.rd_.at_ (by rfl) (VZ wd s b.rd_ b.sq hz fun H2 s2 o2 hoth=>h H2 s2 ⟨⟨hoth _ _ b.st_.os b.n1,hoth _ _ b.st_.ol b.n2,b.st_.ne,b.st_.at_,b.st_.le⟩,o2,b.sq,b.n1,b.n2⟩)
theorem rJ{G He G1 H1:Hp}{st dx la:aa}{as:List aa}{ls:List bE}{rd dxr ca:aa}{k n:Nat}{ns:List Int}{Q:VK}{E:XK}(wd:Wd A.toCn G He)(s:Step A.toCn G He G1 H1)(b:Both K A He G1 H1 st dx la as ls rd dxr ca k ns)(hz:ns[k]?=TL (n:Int))(hle:k+1+n<=ns.length)
  (h:∀G2 H2 p,Step A.toCn G He G2 H2->bh G1 G2->Both K A He G2 H2 st dx la as ls rd dxr ca (k+1+n) ns->G2 p=TL (.lst (((ns.drop (k+1)).take n).map V.int))->Q (.ref p) H2):wc A.reader "row" (.ref rd) H1 (DF K A [.ref rd] H1 Q E):=by
 refine eO b.rd_.at_ (by rfl) (Wa wd s b.rd_ b.sq hz hle fun G2 H2 p s2 e2 o2 hp hoth=>h G2 H2 p s2 e2 ⟨⟨hoth _ _ b.st_.os b.n1,hoth _ _ b.st_.ol b.n2,b.st_.ne,b.st_.at_.mono e2,b.st_.le⟩,o2,PP.ak.mono (K:=K) e2 b.sq,b.n1,b.n2⟩ hp)
def vM(K:aw)(A:Ad)(G H0 H:Hp)(st dx la:aa)(as:List aa)(ls:List bE)(rd dxr ca:aa)(k:Nat)(ns:List Int):Prop:=
 H=ah (ah (ah H0 st (lV A dx la)) la (.lst (as.map V.ref))) rd (eY A dxr ca k)/\H0 st=J0/\H0 la=J0/\H0 rd=J0/\st≠la/\st≠rd/\la≠rd/\Wd A.toCn G H0/\lj A G as ls/\ls.length<=16/\ak K G ca (ns.map V.int)
theorem vM.start{G H0 H:Hp}{st dx la:aa}{as:List aa}{ls:List bE}{rd dxr ca:aa}{k:Nat}{ns:List Int}(h:vM K A G H0 H st dx la as ls rd dxr ca k ns):Step A.toCn G H0 G H/\Both K A H0 G H st dx la as ls rd dxr ca k ns:=by
 obtain⟨rfl,h1,h2,h3,n1,n2,n3,wd,h4,h5,h6⟩:=h;obtain⟨s1,t1⟩:=mG.start (A:=A) ⟨rfl,h1,h2,n1,wd,h4,h5⟩;have h3':ah (ah H0 st (lV A dx la)) la (.lst (as.map V.ref)) rd=none:=by rw[aO (br n3),aO (br n2)];exact h3
 exact⟨s1.new wd h3',⟨⟨t1.os.new_ h3',t1.ol.new_ h3',t1.ne,t1.at_,t1.le⟩,ar.make wd s1 h3',h6,n2,n3⟩⟩
def Lr(K:aw)(A:Ad):Sp:=fun vs H Q _=>∃(G H0:Hp)(st dx la:aa)(as:List aa)(ls:List bE)(rd dxr ca:aa)(k k':Nat)(ns:List Int)(c:List (List Int)),vs=[.ref st,.ref rd]/\vM K A G H0 H st dx la as ls rd dxr ca k ns/\kj ns k c k'/\Al c=J1/\
 ∀G' H' p la' as',Step A.toCn G H0 G' H'->Both K A H0 G' H' st dx la' as' (gy ls c).1 rd dxr ca k' ns->G' p=TL (.lst ((gy ls c).2.map V.int))->Q (.ref p) H'
theorem SG(T:aY K mg A)(ok_Store_becomes:aY K mg A->cK P w K mg base aW A.store "becomes" 10 ["self","is_directory","path"] (Lu A)):Kn P w K mg base aW "answer" 14 ["store","reader"] (Lr K A):=by
 have sc:aV ["store","reader","call","directory","is_directory","number","pattern"] ["store","reader"] (aN JS):=bp;refine Kn.of T.aae sc (fun vs H Q E h=>?_) (fun f cdv A0 outer s0 H vs Q E hr h=>?_)
 .obtain⟨_,_,_,_,_,_,_,_,_,_,_,_,_,_,rfl,_⟩:=h;rfl
 obtain⟨G,H0,st,dx,la,as,ls,rd,dxr,ca,k,k',ns,c,rfl,hop,hcall,hask,q⟩:=h;have wd:Wd A.toCn G H0:=hop.2.2.2.2.2.2.2.1;have h0st:=hop.2.1;obtain⟨s1,b1⟩:=hop.start
 have after:∀{G2 H2 Hb:Hp}{k2:Nat},Step A.toCn G H0 G2 H2->Both K A H0 G2 H2 st dx la as ls rd dxr ca k2 ns->Step A.toCn G H0 G2 Hb->(∀q o,ar A.toCn H0 G2 H2 q o->q≠st->q≠la->ar A.toCn H0 G2 Hb q o)->∀{G' H' la' as' ls'},Step A.toCn G2 Hb G' H'->dE A Hb G' H' st dx la' as' ls'->
   Step A.toCn G H0 G' H'/\Both K A H0 G' H' st dx la' as' ls' rd dxr ca k2 ns:=by
  intro G2 H2 Hb k2 s2 b2 sb hoth G' H' la' as' ls' s' t';have rb:=hoth rd _ b2.rd_ (br b2.n1) (br b2.n2);exact⟨sb.trans wd s',⟨t'.re h0st (sb.free wd t'.ol.new),rb.call s',PP.ak.mono (K:=K) (s'.same sb.wd) b2.sq,b2.n1,br (dq rb.at_ t'.ol.new)⟩⟩
 refine⟨_,(aq (pS 2 sc.nd (il (pv 1) T.Zf (qi T) (hr.mono (by decide)) bB))
   (aq (bA (bL eF (pv 2) (bC T.abp rfl) (bq _))
    (aq (pS 3 sc.nd (il (pv 1) T.Zf (sv T) (hr.mono (by decide)) bB))
    (au (aL (ik (pv 0) T.Zi (SB T) (hr.mono (by decide)) bB (af (pv 3) (af (il (pv 1) T.Zf (sv T) (hr.mono (by decide)) bB) ao))))))
    bG)
   (aq (bA (bL eF (pv 2) (bC T.abr rfl) (bq _))
    (au (aL (ik (pv 0) T.Zi (SD T) (hr.mono (by decide)) bB (af (il (pv 1) T.Zf (qi T) (hr.mono (by decide)) bB) ao))))
    bG)
   (aq (bA (bL eF (pv 2) (bC T.abw rfl) (bq _))
    (au (aL (il (pv 0) T.Zi (SE T) (hr.mono (by decide)) bB)))
    bG)
   (aq (bA (bL eF (pv 2) (bC T.abq rfl) (bq _))
    (aq (pS 4 sc.nd (il (pv 1) T.Zf (qi T) (hr.mono (by decide)) bB))
    (au (aL (ik (pv 0) T.Zi (ok_Store_becomes T) (hr.mono (by decide)) bB (af (pv 4) (af (il (pv 1) T.Zf (sv T) (hr.mono (by decide)) bB) ao))))))
    bG)
   (aq (bA (bL eF (pv 2) (bC T.abJ rfl) (bq _))
    (aq (pS 5 sc.nd (il (pv 1) T.Zf (qi T) (hr.mono (by decide)) bB))
    (au (aL (ik (pv 0) T.Zi (SF T) (hr.mono (by decide)) bB (af (pv 5) (af (il (pv 1) T.Zf (qi T) (hr.mono (by decide)) bB) ao))))))
    bG)
   (aq (bA (bL eF (pv 2) (bC T.abt rfl) (bq _))
    (aq (pS 4 sc.nd (il (pv 1) T.Zf (qi T) (hr.mono (by decide)) bB))
    (aq (pS 6 sc.nd (il (pv 1) T.Zf (sv T) (hr.mono (by decide)) bB))
    (au (aL (cF (SQ T) hr (af (pv 4) (af (pv 6) (af (il (pv 1) T.Zf (sv T) (hr.mono (by decide)) bB) ao))))))))
    bG)
   (aq (bA (bL eF (pv 2) (bC T.abv rfl) (bq _))
    (au (aL (cF (SW T) hr (af (il (pv 1) T.Zf (sv T) (hr.mono (by decide)) bB) ao))))
    bG)
   (au Uy))))))))),?_⟩
 cb_eq
 cases hcall with
 |add n m c0 c1 c2 c3 c4=>
  refine jN wd s1 b1 c0 fun H2 s2 b2=>?_
  cb_eq
  simp only[decide_true,if_true,qJ,decide_false,aU,if_false]
  have hask:(((ns.drop (k+1+1)).take n).all fun z=>jM z 8)=J1/\(((ns.drop (k+1+1+n+1)).take m).all fun z=>jM z 8)=true:=by
   have h:(_&&_)=true:=hask;rw[bD]at h;exact h
  refine rJ wd s2 b2 c1 c2 fun G3 H3 p3 s3 e3 b3 hp3=>?_
  cb_eq
  refine eO b3.st_.os.at_ (by rfl) ?_;refine rJ wd s3 b3 c3 c4 fun G4 H4 p4 s4 e4 b4 hp4=>?_
  cb_eq
  obtain⟨Hb,hopb,sb,hoth⟩:=b4.st_.open_ wd s4;rw[pR hask.1]at hp3;rw[pR hask.2]at hp4;refine⟨G4,Hb,st,dx,la,as,ls,p3,p4,_,_,rfl,hopb,e4 _ _ hp3,hp4,fun G' H' p la' as' s' t' hp=>?_⟩;obtain⟨sf,bf⟩:=after s4 b4 sb hoth s' t';refine q G' H' p la' as' sf bf ?_;rw[hp,<-pO];rfl
 |drop z c0 c1=>
  refine jN wd s1 b1 c0 fun H2 s2 b2=>?_
  cb_eq
  simp only[decide_true,if_true,qJ,decide_false,aU,if_false];refine eO b2.st_.os.at_ (by rfl) ?_;refine jN wd s2 b2 c1 fun H3 s3 b3=>?_
  cb_eq
  obtain⟨hz,_,_⟩:=su (show jM z 32=J1 from hask);obtain⟨Hb,hopb,sb,hoth⟩:=b3.st_.open_ wd s3;rw[hz];refine⟨G,Hb,st,dx,la,as,ls,_,rfl,hopb,fun G' H' p as' s' t' hp=>?_⟩;obtain⟨sf,bf⟩:=after s3 b3 sb hoth s' t';refine q G' H' p la as' sf bf ?_;rw[hp,<-pO];rfl
 |lists c0=>
  refine jN wd s1 b1 c0 fun H2 s2 b2=>?_
  cb_eq
  simp only[decide_true,if_true,qJ,decide_false,aU,if_false];refine eO b2.st_.os.at_ (by rfl) ?_;obtain⟨Hb,hopb,sb,hoth⟩:=b2.st_.open_ wd s2;refine⟨G,Hb,st,dx,la,as,ls,rfl,hopb,fun G' H' p s' t' hp=>?_⟩;obtain⟨sf,bf⟩:=after s2 b2 sb hoth s' t';refine q G' H' p la as sf bf ?_;rw[hp,<-pO];rfl
 |becomes z n c0 c1 c2 c3=>
  refine jN wd s1 b1 c0 fun H2 s2 b2=>?_
  cb_eq
  simp only[decide_true,if_true,qJ,decide_false,aU,if_false]
  have hask:jM z 32=J1/\(((ns.drop (k+1+1+1)).take n).all fun z=>jM z 8)=true:=by
   have h:(_&&_)=true:=hask;rw[bD]at h;exact h
  refine jN wd s2 b2 c1 fun H3 s3 b3=>?_
  cb_eq
  refine eO b3.st_.os.at_ (by rfl) ?_;refine rJ wd s3 b3 c2 c3 fun G4 H4 p4 s4 e4 b4 hp4=>?_
  cb_eq
  rw[pR hask.2]at hp4;obtain⟨hz,_,_⟩:=su hask.1;obtain⟨Hb,hopb,sb,hoth⟩:=b4.st_.open_ wd s4;rw[hz];refine⟨G4,Hb,st,dx,la,as,ls,_,p4,_,rfl,hopb,hp4,fun G' H' p s' t' hp=>?_⟩;obtain⟨sf,bf⟩:=after s4 b4 sb hoth s' t';refine q G' H' p la as sf bf ?_;rw[hp,<-pO];rfl
 |rule z y c0 c1 c2=>
  refine jN wd s1 b1 c0 fun H2 s2 b2=>?_
  cb_eq
  simp only[decide_true,if_true,qJ,decide_false,aU,if_false]
  have hask:jM z 32=J1/\jM y 32=true:=by
   have h:(_&&_)=true:=hask;rw[bD]at h;exact h
  refine jN wd s2 b2 c1 fun H3 s3 b3=>?_
  cb_eq
  refine eO b3.st_.os.at_ (by rfl) ?_;refine jN wd s3 b3 c2 fun H4 s4 b4=>?_
  cb_eq
  obtain⟨hz,_,_⟩:=su hask.1;obtain⟨hy,_,_⟩:=su hask.2;obtain⟨Hb,hopb,sb,hoth⟩:=b4.st_.open_ wd s4;refine⟨G,Hb,st,dx,la,as,ls,Am z,Am y,by rw[<-hz,<-hy],hopb,fun G' H' p s' t' hp=>?_⟩;obtain⟨sf,bf⟩:=after s4 b4 sb hoth s' t';refine q G' H' p la as sf bf ?_;rw[hp,<-pO];rfl
 |fits z n m c0 c1 c2 c3 c4 c5=>
  refine jN wd s1 b1 c0 fun H2 s2 b2=>?_
  cb_eq
  simp only[decide_true,if_true,qJ,decide_false,aU,if_false]
  have hask:(jM z 32=J1/\(((ns.drop (k+1+1+1)).take n).all fun z=>jM z 8)=J1)/\(((ns.drop (k+1+1+1+n+1)).take m).all fun z=>jM z 8)=true:=by
   have h:((_&&_)&&_)=true:=hask;rw[bD,bD]at h;exact h
  refine jN wd s2 b2 c1 fun H3 s3 b3=>?_
  cb_eq
  refine rJ wd s3 b3 c2 c3 fun G4 H4 p4 s4 e4 b4 hp4=>?_
  cb_eq
  refine rJ wd s4 b4 c4 c5 fun G5 H5 p5 s5 e5 b5 hp5=>?_
  cb_eq
  rw[pR hask.1.2]at hp4;rw[pR hask.2]at hp5;obtain⟨hz,_,_⟩:=su hask.1.1;refine⟨G5,Am z,p4,p5,_,_,by rw[<-hz],s5.wd,e5 _ _ hp4,hp5,fun G' H' v s' hv=>?_⟩;obtain⟨p,rfl,hp⟩:=hv;refine q G' H' p la as (s5.trans wd s') (b5.call s5.wd s') ?_;rw[hp,<-pO];rfl
 |least n c0 c1 c2=>
  refine jN wd s1 b1 c0 fun H2 s2 b2=>?_
  cb_eq
  simp only[decide_true,if_true,qJ,decide_false,aU,if_false];refine rJ wd s2 b2 c1 c2 fun G4 H4 p4 s4 e4 b4 hp4=>?_
  cb_eq
  rw[pR (show _=J1 from hask)]at hp4;refine⟨G4,p4,_,rfl,s4.wd,hp4,fun G' H' v s' hv=>?_⟩;obtain⟨p,rfl,hp⟩:=hv;refine q G' H' p la as (s4.trans wd s') (b4.call s4.wd s') ?_;rw[hp,<-pO];rfl
theorem Both.open_{He G G1 H1:Hp}{st dx la:aa}{as:List aa}{ls:List bE}{rd dxr ca:aa}{k:Nat}{ns:List Int}(wd:Wd A.toCn G He)(s:Step A.toCn G He G1 H1)(b:Both K A He G1 H1 st dx la as ls rd dxr ca k ns):
  ∃Hb,vM K A G1 Hb H1 st dx la as ls rd dxr ca k ns/\Step A.toCn G He G1 Hb/\∀q o,ar A.toCn He G1 H1 q o->q≠st->q≠la->q≠rd->ar A.toCn He G1 Hb q o:=by
 obtain⟨Ha,e1,h1,sa,hotha⟩:=Cf wd s b.rd_;obtain⟨Hb,e2,h2,h3,sb,hothb⟩:=ye wd sa (hotha _ _ b.st_.os b.n1) (hotha _ _ b.st_.ol b.n2) b.st_.ne;refine⟨Hb,⟨by rw[e1,e2],h2,h3,?_,b.st_.ne,b.n1,b.n2,sb.wd,b.st_.at_,b.st_.le,b.sq⟩,sb,fun q o x q1 q2 q3=>hothb q o (hotha q o x q3) q1 q2⟩;have:=h1;rw[e2,aO (br b.n2),aO (br b.n1)]at this;exact this
theorem QO{x:ag}(h:jk x=J1){y:ag}(e:Pg.least x=TL y):y.length<=256:=by
 obtain⟨r,q,_,hl⟩:=HX h;rw[e]at hl;exact hl.2
theorem vB(s:NQ)(c:Wqataf.Call):(lI s c).nums.length<=257:=by
 cases c with
 |add d x=>exact bI _
 |drop i=>exact bI _
 |lists=>exact bI _
 |becomes d x=>
  show(match gU x with|none=>hV|some p=>if(nI s p (d != 0)).1=0 then di 0 else nQ ((nI s p (d != 0)).1:Nat) [(nI s p (d != 0)).2.1,(nI s p (d != 0)).2.2]).nums.length<=257;cases gU x with
  |none=>exact bI _
  |some p=>
   dsimp only;split
   .exact bI _
   .show 2<=257;decide
 |rule i n=>
  show(match s[i]? with|none=>hV|some l=>if n=0\/(linesOf l.text).length<n then hV else match ruleAt l.text n with|none=>di 0|some r=>di (wO r)).nums.length<=257;cases s[i]? with
  |none=>exact bI _
  |some l=>
   dsimp only;split
   .exact bI _
   .cases ruleAt l.text n with
    |none=>exact bI _
    |some r=>exact bI _
 |fits d y x=>
  show(match lH y with|none=>hV|some r=>(match gU x with|none=>di (-2)|some p=>di (if kN r [] p (d != 0)=J1 then 1 else 0))).nums.length<=257;cases lH y with
  |none=>exact bI _
  |some r=>
   cases gU x with
   |none=>exact bI _
   |some p=>exact bI _
 |least x=>
  show(if 64<x.length\/jk x=J2 then hV else(match Pg.least x with|some y=>nQ 1 (y.length::y.map fun(c:UInt8)=>c.toNat)|none=>di 0)).nums.length<=257;split
  .exact bI _
  .rename_i hn
   cases e:Pg.least x with
   |none=>exact bI _
   |some y=>
    have ha:jk x=true:=by
     cases z:jk x with
     |true=>rfl
     |false=>exact J5 (.inr z) hn
    have:=QO ha e;show(y.length::y.map fun(c:UInt8)=>c.toNat).length<=257;rw[bH,aE];lia
theorem XY(s:NQ)(c:List (List Int)):(gy s c).2.length<=300:=by
 unfold gy;cases WqatafNeutral.callOf c with
 |none=>exact bI _
 |some x=>
  show((rE s x).2.ret::(rE s x).2.nums.map WqatafNeutral.int).length<=300;rw[bH,aE]
  have:(rE s x).2.nums.length<=257:=by
   cases x with
   |add d y=>
    show(mI s d y).2.nums.length<=257;unfold mI;cases Pg.dirOf d with
    |none=>exact bI _
    |some p=>
     dsimp only;split
     .exact bI _
     .cases pX y with
      |some n=>show 1<=257;decide
      |none=>
       dsimp only;split
       .exact bI _
       .exact bI _
   |drop i=>
    show(if i<s.length then(s.eraseIdx i,di 0)else(s,hV)).2.nums.length<=257;split
    .exact bI _
    .exact bI _
   |lists=>exact vB s _
   |becomes d x=>exact vB s _
   |rule i n=>exact vB s _
   |fits d y x=>exact vB s _
   |least x=>exact vB s _
  lia
abbrev sH:=rl
def yA(K:aw)(A:Ad):Sp:=fun vs H Q _=>∃(G:Hp)(ca:aa)(ns:List Int)(f:Nat)(cs:List (List (List Int))),vs=[.ref ca]/\Wd A.toCn G H/\ak K G ca (ns.map V.int)/\mB sH f ns=TL cs/\(∀c∈cs,Al c=J1)/\cs.length<=400/\
 ∀G' H' p,Step A.toCn G H G' H'->G' p=TL (.lst ((wD (wC gy FC cs)).map V.int))->Q (.ref p) H'
theorem SI(T:aY K mg A)(ok_answer:aY K mg A->Kn P w K mg base aW "answer" 14 ["store","reader"] (Lr K A)):Kn P w K mg base aW "answers" 15 ["calls"] (yA K A):=by
 have sc:aV ["calls","store","reader","given","answered"] ["calls"] (aN JT):=bp;refine Kn.of T.aaf sc (fun vs H Q E h=>?_) (fun f cdv A0 outer s0 H vs Q E hr h=>?_)
 .obtain⟨_,_,_,_,_,rfl,_⟩:=h;rfl
 obtain⟨G,ca,ns,fu,cs,rfl,wd,hsq,hcs,hask,hlen,q⟩:=h
 refine⟨_,(aq (pS 1 sc.nd (Jw (SA T) (hr.mono (by decide)) bB rfl))
   (aq (pS 2 sc.nd (jY (Sy T) (hr.mono (by decide)) bB rfl (af (pv 0) ao)))
   (aq (pS 3 sc.nd (bt ao))
   (aq (qr ff (lS (dZ (il (pv 2) T.Zf (Sz T) (hr.mono (by decide)) bB)))
    (aq (pS 4 sc.nd (cF (ok_answer T) hr (af (pv 1) (af (pv 2) ao))))
    (aq (eI (eN eT gn gr gc (pv 3) (af (cL T.Ze (pv 4)) ao)))
    (au (eI (eN eT Aa Ab xU (pv 3) (af (pv 4) ao)))))))
   (au (aL (pv 3))))))),?_⟩
 cb_eq
 intro st dx hst hdx hne;refine⟨G,H,st,dx,rfl,rfl,hst,hdx,hne,wd,fun H1 la s1 t1=>⟨rfl,?_⟩⟩
 cb_eq
 intro rd dxr hrd hdxr hner;refine⟨rd,dxr,ca,rfl,ax,rfl,?_⟩;rw[gX];have s2:=s1.new wd hdxr (o:=.own rd);have hrd':ah H1 dxr (.own rd) rd=none:=by rw[aO (br hner)];exact hrd
 have s3:=s2.new wd hrd' (o:=eY A dxr ca 0)
 have b3:Both K A H G (ah (ah H1 dxr (.own rd)) rd (eY A dxr ca 0)) st dx la [] [] rd dxr ca 0 ns:=
  ⟨⟨(t1.os.new_ hdxr).new_ hrd',(t1.ol.new_ hdxr).new_ hrd',t1.ne,t1.at_,t1.le⟩,ar.make wd s2 hrd',hsq,dq t1.os.at_ hrd,dq t1.ol.at_ hrd⟩
 generalize ah (ah H1 dxr (.own rd)) rd (eY A dxr ca 0)=H3 at s3 b3
 cb_eq
 refine⟨by decide,fun gp hgp=>?_⟩;have s4:=s3.new wd hgp (o:=.lst []);have o4:=ar.make wd s3 hgp (o:=.lst []);have b4:Both K A H G (ah H3 gp (.lst [])) st dx la [] [] rd dxr ca 0 ns:=⟨⟨b3.st_.os.new_ hgp,b3.st_.ol.new_ hgp,b3.st_.ne,b3.st_.at_,b3.st_.le⟩,b3.rd_.new_ hgp,b3.sq,b3.n1,b3.n2⟩;have g1:gp≠st:=fun z=>by have:=b3.st_.os.at_;rw[<-z,hgp]at this;cases this
 have g2:gp≠la:=fun z=>by have:=b3.st_.ol.at_;rw[<-z,hgp]at this;cases this
 have g3:gp≠rd:=fun z=>by have:=b3.rd_.at_;rw[<-z,hgp]at this;cases this
 refine qC (fun mm σ H'=>∃(x4:Option V)(G5:Hp)(la:aa)(as:List aa)(ls:List bE)(k fu:Nat)(rest:List (List (List Int)))(out:List Int),mm=ns.length-k/\σ=[TL (.ref ca),TL (.ref st),TL (.ref rd),TL (.ref gp),x4]/\Step A.toCn G H G5 H'/\Both K A H G5 H' st dx la as ls rd dxr ca k ns/\
   ar A.toCn H G5 H' gp (.lst (out.map V.int))/\gp≠la/\mB sH fu (ns.drop k)=TL rest/\(∀c∈rest,Al c=J1)/\out.length+301*rest.length<=301*400/\out++wD (wC gy ls rest)=wD (wC gy FC cs))
  ⟨_,_,G,la,[],[],0,fu,cs,[],rfl,rfl,s4,b4,o4,g2,by rw[tm];exact hcs,hask,by show 0+301*cs.length<=_;lia,rfl⟩ ?_
 rintro mm σ H5 ⟨x4,G5,la,as,ls,k,fu,rest,out,rfl,rfl,s5,b5,o5,g2,hrest,hask5,hout,heq⟩
 cb_eq
 refine eO b5.rd_.at_ (by rfl) ?_;refine⟨rd,dxr,ca,k,ns,rfl,b5.rd_.at_,PP.ak.mono (K:=K) s5.wd.sub b5.sq,?_⟩
 cb_eq
 by_cases hk:ns.length<=k
 .rw[dT hk];simp only[fc,aU,if_false];have hnil:ns.drop k=[]:=mn hk;rw[hnil]at hrest
  have hr:rest=[]:=by
   cases fu<;>cases hrest<;>rfl
  subst hr
  cb_eq
  refine q _ _ gp (s5.sealO wd o5 aS) ?_;rw[ax,<-heq];show _=TL (HO.lst ((out++[]).map V.int));rw[cD]
 .rw[dF hk];simp only[eJ,if_true];refine⟨_,fun _ _ z=>z,?_⟩
  obtain⟨c,cs',k',hca,hr,hrest'⟩:∃c cs' k',kj ns k c k'/\rest=c::cs'/\∃fu',mB sH fu' (ns.drop k')=TL cs':=by
   cases e:ns.drop k with
   |nil=>
    have:=congrArg eh e;rw[cM]at this;have:ns.length-k=0:=this;lia
   |cons p r=>
    rw[e]at hrest;cases fu with
    |zero=>cases hrest
    |succ fu'=>
     unfold mB at hrest;cases e1:zX sH (p::r)with
     |none=>rw[e1]at hrest;cases hrest
     |some y=>
      obtain⟨c,t⟩:=y;rw[e1]at hrest;dsimp only at hrest;cases e2:mB sH fu' t with
      |none=>rw[e2]at hrest;cases hrest
      |some cs'=>
       rw[e2]at hrest;cases hrest;rw[<-e]at e1;obtain⟨k',h1,rfl⟩:=Gg e1;exact⟨c,cs',k',h1,rfl,fu',e2⟩
  obtain⟨fu',hrest'⟩:=hrest';subst hr;obtain⟨hk1,hk2⟩:=Oy hca;obtain⟨Hb,hop,sb,hoth⟩:=b5.open_ wd s5;have gb:=hoth gp _ o5 g1 g2 g3;refine⟨G5,Hb,st,dx,la,as,ls,rd,dxr,ca,k,k',ns,c,rfl,hop,hca,hask5 c dI,fun G6 H6 p la' as' s6 b6 hp=>?_⟩;have s56:=sb.trans wd s6;have o6:=gb.call s6;have g2':gp≠la':=dq gb.at_ b6.st_.ol.new;have b6':Both K A H G6 H6 st dx la' as' (gy ls c).1 rd dxr ca k' ns:=⟨b6.st_.re b5.st_.os.new (sb.free wd b6.st_.ol.new),b6.rd_.re b5.rd_.new,b6.sq,b6.n1,b6.n2⟩;have hsl:=XY ls c;rw[bH]at hout;have hfit:(301*400+301:Nat)<=aZ:=by decide
  cb_eq
  refine⟨eP (ak.of o6.at_),?_⟩;refine cy (ak.of (s56.wd.sub _ _ hp)) ?_;rw[aE];refine gh o6.at_ (by rw[aE];lia) ?_;rw[show out.map V.int++[V.int ((gy ls c).2.length:Nat)]=(out++[((gy ls c).2.length:Int)]).map V.int by rw[cx];rfl];have s7:=s56.put wd o6 (o':=.lst ((out++[((gy ls c).2.length:Int)]).map V.int));have o7:=o6.put_ (o':=.lst ((out++[((gy ls c).2.length:Int)]).map V.int))
  have b7:Both K A H G6 (ah H6 gp (.lst ((out++[((gy ls c).2.length:Int)]).map V.int))) st dx la' as' (gy ls c).1 rd dxr ca k' ns:=
   ⟨⟨b6'.st_.os.other (br g1),b6'.st_.ol.other (br g2'),b6'.st_.ne,b6'.st_.at_,b6'.st_.le⟩,b6'.rd_.other (br g3),b6'.sq,b6'.n1,b6'.n2⟩
  cb_eq
  refine⟨eP (ak.of o7.at_),?_⟩;refine yX o7.at_ (s7.wd.sub _ _ hp) (by rw[aE,aE,bw,dR];lia) ?_;rw[<-cx];refine⟨ns.length-k',by lia,_,G6,la',as',_,k',fu',cs',_,rfl,rfl,s7.put wd o7,⟨⟨b7.st_.os.other (br g1),b7.st_.ol.other (br g2'),b7.st_.ne,b7.st_.at_,b7.st_.le⟩,b7.rd_.other (br g3),b7.sq,b7.n1,b7.n2⟩,o7.put_,g2',hrest',fun c' hc'=>hask5 c' (bX _ hc'),?_,?_⟩
  .rw[bw,bw,dR];lia
  .rw[<-heq];show _=out++(((gy ls c).2.length:Int)::(gy ls c).2++wD (wC gy (gy ls c).1 cs'));rw[dt,dt];rfl
end
end PP
namespace PP
open PySem PySem.Spec L2
open PyProof.Rows hiding St
open PySem.W (WData Codec WellAll Well ReadsW ReadsAllW)
theorem MA{Pm:Params}{h:aA}:∀(ns:List Int)(vs:List ae),WellAll Pm h vs (ns.map WData.int)->aX (ns.map V.int) vs
 | [],_,x=>by
  cases x;exact .nil
 |n::r,_,x=>by
  cases x with
  |cons a b=>
   cases a;exact .cons ⟨_,rfl⟩ (MA r _ b)
theorem JL{R:PySem.W.WRecords}{cl:Str->Option aa}{h:aA}:∀(ns:List Int)(us:List ae),aX (ns.map V.int) us->∃as,ReadsAllW R cl h us (ns.map WData.int) as
 | [],_,x=>by
  cases x;exact⟨_,.nil⟩
 |n::r,_,x=>by
  cases x with
  |cons a b=>
   obtain⟨t,rfl⟩:=a;obtain⟨as,q⟩:=JL (R:=R) (cl:=cl) (h:=h) r _ b;exact⟨_,.cons (.int n t) q⟩
theorem Qa{P:aJ}{w:aH}{K:aw}{mg mb:Str->Option ae}{A:Ad}{fa bm:aa}{s₁:aj}{u:ae}{ns out:List Int}{ob:Obj}{R:PySem.W.WRecords}{cl:Str->Option aa}
  (KX:K.In s₁.heap)(hns:s₁.heap.Ns fi mg)(hb:s₁.heap.Ns nV mb)(hbb:∀x:Str,x≠"__name__"->mb x=rK x)(hlim:s₁.heap.NoLimit)(hg:s₁.gens= #[])
  (hwl:WellAll w.params s₁.heap [u] [.list (ns.map WData.int)])(hz:ns.length<=aZ)(hr:cA 15 callerA)
  (htab:s₁.heap.get? A.tab=TL (tR #[]))(hhd:isCodeTable s₁.heap A.tab)(hKt:K.lookup A.tab=J0)(hbm:s₁.heap.get? bm=TL ob)(hob:ob.cls=.type "module")
  (hmg:mg "answers"=TL (.ref fa))(F:∀base:aA,K.In base->base.Ns fi mg->base.get? bm=TL ob->Kn P w K mg base aW "answers" 15 ["calls"] (yA K A))
  (hsp:∀(G H:Hp)(ca:aa)(Q:VK),Wd A.toCn G H->ak K G ca (ns.map V.int)->(∀G' H' p,Step A.toCn G H G' H'->G' p=TL (.lst (out.map V.int))->Q (.ref p) H')->yA K A [.ref ca] H Q E0):
  hX (aC P w) callerA (.call (.ref fa) ⟨[u],[]⟩) (fun r s'=>∃v as,r=.ok (.ret v)/\ReadsW R cl s'.heap v (.list (out.map WData.int)) as/\OldK s₁.heap s'.heap/\s'.os=s₁.os/\nq s'.gens) s₁:=by
 obtain⟨ca,vs,rfl,hca,hvs⟩:∃(ca:aa)(vs:List ae),u=.ref ca/\s₁.heap.get? ca=TL {cls:=.type "list",data:=.seq vs.toArray}/\aX (ns.map V.int) vs:=by
  cases hwl with
  |cons a b=>
   cases a with
   |list e x=>exact⟨_,_,rfl,e,MA _ _ x⟩
 have hct:ca≠A.tab:=fun z=>by
  rw[z,htab]at hca;injection hca with e;injection e with e;cases e
 obtain⟨H0,hH0⟩:∃H0:Hp,∀b,H0 b=if b=ca/\K.lookup ca=J0 then TL (.frz {cls:=.type "list",data:=.seq vs.toArray} (.lst (ns.map V.int)))else none:=⟨fun b=>if b=ca/\K.lookup ca=J0 then TL (.frz {cls:=.type "list",data:=.seq vs.toArray} (.lst (ns.map V.int)))else J0,fun _=>rfl⟩
 have at0:∀b o,H0 b=TL o->b=ca/\K.lookup ca=J0/\o=.frz {cls:=.type "list",data:=.seq vs.toArray} (.lst (ns.map V.int)):=fun b o e=>by
  rw[hH0]at e;by_cases c:b=ca/\K.lookup ca=J0
  .rw[J4 c]at e;exact⟨c.1,c.2,(dN e).symm⟩
  .rw[J3 c]at e;cases e
 have t0:H0 A.tab=none:=by
  cases e:H0 A.tab with
  |none=>rfl
  |some o=>exact J5 (at0 _ _ e).1.symm hct
 have sq:ak K H0 ca (ns.map V.int):=by
  cases hk:K.lookup ca with
  |none=>exact .inl (.inr ⟨_,by rw[hH0,J4 ⟨rfl,hk⟩]⟩)
  |some o=>
   have e:=KX ca o hk;rw[hca]at e;obtain rfl:=dN e;have hl:=hvs.length;exact .inr ⟨_,vs.toArray,_,hk,rfl,rfl,rfl,by rw[fe,<-hl,aE];exact hz,by simpa using hvs⟩
 have wd:Wd A.toCn H0 (ah H0 A.tab (.tbl #[])):=⟨bx t0,fun m dx lc opt dd e=>(by cases(at0 _ _ e).2.2),fun m dx lc opt m' dx' lc' opt' dd e=>(by cases(at0 _ _ e).2.2),t0,#[],ax,.inl rfl⟩
 have atH:∀b o,ah H0 A.tab (.tbl #[]) b=TL o->(b=A.tab/\o=.tbl #[])\/(b≠A.tab/\H0 b=TL o):=fun b o e=>by
  by_cases c:b=A.tab
  .rw[c,ax]at e;exact .inl ⟨c,(dN e).symm⟩
  .rw[aO c]at e;exact .inr ⟨c,e⟩
 have hok:cz P w (ah H0 A.tab (.tbl #[])) s₁.heap:=fun b o e=>by
  rcases atH b o e with⟨rfl,rfl⟩|⟨_,e⟩
  .exact htab
  .obtain⟨rfl,_,rfl⟩:=at0 _ _ e;exact⟨hca,by rw[aE];exact hz,vs,0,hvs,hca⟩
 have hno:∀{b:aa}{o:Obj},s₁.heap.get? b=TL o->(∀us n,o.data≠.seq us n)->(∀us,o.data≠.fields us)->ah H0 A.tab (.tbl #[]) b=none:=fun{b o} e n1 n2=>by
  cases q:ah H0 A.tab (.tbl #[]) b with
  |none=>rfl
  |some x=>
   rcases atH b x q with⟨rfl,_⟩|⟨_,q⟩
   .rw[htab]at e;cases e;exact J5 rfl (n2 _)
   .obtain⟨rfl,_,_⟩:=at0 _ _ q;rw[hca]at e;cases e;exact J5 rfl (n1 _ _)
 have nK:∀b o,K.lookup b=TL o->ah H0 A.tab (.tbl #[]) b=none:=fun b o e=>by
  cases q:ah H0 A.tab (.tbl #[]) b with
  |none=>rfl
  |some x=>
   rcases atH b x q with⟨rfl,_⟩|⟨_,q⟩
   .rw[hKt]at e;cases e
   .obtain⟨rfl,e2,_⟩:=at0 _ _ q;rw[e2]at e;cases e
 have hq:=hsp H0 (ah H0 A.tab (.tbl #[])) ca (fun v H'=>∃p,v=.ref p/\H' p=TL (.lst (out.map V.int))) wd sq fun G' H' p st e=>⟨p,rfl,st.wd.sub _ _ e⟩
 have frz:∀b o,ah H0 A.tab (.tbl #[]) b=TL o->b≠A.tab->∃ob,o=.frz ob (.lst (ns.map V.int)):=fun b o e hb=>by
  rcases atH b o e with⟨z,_⟩|⟨_,e⟩
  .exact J5 z hb
  .exact⟨_,(at0 _ _ e).2.2⟩
 have ht:ah H0 A.tab (.tbl #[]) A.tab=TL (.tbl #[]):=ax;clear wd at0 t0 sq atH hH0 hsp;generalize ah H0 A.tab (.tbl #[])=H at hok hno nK hq frz ht;have nsK:∀{b:aa}{m:Str->Option ae},s₁.heap.Ns b m->(mK s₁.heap H).Ns b m:=fun{b m}⟨o,es,ep,e,d,r⟩=>⟨o,es,ep,Be e (hno e (fun _ _ z=>by rw[d]at z;cases z) fun _ z=>by rw[d]at z;cases z),d,r⟩;have hKb:K.In (mK s₁.heap H):=fun b o e=>Be (KX b o e) (nK b o e);have hM:Mod K mg (mK s₁.heap H):=⟨hKb,nsK hns,⟨mb,nsK hb,hbb⟩,let⟨mc,h1,h2⟩:=hlim;⟨mc,nsK h1,h2⟩⟩;have e0:oU P w K mg (mK s₁.heap H) callerA [] s₁ H:=⟨rfl,hM,fun b o e=>Sm e,tJ (Qm _ _),trivial,fun b hb=>J5 (show b∈([]:List aa)from hb) (by simp),hok,.of_eq hg⟩
 have hbm':(mK s₁.heap H).get? bm=TL ob:=by
  refine Be hbm ?_;cases q:H bm with
  |none=>rfl
  |some x=>
   by_cases z:bm=A.tab
   .rw[z,htab]at hbm;cases hbm;cases hob
   .obtain⟨o2,rfl⟩:=frz _ _ q z;obtain⟨e1,_,its,n,_,e2⟩:=hok _ _ q;rw[hbm]at e2;cases e2;exact J5 (nP.inj hob) (by decide)
 obtain⟨f,fd,Fk,hm,_,hbd⟩:=F _ hKb (nsK hns) hbm'
 obtain rfl:fa=f:=by
  rw[hmg]at hm;cases hm;rfl
 refine rL (Fk.run callerA [] s₁ H ⟨[.ref ca],[]⟩ [.ref ca] [.ref ca] _ _ hr e0 (hbd s₁ [.ref ca] KX rfl) (.cons rfl .nil) hq) fun r s' x=>?_;cases r with
 |error e=>exact fP x
 |ok fl=>
  cases fl with
  |next=>exact fP x
  |brk=>exact fP x
  |cont=>exact fP x
  |ret v=>
   obtain⟨v',H',os,bare,un,hok',r',p,rfl,hp⟩:=x
   have kept:∀b o,b≠A.tab->s₁.heap.get? b=TL o->s'.heap.get? b=TL o:=fun b o hb e=>by
    cases q2:H b with
    |none=>exact un.keep b o e q2 (by intro z;exact J5 (show b∈([]:List aa)from z) (by simp)) (by simp)
    |some x2=>
     obtain⟨o2,rfl⟩:=frz _ _ q2 hb;obtain⟨e1,_⟩:=hok b _ q2;obtain⟨e2,_⟩:=hok' b _ (un.frzs b _ _ q2);rw[e]at e1;cases e1;exact e2
   obtain⟨more,hm⟩:=un.tbls A.tab #[] ht;have hm2:s'.heap.get? A.tab=TL (tR (#[]++more)):=hok' _ _ hm;obtain rfl:v=cO p:=r';obtain⟨_,its,n,rv,ho⟩:=hok' p _ hp;obtain⟨as,hrd⟩:=JL (R:=R) (cl:=cl) (h:=s'.heap) out its rv;refine⟨_,_,rfl,.list ho rfl rfl hrd,⟨fun b o e=>?_,fun b o e=>?_⟩,os,bare⟩
   .by_cases hb:b=A.tab
    .subst hb;rw[htab]at e;cases e;exact .inr (.inl ⟨hhd,rfl,#[],more,rfl,hm2⟩)
    .exact .inl (kept b o hb e)
   .by_cases hb:b=A.tab
    .exact⟨_,by rw[hb];exact hm2⟩
    .exact⟨o,kept b o hb e⟩
end PP
namespace PP
open PySem PySem.Spec L2
open PyProof.Rows hiding St
noncomputable def yK:Ad:={cell:=108,mat:=331,tab:=66,lp:=⟨54,48,54,81⟩,lq:=("lines_that_count":Str)++".<locals>."++"<lambda>",machine:=185,pairs:=213,pattern:=359,plist:=494,store:=562,reader:=617,fault:=88}
section
variable{P:aJ}{w:aH}{K:aw}{mg:Str->Option ae}{base:aA}{A:Ad}
theorem SH(T:aY K mg A)(LT:zw K mg base A):Kn P w K mg base aW "answers" 15 ["calls"] (yA K A):=
 SI T fun T=>SG T fun T=>SC T fun T=>SN T fun T=>BU T LT
end
theorem MB{ns:List Int}:∀{f k:Nat}{ds:List (List (List Int))},mB rl f (ns.drop k)=TL ds->ds.map PyWqataf.whole=ds
 |f,k,ds,h=>by
  cases e:ns.drop k with
  |nil=>rw[e]at h;cases f<;>(cases h;rfl)
  |cons p r=>
   cases f with
   |zero=>rw[e]at h;cases h
   |succ f=>
    rw[e]at h;unfold mB at h;cases e1:zX rl (p::r)with
    |none=>rw[e1]at h;cases h
    |some y=>
     obtain⟨c,t⟩:=y;rw[e1]at h;dsimp only at h;rw[<-e]at e1;obtain⟨k',h1,rfl⟩:=PM.Gg e1;cases e2:mB rl f (ns.drop k')with
     |none=>rw[e2]at h;cases h
     |some cs=>
      rw[e2]at h;cases h;rw[cV,MB e2];cases h1<;>rfl
theorem PJ{q:aJ}{loose:List Str}{XP:(Str->Option ae)->aA->Prop}{K:aw}{w:aH}{s_0 s₁:aj}{mg mb:Str->Option ae}{fa:aa}{args:List PySem.W.WData}{vals:List ae}
  (G:PySem.W.Ground q loose [] XP w s_0 mg mb s₁.heap)(KX:K.In s₁.heap)(hmg:mg "answers"=TL (.ref fa))(hg:s₁.gens= #[])(hpre:rh.pre args=J1)(hlay:PySem.W.WData.layableAll args=J1)(hwl:PySem.W.WellAll w.params s₁.heap vals args)
  (k1:rh.wellSaid=J1)(T:aY K mg yK)(h1:PySem.W.tabIn K "lines_that_count"=TL (70,66))(h2:Fh K 70 66=J1)(h3:((recsOf q).find? fun e=>e.name==("lines_that_count":Str)).isSome=J1)(h4:(K.lookup 66).isNone=J1):
  az (aC rh.prog w) callerA (call (.ref fa) vals) (fun v s'=>PySem.W.GoodWG rh.claim (classAt s_0.heap) (ExcName.means s_0.heap) args s₁ (.ok (.ret v)) s')
    (fun e s'=>PySem.W.GoodWG rh.claim (classAt s_0.heap) (ExcName.means s_0.heap) args s₁ (.error e) s') s₁:=by
 obtain⟨a,e1,e2⟩:=PySem.W.os_pre_some hpre;obtain⟨e3,hwi⟩:=PySem.W.Codec.encAll_of_decAll _ args a e1;subst e3;obtain⟨d,hd⟩:=Fb.mp h3;obtain⟨hcode,htab⟩:=PySem.W.tab_of G.T KX hd h1;obtain⟨bm,ob,b1,b2,b3,b4,b5,b6⟩:=G.T.bmain
 have lt:∀base:aA,base.get? bm=TL ob->zw K mg base yK:=fun base hb=>
  ⟨rfl,rfl,fun f o fd hm hk hdat=>⟨70,PySem.W.law_code KX G.T.g h1 hm (KX f o hk) hdat,fun h X=>PySem.W.codeHd_of_K X h2⟩,bm,ob,b1,b2,b4,b5,b6,hb⟩
 obtain⟨ns,_⟩:=a;have hask:NP ns=true:=e2;have hwl2:PySem.W.WellAll w.params s₁.heap vals [.list (ns.map PySem.W.WData.int)]:=hwl;have hin:(PySem.W.Codec.inLen 0 31000 ns&&ns.all _&&J1)=true:=hwi;rw[bD,bD]at hin;have hlen:ns.length<=31000:=(PySem.W.Codec.inNat_iff.mp hin.1.1).2
 obtain⟨u,rfl⟩:∃u,vals=[u]:=by
  cases hwl2 with
  |cons x y=>
   cases y;exact⟨_,rfl⟩
 unfold NP at hask;cases hcs:PyWqataf.calls ns with
 |none=>rw[hcs]at hask;cases hask
 |some cs=>
  rw[hcs]at hask;have hans:Fp ns=wD (wC gy FC cs):=by unfold Fp;rw[hcs]
  have hfl:mB sH ns.length ns=TL cs:=by
   unfold PyWqataf.calls at hcs;cases e:mB rl ns.length ns with
   |none=>rw[e]at hcs;cases hcs
   |some ds=>
    rw[e]at hcs;have hcs:TL (ds.map PyWqataf.whole)=TL cs:=hcs;rw[MB (k:=0) e]at hcs;exact hcs
  have hask:(PyFlat.atMost 400 cs&&NR cs)=true:=hask;rw[bD]at hask;have h400:cs.length<=400:=of_decide_eq_true hask.1
  have hall:∀c∈cs,Al c=true:=by
   have:=hask.2;unfold NR at this;rw[bD,bD,bD]at this;exact gG.mp this.1.1.1
  have hz:aZ=16777216:=sI;refine PySem.W.enter_call (rL (Qa (R:=[]) (cl:=classAt s_0.heap) (A:=yK) (ns:=ns) (out:=Fp ns) KX G.T.g G.T.b G.T.builtins G.T.nolimit hg hwl2 (by lia) ⟨rfl,by decide,by decide⟩ htab (hcode.tab htab).isCodeTable (Nw.mp h4) b3 b4 hmg (fun base _ _ hb=>SH T (lt base hb)) fun G' H ca Q wd sq k=>?_) fun r' s' hq=>?_)
  .exact⟨G',ca,ns,ns.length,cs,rfl,wd,sq,hfl,hall,h400,fun G2 H2 p st e=>k G2 H2 p st (by rw[hans];exact e)⟩
  .obtain⟨v,as',rfl,h5,h6,h7,h8⟩:=hq;exact⟨.inl ⟨v,_,as',rfl,fun _=>rfl,h5,(PySem.W.OpenSpec.post_iff k1 hwi _ _).mpr rfl,fun z=>Em (show J2=J1 from z)⟩,h6,h7,h8⟩
end PP
namespace PP
open PySem PySem.Spec L2
open PyProof.Rows hiding St
open PySem.W (Frag nsIn findIn codeIn keepIn isFn makesIn)
theorem AY{h:aA}:∀{l:List aa},(lK h l).In h
 | [],_,_,e=>by cases e
 |a::r,x,o,e=>by
  unfold lK at e;cases g:h.get? a with
  |none=>rw[g]at e;exact AY x o e
  |some y=>
   rw[g]at e;dsimp only[nB]at e;cases q:x==a with
   |true=>rw[q]at e;cases e;rw[beq_iff_eq.mp q];exact g
   |false=>rw[q]at e;exact AY x o e
theorem HI{v:Option (Option ae)}{f:aa}(h:xH v f=J1):v=TL (TL (.ref f)):=by
 unfold xH at h;split at h
 .rw[beq_iff_eq.mp h]
 .cases h
def nz(K:hO)(r:kI):Prop:=∃f fd,AZ K r=TL (TL (.ref f))/\km K (ia r.2.2) r.2.1 r.2.2 f fd/\isFn K (.ref f)=J1
theorem PR{K:hO}{r:kI}(e:Bc K r=sO r)(c:Az K r=J1):nz K r:=by
 unfold Bc sO at e;unfold Az at c;cases l:xA K r with
 |none=>rw[l]at e;cases e
 |some o=>
  rw[l]at e c;obtain⟨f,n,qn,pa,bo,sc,gl,cl,de,kV,doc,pm,an,cdv,ct,bu⟩:=o;dsimp only[Option.map,Option.any]at e c;rw[bD,bD]at c;unfold xA at l;split at l
  .rename_i g p
   split at l
   .rename_i q
    cases l;injection e with e;injection e with e1 e;injection e with e2 e;injection e with e3 e;injection e with e4 e;injection e with e5 e;injection e with e6 e;injection e with e7 e;injection e with e8 e9;subst e1 e2 e3 e4 e5 e6 e7 e8 e9;exact⟨_,_,p,PX q c.1.1 c.1.2,c.2⟩
   .cases l
  .cases l
theorem IK{v:Option (Option ae)}(h:xV v=J1):v=TL none:=by
 unfold xV at h;split at h
 .rfl
 .cases h
theorem Qs{v:Option (Option ae)}{f:String}(h:Bg v f=J1):v=TL (TL (.builtin f)):=by
 unfold Bg at h;split at h
 .rw[beq_iff_eq.mp h]
 .cases h
theorem oo{P:List ae->Prop}(h:P []:=by intros;rfl)(us:List ae)(e:us.length=0):P us:=by
 cases us with
 |nil=>exact h
 |cons=>cases e
theorem uD{P:List ae->Prop}{n:Nat}(h:∀a us,us.length=n->P (a::us))(us:List ae)(e:us.length=n+1):P us:=by
 cases us with
 |nil=>cases e
 |cons=>exact h _ _ (Nat.succ.inj e)
theorem dg{P:List ae->Prop}(h:∀a,P [a]:=by intros;rfl):∀us:List ae,us.length=1->P us:=uD fun a=>oo (h a)
theorem fZ{P:List ae->Prop}(h:∀a b,P [a,b]:=by intros;rfl):∀us:List ae,us.length=2->P us:=uD fun a=>dg (h a)
theorem jS{P:List ae->Prop}(h:∀a b c,P [a,b,c]:=by intros;rfl):∀us:List ae,us.length=3->P us:=uD fun a=>fZ (h a)
theorem uC{P:List ae->Prop}(h:∀a b c d,P [a,b,c,d]:=by intros;rfl):∀us:List ae,us.length=4->P us:=uD fun a=>jS (h a)
theorem HZ{P:List ae->Prop}(h:∀a b c d e,P [a,b,c,d,e]:=by intros;rfl):∀us:List ae,us.length=5->P us:=uD fun a=>uC (h a)
section
variable{K:hO}{h:aA}{mg:Str->Option ae}
theorem Sl(X:K.In h)(G:h.Ns fi mg){x:Str×Int}(e:BN K x=J1):cX mg x.1 x.2:=by
 unfold BN at e;split at e
 .rename_i i t q
  rw[<-beq_iff_eq.mp e];exact⟨_,Ag X G q,t,rfl⟩
 .cases e
abbrev Bd(x q:Str)(st:aI)(ps:List Str):Prop:=∀us:List ae,us.length=ps.length->∀(kV doc pm:ae)(an:Option aa)(cdv ct:ae),bindArgs (rj x q (rP st) (jq st) (aN st) .none kV doc pm an cdv ct) ⟨us,[]⟩=pure (ps.zip us)
theorem OY(X:K.In h)(G:h.Ns fi mg){st:aI}{ps:List Str}(F:nz K (0,ia st,st))(b:Bd (ia st) (ia st) st ps):Df K mg (ia st) st ps:=
 let⟨f,_,p,z,_⟩:=F;⟨f,_,z,Ag X G p,z.binds fun _ _ _ _ _ _ _ l=>b _ l _ _ _ _ _ _⟩
theorem iB{C:aa}{q:Str}{st:aI}{ps:List Str}(F:nz K (C+1,q,st))(b:Bd (ia st) q st ps):gF K (C+1) (ia st) q st ps:=
 let⟨f,_,p,z,i⟩:=F;⟨f,_,z,⟨p,i,z.kp⟩,z.binds fun _ _ _ _ _ _ _ l=>b _ l _ _ _ _ _ _⟩
theorem Qn(X:K.In h)(G:h.Ns fi mg){C:aa}{x q:Str}{st:aI}{ps:List Str}(F:nz K (C+1,q,st))(c:ue K (C+1,x)=J1)(n:ia st="__init__")(b:Bd "__init__" q st ps):kX K mg (C+1) x q st ps:=by
 unfold ue at c;rw[bD,bD,bD,bD,bD,bD]at c;obtain⟨f,_,p,z,i⟩:=F;unfold AZ at p;dsimp only at p z;rw[n]at p z;exact⟨f,_,z,⟨c.1.1.1.1.1.2,p,i,c.1.1.1.1.2⟩,Ag X G (HI c.1.1.1.1.1.1),z.binds fun _ _ _ _ _ _ _ l=>b _ l _ _ _ _ _ _⟩
theorem Ox{C:aa}{x:Str}(c:ue K (C,x)=J1):dH K C:=by
 unfold ue at c;rw[bD,bD,bD,bD,bD,bD]at c;exact⟨c.1.1.1.2,c.1.1.2,c.1.2,Qs c.2⟩
theorem Yx(X:K.In h)(G:h.Ns fi mg)(e:(uE K,xM K,xN K)=(J1,J1,(nZ++og++oa).map sO)):aY K mg yK/\PySem.W.tabIn K "lines_that_count"=TL (70,66)/\Fh K 70 66=J1/\(K.lookup 66).isNone=true:=by
 obtain⟨e1,e⟩:=zV e;obtain⟨e2,e3⟩:=zV e;unfold uE at e1;rw[bD,bD,bD,bD,bD,bD,bD,bD]at e1;obtain⟨⟨⟨⟨⟨⟨⟨⟨a1,a2⟩,a3⟩,a4⟩,a5⟩,lx⟩,a7⟩,a8⟩,a9⟩:=e1;have lf:=Ag X G (HI a5);have n (i:Fin 31):=Sl X G (gG.mp a1 Ho[i] (lb _));have b (i:Fin 10):=PySem.W.mg_none_of X G (IK (gG.mp a2 Hm[i] (lb _)));have cc (i:Fin 8):=gG.mp a3 Hn[i] (lb _);have c (i:Fin 8):=Ox (cc i);have f (i:Fin 21):=IK (gG.mp a4 Hl[i] (lb _));have w (x:kI) (m:x∈nZ++og++oa):nz K x:=PR (List.map_eq_map_iff.mp e3 x m) (gG.mp e2 x m);have D (i:Fin 50):nz K nZ[i]:=w _ (cW _ (cW _ (lb _)));have M (i:Fin 15):nz K og[i]:=w _ (cW _ (dA _ (lb _)));have I (i:Fin 8):nz K oa[i]:=w _ (dA _ (lb _));have d:= @OY _ _ _ X G;have j:= @Qn _ _ _ X G;exact⟨⟨n 0,n 1,n 2,n 3,n 4,n 5,n 6,n 7,n 8,n 9,n 10,n 11,n 12,n 13,n 14,n 15,n 16,n 17,n 18,n 19,n 20,n 21,n 22,n 23,n 24,n 25,n 26,n 27,n 28,n 29,n 30,b 0,b 1,b 2,b 3,b 4,b 5,b 6,b 7,b 8,b 9,c 0,f 0,f 1,f 2,c 1,f 3,f 4,f 5,c 2,f 6,f 7,c 3,f 8,f 9,f 10,c 4,f 11,f 12,f 13,f 14,c 5,f 15,f 16,f 17,c 6,f 18,c 7,f 19,f 20,lf,lx,d (D 0) fZ,d (D 1) dg,d (D 2) dg,d (D 3) dg,d (D 4) fZ,d (D 5) jS,d (D 6) jS,d (D 7) HZ,d (D 8) jS,d (D 9) jS,d (D 10) fZ,d (D 11) oo,d (D 12) oo,d (D 13) dg,d (D 14) oo,d (D 15) oo,d (D 16) oo,d (D 17) oo,d (D 18) oo,d (D 19) dg,d (D 20) dg,d (D 21) jS,d (D 22) fZ,d (D 23) fZ,d (D 24) fZ,d (D 25) fZ,d (D 26) fZ,d (D 27) fZ,d (D 28) dg,d (D 29) fZ,d (D 30) dg,d (D 31) dg,d (D 32) dg,d (D 33) dg,d (D 34) dg,d (D 35) dg,d (D 36) dg,d (D 37) dg,d (D 38) dg,d (D 39) uC,d (D 40) dg,d (D 41) dg,d (D 42) jS,d (D 43) dg,d (D 44) dg,d (D 45) dg,d (D 46) dg,d (D 47) dg,d (D 48) fZ,d (D 49) dg,iB (M 0) jS,iB (M 1) fZ,iB (M 2) fZ,iB (M 3) jS,iB (M 4) fZ,iB (M 5) fZ,iB (M 6) dg,iB (M 7) jS,iB (M 8) fZ,iB (M 9) dg,iB (M 10) jS,iB (M 11) jS,iB (M 12) dg,iB (M 13) dg,iB (M 14) dg,j (I 0) (cc 0) rfl uC,j (I 1) (cc 1) rfl uC,j (I 2) (cc 2) rfl dg,j (I 3) (cc 3) rfl fZ,j (I 4) (cc 4) rfl HZ,j (I 5) (cc 5) rfl uC,j (I 6) (cc 6) rfl dg,j (I 7) (cc 7) rfl fZ⟩,beq_iff_eq.mp a7,a8,a9⟩
end
end PP
end
open PySem PySem.W PyProof.Rows PP
theorem PySem.Challenge.cw_passpatterns_s01_answers_holds : PySem.Challenge.rw_passpatterns_s01_answers.Holds := by
 have k1:rh.wellSaid=true:=by decide +kernel
 refine holds_os (q:=dB) (loose:=[]) (Xt:=fun s=>xlAt dB [] s&&recOk [] s) (XP:=XL dB []) (YP:=fun _ h=>∃K:hO,K.In h/\(uE K,xM K,xN K)=(true,true,(nZ++og++oa).map sO)) (N:=9224) Qc (fun _ _ e=>⟨_,AY,e⟩) (fun _ _ _⟨K,a,b⟩ k=>⟨K,a.keeps k,b⟩) (fun s e=>xl_of s (ML.mp e).1) XL.keeps (by rfl) (by rfl) (by rfl) (fun s e=>recFacts_of (ML.mp e).2) os_shapes k1 (by decide +kernel) ⟨rfl,rfl,rfl,rfl,rfl,by decide +kernel⟩ ⟨[.list [.int 2]],by decide +kernel,by decide +kernel⟩ ?_;intro w s_0 s₁ mg mb G Y fa o pm cd doc dV kV ho hd hcd Il hmg hg args vals as hpre hlay hrd hwl hlo;obtain⟨K,X,e⟩:=Y;obtain⟨T,h1,h2,h4⟩:=Yx X G.T.g e;exact PJ G X hmg hg hpre hlay hwl k1 T h1 h2 (by decide +kernel) h4
