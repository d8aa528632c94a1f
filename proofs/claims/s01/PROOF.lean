import PyProof.Rows.All
import Wide.All
import OpenK.AllK
import Wide.FinOn
import PyProof.EqAt
import PyProof.EqKinds
import PyProof.TupleCall
import KE.BitLaws
import Open.SpecLaws
import KE.OsHead
import KE.OsGo
import KE.KSortTup
import KE.KSortKey
import KE.KDictList
import KE.KRevSl
import PySem.Challenge.RW_takenapart_s01_answers
set_option Elab.async false
set_option compiler.extract_closed false
set_option linter.all false
set_option maxRecDepth 100000
set_option maxHeartbeats 2000000
local macro_rules | `(⋯) => `(by lia)
local macro_rules | `(∅) => `(by decide)
open Array renaming getD->JF,getD_eq_getD_getElem?->yL,getElem?_eq_getElem->AH,getElem?_toList->ii,length_toList->cX,perm_iff_toList_perm->Av,toList->US
open Bool renaming and_eq_false_iff->GR,and_eq_true->cR,and_eq_true_iff->Hl,eq_iff_iff->jH,false_eq_true->d7,false_ne_true->bN,noConfusion->dI,or_eq_false_iff->Hk,or_eq_true->eP,or_false->UR
open Classical renaming byContradiction->ae,choose->lP,choose_spec->gV,propDecidable->oF
open False renaming elim->dY
open ForInStep renaming yield->pI
open Int renaming dvd_add->yJ,dvd_coe_gcd->Sa,dvd_mul_of_dvd_left->EB,dvd_mul_of_dvd_right->e_,dvd_mul_right->pH,dvd_of_fmod_eq_zero->EA,dvd_refl->GQ,dvd_sub->JD,dvd_zero->wX,ediv_nonneg->R_,emod_eq_of_lt->NT,emod_eq_zero_of_dvd->qQ,emod_lt_of_pos->cW,emod_nonneg->dr,fdiv_eq_ediv_of_nonneg->Bk,fmod_eq_emod_of_nonneg->dL,gcd->iZ,gcd_dvd_left->mY,gcd_dvd_right->iY,gcd_eq_zero_iff->uC,le_of_dvd->fJ,le_of_mul_le_mul_left->CM,le_refl->js,le_trans->ou,lt_of_le_of_lt->Np,lt_or_lt_of_ne->oE,mul_comm->gX,mul_ediv_add_emod->eD,mul_ediv_cancel'->tK,mul_ediv_cancel_left->Ee,mul_eq_zero->As,mul_fdiv_cancel_left->Ed,mul_le_mul->UQ,mul_le_mul_of_nonneg_left->dX,mul_le_mul_of_nonneg_right->mX,mul_ne_zero->cF,mul_neg_of_pos_of_neg->CL,mul_nonneg->eO,mul_nonpos_of_nonneg_of_nonpos->d9,mul_one->JC,mul_pos->ku,mul_zero->GP,natAbs->oC,natAbs_add_le->wW,natAbs_dvd->tJ,natAbs_dvd_natAbs->Hj,natAbs_eq->Ec,natAbs_mul->cP,natAbs_mul_self->Lp,natAbs_natCast->il,natAbs_pos->Bj,natAbs_sub_le->NS,natCast_add->fT,natCast_mul->cg,natCast_pow->rK,ofNat->Ez,ofNat_dvd->qi,ofNat_dvd_left->dc,ofNat_eq_natCast->JB,ofNat_le->GO,pow_zero->GN,toNat->RG,toNat_natCast->dM,toNat_of_nonneg->uB,zero_add->GL,zero_dvd->GK
open Int.ofNat renaming inj->rJ
open Lean.Grind renaming CommRing->bI
open Lean.Grind.CommSemiring renaming mul_comm->GH
open Lean.Grind.Semiring renaming add_zero->GB,ofNat_eq_natCast->kc,ofNat_succ->D4,pow_add->GZ,pow_add->No,pow_succ->ay,pow_succ->dC,pow_zero->aL,pow_zero->fN
open List renaming all_cons->UP,all_eq_true->fu,any_cons->kZ,any_eq_true->qt,any_map->Ey,append_assoc->iU,append_nil->eN,append_of_mem->d6,cons_append->kF,countP_eq_length_filter->yI,dropLast_concat_getLast->jG,dropWhile_cons->JA,dropWhile_sublist->Ex,drop_eq_getElem_cons->oV,drop_eq_nil_iff->s_,drop_length->NR,drop_of_length_le->Ew,drop_succ_cons->Jz,drop_zero->oA,eq_nil_of_length_eq_zero->b5,ext_getElem->qp,ext_getElem?->iT,filterMap_cons->nE,filter_append->ig,filter_append_perm->Ea,filter_cons->gc,filter_nil->nr,find?_cons->lj,flatMap_cons->pB,flatten_append->nD,flatten_cons->eY,foldl->AF,foldl_append->Nn,foldl_cons->yH,foldr_cons->RF,forIn_nil->R9,getD->aD,getElem?_append_left->bA,getElem?_append_right->bK,getElem?_cons_succ->ji,getElem?_cons_zero->eI,getElem?_drop->Ln,getElem?_eq_getElem->aa,getElem?_eq_none->aG,getElem?_eq_some_iff->ax,getElem?_map->aE,getElem?_mapIdx->Hi,getElem?_range->t_,getElem?_replicate->gz,getElem?_set->Nm,getElem?_set_ne->sZ,getElem?_set_self->lW,getElem_cons_drop->Ev,getElem_map->NQ,getElem_mapIdx->tZ,getElem_mem->ba,getElem_zipWith->Hh,getLast_eq_getElem->dH,getLast_map->xF,getLast_mem->cC,isEmpty_iff->xE,length->fR,length_append->bw,length_cons->a7,length_drop->ei,length_eq_zero_iff->dG,length_filter_le->rH,length_map->ab,length_mapIdx->fe,length_nil->cV,length_pos_iff->bL,length_range->eF,length_replicate->fZ,length_reverse->kM,length_set->ee,length_singleton->ck,length_take->da,length_zipWith->kL,lookup->lE,lookup_cons->gY,map->Hg,map_append->aF,map_congr_left->cY,map_cons->aR,map_drop->CJ,map_map->be,map_nil->cK,map_replicate->Lm,map_reverse->NP,map_set->iS,map_singleton->jr,map_take->uA,mem_append->aO,mem_append_left->bq,mem_append_right->bF,mem_cons->bi,mem_cons_of_mem->al,mem_cons_self->aq,mem_filter->dF,mem_filterMap->Ll,mem_flatMap->xD,mem_iff_getElem->cO,mem_map->ao,mem_map_of_mem->dE,mem_of_getElem?->a_,mem_of_mem_take->sY,mem_or_eq_of_mem_set->fX,mem_range->cr,mem_replicate->Lk,mem_reverse->jh,mem_singleton->a6,nil_append->gE,nodup_append->jP,nodup_cons->bO,nodup_nil->lV,nodup_range->kE,not_mem_nil->jg,of_mem_zip->yG,pairwise_append->m9,pairwise_cons->ie,pairwise_iff_getElem->fW,pairwise_map->Nl,perm_append_comm->jN,perm_ext_iff_of_nodup->oz,perm_middle->c_,range->aX,range_succ->gD,replicate->aQ,replicate_succ->dD,replicate_zero->Jy,reverse_append->Jx,reverse_cons->lU,reverse_nil->NO,reverse_reverse->Hf,set->oy,set_set->iR,singleton_append->rG,size_toArray->bc,sum_append->li,sum_cons->mW,take_append_drop->jM,take_append_of_le_length->x9,take_length->bR,take_of_length_le->lT,take_succ_eq_append_getElem->aW,take_zero->fI,toArray->lS,zipWith->nY
open List.Pairwise renaming cons->iX,filter->x_,nil->kJ
open List.Perm renaming cons->gO,cons_inv->nj,nil->Lo,refl->ni,trans->kG
open Nat renaming add_comm->jB,add_le_add->Bh,add_mul->tI,add_mul_div_right->He,add_sub_cancel->lD,add_sub_cancel_left->cT,add_zero->lZ,div_add_mod->nB,div_div_eq_div_mul->GG,div_eq_of_lt->RE,div_lt_iff_lt_mul->Hc,dvd_antisymm->RD,dvd_of_mod_eq_zero->GF,dvd_refl->gv,dvd_trans->D_,eq_zero_of_zero_dvd->Eu,exists_eq_add_of_le->eK,gcd->ot,gcd_comm->wV,gcd_dvd_left->x8,gcd_dvd_right->wU,gcd_zero_right->vS,le_add_right->mV,le_mul_of_pos_left->rC,le_of_dvd->eQ,le_of_eq->wT,le_of_lt->bV,le_of_not_lt->mU,le_of_succ_le->pG,le_refl->aw,le_succ->Jw,le_total->wS,le_trans->br,log2_lt->yF,lt_irrefl->fH,lt_of_le_of_lt->bS,lt_of_lt_of_le->bh,lt_or_gt_of_ne->Nj,lt_succ_of_lt->pF,lt_succ_self->kI,lt_trans->bU,lt_trichotomy->fM,min_eq_left->lw,mod_eq_zero_of_dvd->GD,mod_lt->ja,mul_add->Jv,mul_assoc->jL,mul_comm->du,mul_le_mul->dJ,mul_le_mul_left->di,mul_le_mul_right->bu,mul_lt_mul''->mT,mul_pos->Ju,mul_succ->wR,mul_zero->rB,ne_of_gt->rA,ne_of_lt->cN,one_le_two_pow->jA,one_mul->kt,pos_of_ne_zero->ik,pow_add->iW,pow_le_pow_left->nX,pow_le_pow_right->bg,pow_lt_pow_right->dU,pow_pos->kr,pow_succ->cv,pow_zero->gu,strongRecOn->R8,sub_add_cancel->vR,sub_lt_left_of_lt_add->CI,sub_lt_sub_iff_right->D9,sub_pos_of_lt->NM,sub_self->kH,sub_zero->lY,succ_mul->jz,succ_pos->oq,zero_add->fL,zero_le->bX
open Ne renaming symm->lC
open OfNat renaming ofNat->gU
open Option renaming getD_none->Lj,getD_some->gT,isSome_map->Jt,isSome_some->tY,map_eq_some_iff->b9,map_some->xC,none->UO
open Option.some renaming inj->aZ,injEq->gb
open Or renaming inl->CH,inr->wa
open Prod renaming fst->cy,snd->dt
open Prod.mk renaming injEq->jq
open PyFlat renaming call->Es,calls->nq,played->RC,row->G_,rows->Er,told->UM
open PyProof.Rows renaming AllBare->Aw,Constant_none->JE,IntsAre->wb,Subscript_->Gz,boot_abs->RA,boot_list->kK,boot_max->Rz,boot_range->UL,callWith_type1->d_,envOfC->vP,listUpdate_at->xA,mirror_perm->vO,seqObj->kq,subscriptTail->Jn,subscriptTail_builtinR->Nf
open PyRc37 renaming answers->NL,answers_asked->Ep,calls->R7,shape->gK,whole->qo
open PySem renaming Addr->aH,Arguments->Lq,Around->jQ,BindsTo->Nv,Env->Nr,Expr->gA,Fin->Ni,FuncData->fY,Heap->f9,IntMulOk->GJ,IsRangeIter->CK,NameKind->jC,Obj->kY,Pos->Et,Program->cI,Scope->oU,Shared->aU,Stmt->rm,Str->cJ,Value->aI,Within->D8,World->eU,assign->Gy,assignEach->nA,atKey->Gx,attributeBase->xB,backTo->lX,backToKw->RB,behindInMarks->kf,binaryOp->mO,bindC->Lh,bindL->Lg,bootBuiltins->pk,builtinsNs->Gv,cLine->tW,call_meets->xY,callerA->Ng,cellsFrom->eW,codeAny_mono->tG,compEnvC->gH,compareOp->gx,eval->gG,evalPart_none->Jo,foldedSetIterable->kD,getItem->An,getMethod->Le,holding->Am,importedModules->D3,isTrue->UK,keywordEach->CA,letOwnedTupleGo->tU,mainGlobals->fF,mem_of_lookup->cB,model->b7,notedBy->Em,pushCells->pD,pushCells_keeps->tT,pyIter->UJ,seqIndex_neg->Ak,seqIndex_of->Cz,sizeLine->bn,sizeLine_eq->qY,sliceBounds->on,slot_list_getitem->Aj,starEach->b8,subscripted->Cy,swapsWith->nz,sysModules->kR,treeTable->Ld,tupleKind->Bf,tupleKind_room_in1->xX,typeIs_int->UI,valueAt->Ai,wpAny_Call_Name_kw->iO,wpAny_Name->UH,wpAny_bind->bv,wpAny_call->UG,wpAny_execs_nil->tS,wpAny_getItem_list_neg->Nd,wpAny_getItem_list_slice->Jm,wpAny_holding->rh,wpAny_isTrue_Compare1->NJ,wpAny_loadName_cell->R0,wpAny_loadName_local->Rw,wpAny_loadPart'->eV,wpAny_mono->gw,wpAny_passesOwn->ka,wpAny_pure->cM,wpAny_pyIter_range->UF,wpAny_pyIter_rangeiter->Nc,wpAny_pyNext_range_end->Nb,wpAny_standAt->Jl,wpAny_truthy_bool->qX
open PySem.Around renaming under->CN,under_plainId->EE
open PySem.Builtin.Int renaming intBits->AG
open PySem.Builtin.List renaming listTooLong->jR
open PySem.Builtin.Range renaming rangeSize->nF
open PySem.Calls renaming Name_function_global->Au,spliced_cons->uD,spliced_nil->vT
open PySem.Challenge renaming pw_takenapart_s01_answers->nW,rw_takenapart_s01_answers->nV
open PySem.Code renaming isFrame->ED
open PySem.F renaming plainAttrs_list->eE,slot_dict_items->Sb,slot_list_append->f8,slot_list_extend->Ar,type_list_append->f7,type_list_extend->Aq
open PySem.Heap renaming SameBut->wc,get?_push_ne->Nq,get?_push_of_some->bx,get?_push_size->cD,get?_update_other->EC,lt_size->bG,size_push->eZ
open PySem.Heap.IsSliceOf renaming new->yK
open PySem.IsRange renaming new->Eb
open PySem.NameKind renaming cell->Nk,free->ox
open PySem.Obj renaming mapSeq->fK
open PySem.Paired renaming length->jy,snoc->UN
open PySem.PassesOwn renaming never->a9
open PySem.SeqAt renaming EqAt->uv
open PySem.SeqAt.EqAt renaming int_int->CF,int_str->CD,same->GA,str_int->CC
open PySem.Str renaming ofString->rj
open PySem.Value renaming bool->Ao,int->cH,isStrOf->R6,none->uu,ref->ci,str->CB,type->oo
open PySem.Value.type renaming inj->GY
open PySem.W renaming Frag->ai,WData->tX,WRecords->Js,WellAll->vY,boot_drawn->Gw,boot_heap->lc,boot_toks->Lf,callWith_K->GC,callWith_K0->Eo,cellsFrom_some->Bg,codeIn->x6,emptyDict->fA,findIn->gW,fnOf->nh,handedIn->Jr,hasDictIn->uz,instObj->iw,isFn->uy,kas_asc->pj,kas_count->pE,kas_desc->Ry,kas_item->Jq,kas_place->sB,kas_rev->Al,kas_sort->Rx,kas_sort->vQ,kat_snds->Jp,keepIn->jO,length_le_weightAllW->wQ,lookIn->rz,makesIn->Li,methodCall_KW->CG,methodObj->G9,mg_of->Ap,plainGet->pA,plainGet_of->sC,plainOver->G8,takerIn->wP
open PySem.W.Codec renaming app->Nu,denoteAll->NU,encAll->qR
open PySem.W.WData renaming weightAll->NK
open Quotient renaming lift->Nh
open Rc37 renaming Small->cU,addM->lB,apart->cq,asMod->dZ,before->dO,bothM->ga,bound->mG,byDegree->ux,choices->gS,commonOf->fG,content->aB,degree->dB,derived->gR,divide->xZ,does->cx,first->eL,gcdM->jJ,gcdOf->ow,joined->sX,leading->bm,lessM->ic,minusM->m7,modParts->uw,mul->mZ,mulM->jf,ofDegree->mS,often->gC,onesM->kg,over->tH,padded->px,pick->iP,powM->qm,powN->D7,power->AE,prim->aV,prime->q_,primes->pw,refused->v_,restM->jp,simples->v0,toInt->h_,trim->aN,trimM->i9,value->jo
open Rc37Neutral renaming asked1->rp,natural->AD,signedBy->g_,step->D6,upTo->D5,whole32->AB
open Sum renaming inl->gB,inr->wO
open Sum.inl renaming inj->vZ
open True renaming intro->qZ
abbrev ah:=@if_neg
abbrev aj:=@if_pos
abbrev ap:=@absurd
abbrev aK:=@congrArg
section
namespace L2
open PySem PySem.Spec PyProof.Rows
noncomputable def mB(s:rm)(j:Nat):rm:=match s with
 |.ClassDef _ _ _ body _ _ _ _ _ _ _=>body.getD j (.Pass ⟨0,0,0,0⟩)
 |_=>.Pass ⟨0,0,0,0⟩
noncomputable def vA(s:rm):Lq:=match s with
 |.FunctionDef _ a _ _ _ _ _ _ _ _=>a
 |_=>{posonlyargs:=[],args:=[],vararg:=none,kwonlyargs:=[],kw_defaults:=[],kwarg:=none,defaults:=[]}
noncomputable def qG(s:rm):List rm:=match s with
 |.FunctionDef _ _ b _ _ _ _ _ _ _=>b
 |_=>[]
noncomputable def jx(s:rm):oU:=match s with
 |.FunctionDef _ _ _ _ _ _ sc _ _ _=>sc
 |_=>{kind:=.function,names:=[],isGenerator:=false,isCoroutine:=false}
end L2
end
section
namespace Pt
open PySem PySem.Spec PyProof.Rows L2
noncomputable def top(i:Nat):rm:=nW.main.body.getD i (.Pass ⟨0,0,0,0⟩)
open PySem.W in
noncomputable def fv(K:ai)(q:cJ)(v:Option (Option aI)):Option (cJ×cJ×Lq×FuncBody×oU×aH×List (cJ×aH)×aI×aH×Bool):=match v with
 |some (some (.ref a))=>(match K.lookup a with
  |some ⟨_,_,.func d,_⟩=>some (d.name,d.qualname,d.params,d.body,d.scope,d.globals,d.closure,d.defaults,d.builtins,codeIn K d.code q&&keepIn K (.ref a)&&isFn K (.ref a))
  |_=>none)
 |_=>none
noncomputable def fx(x q:cJ)(st:rm):Option (cJ×cJ×Lq×FuncBody×oU×aH×List (cJ×aH)×aI×aH×Bool):=some (x,q,vA st,.stmts (qG st),jx st,fF,[],.none,Gv,true)
noncomputable def fns:List (cJ×Nat):=List.append (α:=cJ×Nat) [("trimmed",1),("common_divisor",2),("content",3),("primitive",4),("derivative",5),("product",6),("reduced",14),("scaled",15),("added",16),("difference",17),("divided",18),("rest_by",19),("product_rest",20),("number_inverse",21),("monic",22),("monic_common",23),("inverse",24),("power_above",26),("lifted",27),("quotient",7),("scaled_rest",8),("primitive_common",9),("is_prime",39),("nearest",43),("coefficient_limit",42),("keeps_apart",40),("power_rows",29),("without_column",31),("first_filled",32),("fixed_equations",30)] [("solved",33),("fixed_basis",34),("pieces_by",35),("modular_parts",36),("best_prime",41),("choice_behind",46),("last_may_fit",44),("joined",45),("find_part",47),("whole_parts",48),("simple_parts",49),("order",50),("parts",51),("is_simple",52),("value",12),("how_often",11),("common",10),("signed",69),("told_whole",70),("call_length",72),("answers",73)]
noncomputable def mts:List (cJ×cJ×Nat):=[("__init__","Desk.__init__",0),("begin","Desk.begin",1),("put","Desk.put",2),("value_at","Desk.value_at",6),("of_both","Desk.of_both",5),("of_part","Desk.of_part",4),("of_polynomial","Desk.of_polynomial",3),("answer","Desk.answer",7)]
noncomputable def cns:List (cJ×Int):=[("PRIMES_LOOKED_AT",6),("MOST_COEFFICIENTS",17),("SET",1),("PART",5),("POWER",6),("VALUE",9),("OUT_OF_RANGE",(-1)),("FARTHEST_X",60),("POLYNOMIAL_IS_0",(-3)),("DEGREE",2),("CONTENT",3),("COUNT",4),("SIMPLE",7),("BEGIN",0),("COMMON",8)]
noncomputable def nns:List cJ:=["len","abs","max","range","enumerate","list","sum","any","zip","sorted"]
open PySem.W in
noncomputable def ob(K:ai):=match nsIn K fF "Desk" with
 |some (some (.ref C))=>some (fns.map λt:cJ×Nat=>fv K t.1 (nsIn K fF t.1),mts.map λt:cJ×cJ×Nat=>fv K t.2.1 (findIn K (.ref C) t.1),cns.map λt:cJ×Int=>(match nsIn K fF t.1 with|some (some (.int i _))=>some i|_=>none),nns.map (nsIn K fF),findIn K (.ref C) "__setattr__",findIn K (.ref C) "polynomial",findIn K (.ref C) "other",plainGet K C cJ.empty&&hasDictIn K C&&plainOver K C&&makesIn K C&&keepIn K (.ref C))
 |_=>none
noncomputable def good:=some (fns.map λt:cJ×Nat=>fx t.1 t.1 (top t.2),mts.map λt:cJ×cJ×Nat=>fx t.1 t.2.1 (mB (top 71) t.2.2),cns.map λt:cJ×Int=>some t.2,nns.map λ_=>some (none:Option aI),some (some (aI.builtin "object.__setattr__")),some (none:Option aI),some (none:Option aI),true)
end Pt
namespace Hd
open PySem PySem.W PyProof.Rows
noncomputable def frg(as:List aH)(h:f9):Frag:=as.filterMap λa=>(h.get? a).map λo=>(a,o)
theorem IC(h:f9):∀as:List aH,(frg as h).In h
 |[],_,_,e=>by cases e
 |b::r,a,o,e=>by
  unfold frg at e;rw[nE]at e;cases g:h.get? b with
   |none=>rw[g]at e;exact IC h r a o e
   |some x=>rw[g]at e;simp only[xC,gY]at e;split at e;(·rename_i q;cases e;rw[eq_of_beq q];exact g);exact IC h r a o e
noncomputable def hk(as:List aH):Hook:=⟨_,λs=>Pt.ob (frg as s.heap),λ_=>Pt.good,λ_ h=>∃K:Frag,K.In h/\Pt.ob K=Pt.good,λ_ s e=>⟨_,IC _ _,e⟩,λ_ _ _ x k=>x.elim λK y=>⟨K,y.1.keeps k,y.2⟩⟩
noncomputable def yc(tb:String->Option Builtin)(p:cI)(w:eU)(n₀:Nat)(ann:Option aI):Nat->SharedT->Thread->Option SharedT
 |0,_,_=>none
 |n+1,s,t=>match through t with
  |true=>some s
  |false=>match stepOk n₀ ann t with
   |false=>none
   |true=>match stepT (denote tb) p w s t with
    |some (s',t')=>yc tb p w n₀ ann n s' t'
    |none=>none
theorem Bq{tb:String->Option Builtin}{p:cI}{w:eU}{n₀:Nat}{ann:Option aI}:∀{n:Nat} {s s':SharedT} {t:Thread},yc tb p w n₀ ann n s t=some s'->topRun tb p w n₀ ann n s.abs t=some s'.abs
 |0,_,_,_,h=>by cases h
 |n+1,s,s',t,h=>by
  unfold yc at h;unfold topRun;cases ht:through t with
   |true=>rw[ht]at h;cases h;rfl
   |false=>
    rw[ht]at h;cases hk:stepOk n₀ ann t with
     |false=>rw[hk]at h;cases h
     |true=>
      rw[hk]at h;cases hs:stepT (denote tb) p w s t with
       |none=>rw[hs]at h;cases h
       |some r=>obtain⟨s₂,t₂⟩:=r;rw[hs]at h;rw[stepT_spec hs];exact Bq h
noncomputable def grow:List kY->Nat->BT->BT
 |[],_,t=>t
 |o::r,n,t=>grow r (n+1) (t.ins n o)
noncomputable def VT(P:Params):BT:=grow (lc P).objs.toList 0 .nil
noncomputable abbrev prog:cI:=nW
noncomputable def looks(q:cI)(loose:List cJ)(Xt:aU->Bool){α:Type}(Yf:aU->α)(h₀:f9)(s:aU):=(staticsOk (D3 prog.main.body) h₀ s.heap&&namesBound prog s.heap&&gensDone s&&laidKept h₀ s.heap,openSeen q loose (D3 prog.main.body) Xt true s,Yf s)
theorem Ts{q:cI}{loose:List cJ}{Xt:aU->Bool}{α:Type}{Yf:aU->α}{Ya:eU->α}{N m₀:Nat}{ann:Option aI}{life:Life}(e:opening prog=plainProg prog.main.scope.names)(hN:Nat.ble 600 N=true)(f:∀s,fenceModules? prog s=some s)(size:∀w:eU,((lc w.params).isNs fF,(lc w.params).objs.size,(lc w.params).nsMap fF "__annotations__")=(true,m₀,ann))(bt:∀w:eU,absHeap (VT w.params) m₀ life=lc w.params)(run:∀w:eU,(λos=>(yc Ld prog w m₀ ann N ⟨VT w.params,m₀,life,Array.mk [],Gw,Lf,os⟩ (topStub prog)).map λs=>looks q loose Xt Yf (lc w.params) s.abs)=λ_=>some (true,openGood q loose,Ya w)):LeftO prog q loose Xt Yf Ya N:=λw=>by
 obtain⟨⟨h,gs,d,k,os⟩,e1,e2⟩:=b9.mp (boot_open e hN f w);obtain⟨rfl,rfl,rfl,rfl⟩:h=lc w.params/\gs=Array.mk []/\d=Gw/\k=Lf:=by simpa using e2
 obtain⟨z1,z2,z3⟩:_/\_/\_:=by simpa only[jq]using size w
 obtain⟨s,r1,r2⟩:=b9.mp (congrFun (run w) os);obtain⟨l1,l2,l3⟩:_/\_/\_:=by simpa only[looks,jq]using r2
 have r:=Bq r1;have b:=bt w;simp only[SharedT.abs,b]at r;have t:topFrom Ld prog w N ⟨lc w.params,Array.mk [],Gw,Lf,os⟩=some s.abs:=by unfold topFrom;dsimp only;rw[z1,z2,z3];show(topRun Ld prog w m₀ ann N ⟨lc w.params,Array.mk [],Gw,Lf,os⟩ (topStub prog)).bind _=_;rw[r];show(match staticsOk (D3 prog.main.body) (lc w.params) s.abs.heap&&namesBound prog s.abs.heap&&gensDone s.abs&&laidKept (lc w.params) s.abs.heap with|true=>_|false=>_)=_;rw[l1];rfl
 unfold openEnds;rw[e1];show Option.map _ (topFrom Ld prog w N _)=_;rw[t];show some (openSeen _ _ _ _ _ s.abs,Yf s.abs)=_;rw[l2,l3]
noncomputable def Y6:List aH:=[3,21,20,28,27,35,34,40,39,45,44,52,51,95,94,100,99,107,106,112,111,119,118,126,125,133,132,140,139,147,146,154,153,161,160,168,167,175,174,59,58,64,63,71,70,232,231,258,257,251,250,239,238,182,181,192,191,199,198,187,186,204,203,211,210,218,217,225,224,246,245,275,274,265,264,270,269,280,279,285,284,290,289,297,296,304,303,311,310,90,89,83,82,76,75,331,330,338,337,413,412,420,419,402,401,352,351,359,358,364,363,392,391,385,384,378,377,371,370,399,398]
noncomputable def vw:cI:=view prog [73]
noncomputable def los:List cJ:=prog.main.scope.names.map (·.1)
theorem wv:LeftO prog vw los (λs=>recOk [] s) (hk Y6).obs (hk Y6).val 2410:=Ts (m₀:=11) (ann:=some (.ref 6)) (life:={}) (by kernel_rfl) rfl (λ_=>rfl) (λw=>by kernel_rfl) (λw=>by kernel_rfl) λw=>by kernel_rfl
end Hd
end
section
namespace Tk
open Lean.Grind
section
variable {R:Type}[bI R]
noncomputable def bZ:Nat->(Nat->R)->R
 |0,_=>0
 |n+1,f=>bZ n f+f n
theorem dN(f:Nat->R):bZ 0 f=0:=rfl
theorem bE(n:Nat)(f:Nat->R):bZ (n+1) f=bZ n f+f n:=rfl
theorem bJ{f g:Nat->R}(h:∀i,i<n->f i=g i):bZ n f=bZ n g:=by
 induction n with
  |zero=>rfl
  |succ n ih=>rw[bE,bE,ih (λi hi=>h i ⋯),h n ⋯]
theorem kT(n:Nat):bZ n (λ_=>(0:R))=0:=by
 induction n with
  |zero=>rfl
  |succ n ih=>rw[bE,ih];grind
theorem eR{f:Nat->R}(h:∀i,i<n->f i=0):bZ n f=0:=by rw[bJ h,kT]
theorem kN(n:Nat)(f g:Nat->R):bZ n (λi=>f i+g i)=bZ n f+bZ n g:=by
 induction n with
  |zero=>simp only[dN];grind
  |succ n ih=>simp only[bE,ih];grind
theorem n9(n:Nat)(f g:Nat->R):bZ n (λi=>f i-g i)=bZ n f-bZ n g:=by
 induction n with
  |zero=>simp only[dN];grind
  |succ n ih=>simp only[bE,ih];grind
theorem jV(n:Nat)(a:R)(f:Nat->R):bZ n (λi=>a*f i)=a*bZ n f:=by
 induction n with
  |zero=>simp only[dN];grind
  |succ n ih=>simp only[bE,ih];grind
theorem jU(n:Nat)(a:R)(f:Nat->R):bZ n (λi=>f i*a)=bZ n f*a:=by
 induction n with
  |zero=>simp only[dN];grind
  |succ n ih=>simp only[bE,ih];grind
theorem n_(m n:Nat)(f:Nat->R):bZ (m+n) f=bZ m f+bZ n (λi=>f (m+i)):=by
 induction n with
  |zero=>simp only[dN,lZ];grind
  |succ n ih=>rw[<-Nat.add_assoc,bE,ih,bE];grind
theorem fC(n:Nat)(f:Nat->R):bZ (n+1) f=f 0+bZ n (λi=>f (i+1)):=by
 rw[jB,n_,bE,dN];have:(λi=>f (1+i))=(λi=>f (i+1)):=by funext i;rw[jB]
 rw[this];grind
theorem Oh(n:Nat)(f:Nat->R):bZ n f=bZ n (λi=>f (n-1-i)):=by
 induction n generalizing f with
  |zero=>rfl
  |succ n ih=>rw[fC,bE,ih];(have e:bZ n (λi=>f (n-1-i+1))=bZ n (λi=>f (n+1-1-i)):=by apply bJ;intro i hi;congr 1;lia);rw[e];have:n+1-1-n=0:=⋯;rw[this];grind
theorem LH(m n:Nat)(f:Nat->Nat->R):bZ m (λi=>bZ n (λj=>f i j))=bZ n (λj=>bZ m (λi=>f i j)):=by
 induction m with
  |zero=>simp only[dN,kT]
  |succ m ih=>simp only[bE,ih,kN]
theorem Og(n:Nat)(F:Nat->Nat->R):bZ n (λi=>bZ (i+1) (λj=>F i j))=bZ n (λj=>bZ (n-j) (λl=>F (j+l) j)):=by
 induction n with
  |zero=>rfl
  |succ n ih=>rw[bE,ih];rw[bE (n:=n) (f:=λj=>bZ (n+1-j) (λl=>F (j+l) j))];(have e1:bZ n (λj=>bZ (n+1-j) (λl=>F (j+l) j))=bZ n (λj=>bZ (n-j) (λl=>F (j+l) j)+F n j):=by apply bJ;intro j hj;have:n+1-j=(n-j)+1:=⋯;rw[this,bE];have:j+(n-j)=n:=⋯;rw[this]);have e2:n+1-n=1:=⋯;rw[e1,kN,e2,bE,bE,dN,lZ];grind
theorem iF{f:Nat->R}(hk:k<n)(h:∀i,i<n->i≠k->f i=0):bZ n f=f k:=by
 induction n with
  |zero=>lia
  |succ n ih=>rw[bE];by_cases e:k=n;(·subst e;rw[eR (λi hi=>h i ⋯ ⋯)];grind);rw[ih ⋯ (λi hi hn=>h i ⋯ hn),h n ⋯ (λe'=>e e'.symm)];grind
theorem wZ{f:Nat->R}(hmn:m<=n)(h:∀i,m<=i->i<n->f i=0):bZ n f=bZ m f:=by obtain⟨k,rfl⟩:∃k,n=m+k:=⟨n-m,⋯⟩;rw[n_,eR (n:=k) (λi hi=>h (m+i) ⋯ ⋯)];grind
end
end Tk
end
section
namespace Tk
open Lean.Grind
structure ag(R:Type)[bI R] where
 c:Nat->R
 fin:∃n,∀i,n<=i->c i=0
namespace ag
section
variable {R:Type}[bI R]
theorem ext{p q:ag R}(h:∀i,p.c i=q.c i):p=q:=by cases p;cases q;congr;funext i;exact h i
def Lt(p:ag R)(n:Nat):Prop:=∀i,n<=i->p.c i=0
theorem Lt.mono{p:ag R}(h:p.Lt m)(hmn:m<=n):p.Lt n:=λi hi=>h i ⋯
noncomputable def C(a:R):ag R:=⟨λi=>if i=0 then a else 0,1,λi hi=>by simp;lia⟩
noncomputable def X:ag R:=⟨λi=>if i=1 then 1 else 0,2,λi hi=>by simp;lia⟩
protected noncomputable def add(p q:ag R):ag R:=⟨λi=>p.c i+q.c i,by obtain⟨m,hm⟩:=p.fin;obtain⟨n,hn⟩:=q.fin;refine⟨m+n,λi hi=>?_⟩;rw[hm i ⋯,hn i ⋯];grind⟩
protected noncomputable def neg(p:ag R):ag R:=⟨λi=>-p.c i,by obtain⟨m,hm⟩:=p.fin;refine⟨m,λi hi=>?_⟩;rw[hm i ⋯];grind⟩
protected noncomputable def sub(p q:ag R):ag R:=⟨λi=>p.c i-q.c i,by obtain⟨m,hm⟩:=p.fin;obtain⟨n,hn⟩:=q.fin;refine⟨m+n,λi hi=>?_⟩;rw[hm i ⋯,hn i ⋯];grind⟩
noncomputable def conv(p q:Nat->R)(k:Nat):R:=bZ (k+1) (λi=>p i*q (k-i))
theorem Ga{p q:Nat->R}(hm:∀i,m<=i->p i=0)(hn:∀i,n<=i->q i=0)(k:Nat)(hk:m+n<=k+1):conv p q k=0:=by
 apply eR;intro i hi;by_cases h:m<=i;.rw[hm i h];grind
 rw[hn (k-i) ⋯];grind
protected noncomputable def mul(p q:ag R):ag R:=⟨conv p.c q.c,by obtain⟨m,hm⟩:=p.fin;obtain⟨n,hn⟩:=q.fin;exact⟨m+n,λi hi=>Ga hm hn i ⋯⟩⟩
protected noncomputable def npow(p:ag R):Nat->ag R
 |0=>C 1
 |n+1=>ag.mul (ag.npow p n) p
theorem MH(p q:Nat->R)(k:Nat):conv p q k=conv q p k:=by
 unfold conv
 rw[Oh];apply bJ;intro i hi;have e1:k+1-1-i=k-i:=⋯;have e2:k-(k-i)=i:=⋯;rw[e1,e2];grind
theorem IN(p q r:Nat->R)(k:Nat):conv (conv p q) r k=conv p (conv q r) k:=by
 unfold conv
 have e1:∀i,i<k+1->bZ (i+1) (λj=>p j*q (i-j))*r (k-i)=bZ (i+1) (λj=>p j*q (i-j)*r (k-i)):=by intro i _;rw[jU]
 rw[bJ e1,Og (k+1) (λi j=>p j*q (i-j)*r (k-i))];apply bJ;intro j hj;rw[<-jV];have:k+1-j=k-j+1:=⋯;rw[this];apply bJ;intro l hl;have e1:j+l-j=l:=⋯;have e2:k-(j+l)=k-j-l:=⋯;rw[e1,e2];grind
noncomputable instance:Add (ag R):=⟨ag.add⟩
noncomputable instance:Mul (ag R):=⟨ag.mul⟩
noncomputable instance:Neg (ag R):=⟨ag.neg⟩
noncomputable instance:Sub (ag R):=⟨ag.sub⟩
noncomputable def cw(n:Nat):R:=(Semiring.natCast (α:=R)).natCast n
noncomputable def lu(n:Int):R:=(Ring.intCast (α:=R)).intCast n
theorem sO(n:Int):(lu (-n):R)=-lu n:=Ring.intCast_neg n
theorem B_(n:Nat):(lu (n:Int):R)=cw n:=Ring.intCast_natCast n
theorem xj(n:Nat):(lu (gU n:Int):R)=gU n:=Ring.intCast_ofNat n
noncomputable instance:NatCast (ag R):=⟨λn=>C (cw n)⟩
noncomputable instance:IntCast (ag R):=⟨λn=>C (lu n)⟩
noncomputable instance(n:Nat):OfNat (ag R) n:=⟨C (gU n)⟩
noncomputable instance:SMul Nat (ag R):=⟨λn p=>ag.mul (C (cw n)) p⟩
noncomputable instance:SMul Int (ag R):=⟨λn p=>ag.mul (C (lu n)) p⟩
noncomputable instance:HPow (ag R) Nat (ag R):=⟨ag.npow⟩
theorem g9(p q:ag R)(i:Nat):(p+q).c i=p.c i+q.c i:=rfl
theorem i8(p q:ag R)(i:Nat):(p-q).c i=p.c i-q.c i:=rfl
theorem tP(p:ag R)(i:Nat):(-p).c i=-p.c i:=rfl
theorem qU(p q:ag R)(i:Nat):(p*q).c i=bZ (i+1) (λj=>p.c j*q.c (i-j)):=rfl
theorem yz(a:R)(i:Nat):(C a).c i=if i=0 then a else 0:=rfl
theorem z6(a:R):(C a).c 0=a:=rfl
theorem IU(a:R)(i:Nat):(C a).c (i+1)=0:=rfl
theorem dj(i:Nat):(0:ag R).c i=0:=by show(C (gU 0):ag R).c i=0;rw[yz];split<;>rfl
theorem QW(i:Nat):(1:ag R).c i=if i=0 then 1 else 0:=rfl
theorem RW(i:Nat):(X:ag R).c i=if i=1 then 1 else 0:=rfl
theorem cA(a:R)(p:ag R)(i:Nat):(C a*p).c i=a*p.c i:=by
 rw[qU,fC,z6,eR];.rw[lY];grind
 intro j hj;rw[IU];grind
theorem eC:(C 1:ag R)=1:=rfl
theorem jI:(C 0:ag R)=0:=rfl
theorem dw(a b:R):(C (a*b):ag R)=C a*C b:=by apply ext;intro i;rw[cA,yz,yz];split<;>grind
theorem Cv(a b:R):(C (a+b):ag R)=C a+C b:=by apply ext;intro i;rw[g9,yz,yz,yz];split<;>grind
theorem Rr(a:R):(C (-a):ag R)=-C a:=by apply ext;intro i;rw[tP,yz,yz];split<;>grind
theorem Rp(a b:R):(C (a-b):ag R)=C a-C b:=by apply ext;intro i;rw[i8,yz,yz,yz];split<;>grind
theorem one_mul'(p:ag R):1*p=p:=by apply ext;intro i;rw[<-eC,cA];grind
theorem nM(p q:ag R):p*q=q*p:=ext λi=>MH p.c q.c i
noncomputable instance:bI (ag R) where
 natCast:=inferInstance
 ofNat:=inferInstance
 nsmul:=inferInstance
 npow:=inferInstance
 intCast:=inferInstance
 zsmul:=inferInstance
 add_zero p:=ext λi=>by rw[g9,dj];grind
 add_comm p q:=ext λi=>by rw[g9,g9];grind
 add_assoc p q r:=ext λi=>by simp only[g9];grind
 mul_assoc p q r:=ext λi=>IN p.c q.c r.c i
 mul_one p:=by rw[nM,one_mul']
 mul_comm:=nM
 one_mul:=one_mul'
 left_distrib p q r:=ext λi=>by
  simp only[g9,qU]
  rw[<-kN]
  exact bJ λj _=>by grind
 zero_mul p:=ext λi=>by
  rw[<-jI,cA,yz];split<;>grind
 pow_zero p:=rfl
 pow_succ p n:=rfl
 right_distrib p q r:=by
  rw[nM (p+q) r,nM p r,nM q r]
  apply ext;intro i
  simp only[g9,qU]
  rw[<-kN]
  exact bJ λj _=>by grind
 mul_zero p:=by
  rw[nM]
  apply ext;intro i
  rw[<-jI,cA,yz];split<;>grind
 ofNat_succ n:=by
  show C (gU (n+1))=C (gU n)+C 1
  rw[D4,Cv]
 ofNat_eq_natCast n:=by
  show C (gU n)=C (cw n)
  rw[kc];rfl
 nsmul_eq_natCast_mul n p:=rfl
 neg_add_cancel p:=ext λi=>by rw[g9,tP,dj];grind
 sub_eq_add_neg p q:=ext λi=>by rw[g9,tP,i8];grind
 neg_zsmul n p:=by
  show C (lu (-n))*p=-(C (lu n)*p)
  apply ext;intro i
  rw[tP,cA,cA,sO];grind
 zsmul_natCast_eq_nsmul n p:=by
  show C (lu (n:Int))*p=C (cw n)*p
  rw[B_]
 intCast_ofNat n:=by
  show C (lu (gU n:Int))=C (gU n)
  rw[xj]
 intCast_neg n:=by
  show C (lu (-n:Int))=-C (lu n)
  rw[sO,Rr]
end
end ag
end Tk
end
section
namespace Tk
open Lean.Grind
def Dv{A:Type}[bI A](a b:A):Prop:=∃c,b=a*c
class iC (R:Type) [bI R]:Prop where
 ej:(1:R)≠0
 mul_eq:∀a b:R,a*b=0->a=0\/b=0
class nU (R:Type) [bI R]:Prop where
 ej:(1:R)≠0
 inv:∀a:R,a≠0->∃b,a*b=1
section
variable {A:Type}[bI A]
noncomputable instance[nU A]:iC A where
 ej:=nU.ej
 mul_eq a b h:=by
  by_cases ha:a=0
  .exact .inl ha
  .obtain⟨c,hc⟩:=nU.inv a ha
   right;grind
theorem iC.et[iC A]{a b c:A}(ha:a≠0)(h:a*b=a*c):b=c:=by
 have:a*(b-c)=0:=by grind
 rcases iC.mul_eq _ _ this with h|h;.exact ap h ha
 grind
theorem iC.jm[iC A]{a b:A}(ha:a≠0)(hb:b≠0):a*b≠0:=by
 intro h;rcases iC.mul_eq _ _ h with h|h;.exact ha h
 exact hb h
theorem iC.md[iC A]{a:A}(ha:a≠0)(n:Nat):a^n≠0:=by
 induction n with
  |zero=>rw[aL];exact iC.ej
  |succ n ih=>rw[ay];exact iC.jm ih ha
theorem Dv.refl(a:A):Dv a a:=⟨1,by grind⟩
theorem Dv.trans{a b c:A}(h:Dv a b)(k:Dv b c):Dv a c:=by obtain⟨x,rfl⟩:=h;obtain⟨y,rfl⟩:=k;exact⟨x*y,by grind⟩
theorem Dv.mul_left{a b:A}(c:A)(h:Dv a b):Dv a (c*b):=by obtain⟨x,rfl⟩:=h;exact⟨c*x,by grind⟩
theorem Dv.mul_right{a b:A}(c:A)(h:Dv a b):Dv a (b*c):=by obtain⟨x,rfl⟩:=h;exact⟨x*c,by grind⟩
theorem Dv.add{a b c:A}(h:Dv a b)(k:Dv a c):Dv a (b+c):=by obtain⟨x,rfl⟩:=h;obtain⟨y,rfl⟩:=k;exact⟨x+y,by grind⟩
theorem Dv.sub{a b c:A}(h:Dv a b)(k:Dv a c):Dv a (b-c):=by obtain⟨x,rfl⟩:=h;obtain⟨y,rfl⟩:=k;exact⟨x-y,by grind⟩
theorem Dv.neg{a b:A}(h:Dv a b):Dv a (-b):=by obtain⟨x,rfl⟩:=h;exact⟨-x,by grind⟩
theorem Dv.zero(a:A):Dv a 0:=⟨0,by grind⟩
theorem Dv.one(a:A):Dv 1 a:=⟨a,by grind⟩
theorem Dv.left(a b:A):Dv a (a*b):=⟨b,rfl⟩
theorem Dv.right(a b:A):Dv a (b*a):=⟨b,by grind⟩
theorem Dv.mul{a b c d:A}(h:Dv a b)(k:Dv c d):Dv (a*c) (b*d):=by obtain⟨x,rfl⟩:=h;obtain⟨y,rfl⟩:=k;exact⟨x*y,by grind⟩
theorem Dv.Di{a:A}(h:Dv 0 a):a=0:=by obtain⟨x,rfl⟩:=h;grind
theorem gr{a b:Int}:Dv a b↔a∣b:=by
 constructor;.rintro⟨c,rfl⟩;exact pH a c
 rintro⟨c,rfl⟩;exact⟨c,rfl⟩
theorem iJ(a:A)(m n:Nat):a^(m+n)=a^m*a^n:=GZ a m n
theorem iI(a:A)(m n:Nat):a^(m*n)=(a^m)^n:=by
 induction n with
  |zero=>rw[rB,aL,aL]
  |succ n ih=>rw[wR,GZ,ih,ay]
theorem kP(a b:A)(n:Nat):(a*b)^n=a^n*b^n:=by
 induction n with
  |zero=>simp only[aL];grind
  |succ n ih=>simp only[ay,ih];grind
theorem kO(n:Nat):(1:A)^n=1:=by
 induction n with
  |zero=>rw[aL]
  |succ n ih=>rw[ay,ih];grind
theorem nG(h:n≠0):(0:A)^n=0:=by
 cases n with
  |zero=>exact ap rfl h
  |succ n=>rw[ay];grind
end
noncomputable instance:iC Int where
 ej:=by decide
 mul_eq a b h:=As.mp h
namespace ag
section
variable {R:Type}[bI R]
theorem Lt.add{p q:ag R}(h:p.Lt n)(k:q.Lt n):(p+q).Lt n:=λi hi=>by rw[g9,h i hi,k i hi];grind
theorem Lt.sub{p q:ag R}(h:p.Lt n)(k:q.Lt n):(p-q).Lt n:=λi hi=>by rw[i8,h i hi,k i hi];grind
theorem Lt.neg{p:ag R}(h:p.Lt n):(-p).Lt n:=λi hi=>by rw[tP,h i hi];grind
theorem Lt.mul{p q:ag R}(h:p.Lt m)(h':q.Lt n)(hk:m+n<=k+1):(p*q).Lt k:=λi hi=>Ga h h' i ⋯
theorem Lt.zero(n:Nat):(0:ag R).Lt n:=λi _=>dj i
theorem Lt.C(a:R):(C a).Lt 1:=λi hi=>by rw[yz,ah ⋯]
theorem Lt.one:(1:ag R).Lt 1:=Lt.C 1
theorem Lt.X:(X:ag R).Lt 2:=λi hi=>by rw[RW,ah ⋯]
theorem Lt.kl{p:ag R}(h:p.Lt 0):p=0:=ext λi=>by rw[h i ⋯,dj]
theorem Lt.z4{p:ag R}(a:R)(h:p.Lt n):(ag.C a*p).Lt n:=λi hi=>by rw[cA,h i hi];grind
theorem Lt.o_{p:ag R}(h:p.Lt 1):p=ag.C (p.c 0):=ext λi=>by
 rw[yz];split;.subst i;rfl
 exact h i ⋯
theorem iA{p q:ag R}(h:p.Lt (m+1))(k:q.Lt (n+1)):(p*q).c (m+n)=p.c m*q.c n:=by
 rw[qU,iF (k:=m) ⋯];.congr 2;lia
 intro i hi hn;by_cases hm:i<m;.rw[k (m+n-i) ⋯];grind
 rw[h i ⋯];grind
theorem ng(p:ag R)(i:Nat):(X*p).c (i+1)=p.c i:=by
 rw[qU,iF (k:=1) ⋯];.rw[RW,aj rfl];have:i+1-1=i:=⋯;rw[this];grind
 intro j hj hn;rw[RW,ah hn];grind
theorem mE(p:ag R):(X*p).c 0=0:=by rw[qU,bE,dN,RW,ah ∅];grind
noncomputable def tail(p:ag R):ag R:=⟨λi=>p.c (i+1),by obtain⟨n,h⟩:=p.fin;exact⟨n,λi hi=>h (i+1) ⋯⟩⟩
theorem vo(p:ag R):p=C (p.c 0)+X*p.tail:=ext λi=>by
 rw[g9];cases i with
  |zero=>rw[z6,mE];grind
  |succ i=>rw[IU,ng];show p.c (i+1)=0+p.c (i+1);grind
theorem Lt.tail{p:ag R}(h:p.Lt (n+1)):p.tail.Lt n:=λi hi=>h (i+1) ⋯
theorem induct{P:ag R->Prop}(h0:P 0)(hs:∀a q,P q->P (C a+X*q))(p:ag R):P p:=by
 have:∀n p,p.Lt n->P p:=by
  intro n;induction n with
   |zero=>intro p h;rw[h.kl];exact h0
   |succ n ih=>intro p h;rw[vo p];exact hs _ _ (ih _ h.tail)
 obtain⟨n,h⟩:=p.fin;exact this n p h
noncomputable def RV(p:ag R)(x:R)(n:Nat):R:=bZ n (λi=>p.c i*x^i)
theorem sf(p:ag R):∃n,p.Lt n/\∀m,p.Lt m->n<=m:=by
 obtain⟨n,h⟩:=p.fin;induction n with
  |zero=>exact⟨0,h,λ_ _=>by lia⟩
  |succ n ih=>by_cases e:∀i,n<=i->p.c i=0;(·exact ih e);refine⟨n+1,h,λm hm=>?_⟩;apply ae;intro hc;exact e λi hi=>hm i ⋯
noncomputable def size(p:ag R):Nat:=lP p.sf
theorem b_(p:ag R):p.Lt p.size:=(gV p.sf).1
theorem dS{p:ag R}(h:p.Lt n):p.size<=n:=(gV p.sf).2 n h
theorem cS{p:ag R}(h:p.size<=n):p.Lt n:=p.b_.mono h
theorem jb{p:ag R}(h:p.Lt (n+1))(h':p.c n≠0):p.size=n+1:=by have h1:=dS h;apply ae;intro hc;exact h' (p.b_ n ⋯)
theorem ff:(0:ag R).size=0:=by have:=dS (Lt.zero (R:=R) 0);lia
theorem iG{p:ag R}:p.size=0↔p=0:=by
 constructor;.intro h;exact(cS (n:=0) ⋯).kl
 rintro rfl;exact ff
theorem aS{p:ag R}:0<p.size↔p≠0:=by
 have:=iG (p:=p);constructor;.intro h e;have:=this.mpr e;lia
 intro h;apply ik;intro e;exact h (this.mp e)
noncomputable def aT(p:ag R):R:=p.c (p.size-1)
theorem fS{p:ag R}(h:p≠0):p.aT≠0:=by
 intro hc;have hp:=aS.mpr h;have:p.Lt (p.size-1):=λi hi=>by by_cases e:i=p.size-1;(·rw[e];exact hc);exact p.b_ i ⋯
 have:=dS this;lia
theorem fP{a:R}(h:a≠0):(C a).size=1:=jb (n:=0) (Lt.C a) h
theorem wm(a:R):(C a).size<=1:=dS (Lt.C a)
theorem iu{a b:R}(h:(C a:ag R)=C b):a=b:=by have:=aK (λp=>p.c 0) h;exact this
theorem EW(p q:ag R):(p*q).size<=p.size+q.size-1:=by
 by_cases hp:p=0;.subst hp;(have:(0:ag R)*q=0:=by grind);rw[this,ff];lia
 have:=aS.mpr hp;exact dS (Lt.mul p.b_ q.b_ ⋯)
theorem bM[iC R]{p q:ag R}(hp:p≠0)(hq:q≠0):(p*q).size+1=p.size+q.size:=by
 have h1:=aS.mpr hp;have h2:=aS.mpr hq;have e1:p.size-1+1=p.size:=⋯;have e2:q.size-1+1=q.size:=⋯;have ht:=iA (p:=p) (q:=q) (m:=p.size-1) (n:=q.size-1) (by rw[e1];exact p.b_) (by rw[e2];exact q.b_);have hn:(p*q).c (p.size-1+(q.size-1))≠0:=by rw[ht];exact iC.jm (fS hp) (fS hq)
 have:=jb (p:=p*q) (n:=p.size-1+(q.size-1)) (Lt.mul p.b_ q.b_ ⋯) hn;lia
theorem df[iC R](p q:ag R):(p*q).aT=p.aT*q.aT:=by
 by_cases hp:p=0;.subst hp;(have:(0:ag R)*q=0:=by grind);rw[this];unfold aT;rw[dj];grind
 by_cases hq:q=0;.subst hq;(have:p*(0:ag R)=0:=by grind);rw[this];unfold aT;rw[dj];grind
 have h1:=aS.mpr hp;have h2:=aS.mpr hq;have e1:p.size-1+1=p.size:=⋯;have e2:q.size-1+1=q.size:=⋯;have ht:=iA (p:=p) (q:=q) (m:=p.size-1) (n:=q.size-1) (by rw[e1];exact p.b_) (by rw[e2];exact q.b_);have:=bM hp hq;have e:(p*q).size-1=p.size-1+(q.size-1):=⋯;show(p*q).c ((p*q).size-1)=_;rw[e,ht];rfl
theorem one_ne_zero[iC R]:(1:ag R)≠0:=by intro h;have:=iu (a:=(1:R)) (b:=0) h;exact iC.ej this
noncomputable instance[iC R]:iC (ag R) where
 ej:=one_ne_zero
 mul_eq p q h:=by
  apply ae
  intro hc
  have hp:p≠0:=λe=>hc (.inl e)
  have hq:q≠0:=λe=>hc (.inr e)
  have h1:=bM hp hq
  have h2:=aS.mpr hp
  have h3:=aS.mpr hq
  rw[h,ff]at h1
  lia
theorem fm[iC R]{p q:ag R}(h:Dv p q)(hq:q≠0):p.size<=q.size:=by
 obtain⟨r,rfl⟩:=h;have hp:p≠0:=by rintro rfl;exact hq (by grind)
 have hr:r≠0:=by rintro rfl;exact hq (by grind)
 have h1:=bM hp hr;have h2:=aS.mpr hr;lia
theorem EX(p q:ag R):(p+q).size<=max p.size q.size:=dS (Lt.add (cS ⋯) (cS ⋯))
theorem w6(p q:ag R):(p-q).size<=max p.size q.size:=dS (Lt.sub (cS ⋯) (cS ⋯))
structure bD(p:ag R)(n:Nat):Prop where
 lt:p.Lt (n+1)
 one:p.c n=1
theorem bD.size[iC R]{p:ag R}(h:p.bD n):p.size=n+1:=jb h.lt (by rw[h.one];exact iC.ej)
theorem bD.mul{p q:ag R}(h:p.bD m)(k:q.bD n):(p*q).bD (m+n) where
 lt:=h.lt.mul k.lt ⋯
 one:=by rw[iA h.lt k.lt,h.one,k.one];grind
theorem bD.unit:(1:ag R).bD 0:=⟨Lt.one,rfl⟩
theorem bD.ne[iC R]{p:ag R}(h:p.bD n):p≠0:=by rintro rfl;have:=h.one;rw[dj]at this;exact iC.ej this.symm
theorem bD.zero_eq{p:ag R}(h:p.bD 0):p=1:=by rw[h.lt.o_,h.one];rfl
theorem bD.o7{g q:ag R}(h:g.bD n)(k:(g*q).Lt n):q=0:=by apply ae;intro hq;have hp:=aS.mpr hq;have e:q.size-1+1=q.size:=⋯;have:=iA (p:=g) (q:=q) (m:=n) (n:=q.size-1) h.lt (by rw[e];exact q.b_);rw[k _ ⋯,h.one]at this;apply fS hq;unfold aT;grind
noncomputable def mono(a:R)(k:Nat):ag R:=⟨λi=>if i=k then a else 0,k+1,λi hi=>by simp;lia⟩
theorem k8(a:R)(k i:Nat):(mono a k).c i=if i=k then a else 0:=rfl
theorem Lt.xc(a:R)(k:Nat):(ag.mono a k).Lt (k+1):=λi hi=>by rw[k8,ah ⋯]
theorem Mb(a:R)(k:Nat):mono a (k+1)=X*mono a k:=ext λi=>by
 cases i with
  |zero=>rw[mE,k8,ah ⋯]
  |succ i=>rw[ng,k8,k8];by_cases h:i=k<;>simp[h]
theorem Ma(a:R):mono a 0=C a:=ext λi=>by rw[k8,yz]
theorem uY(a:R)(k:Nat):mono a k=C a*X^k:=by
 induction k with
  |zero=>rw[Ma,aL];grind
  |succ k ih=>rw[Mb,ih,ay];grind
theorem wI(k i:Nat):((X:ag R)^k).c i=if i=k then 1 else 0:=by
 have h:=uY (1:R) k;have:C (1:R)*X^k=X^k:=by rw[eC];grind
 rw[<-this,<-h,k8]
theorem bD.A7(k:Nat):((X:ag R)^k).bD k where
 lt:=λi hi=>by rw[wI,ah ⋯]
 one:=by rw[wI,aj rfl]
theorem IT(p:ag R)(k i:Nat):(X^k*p).c (k+i)=p.c i:=by
 induction k generalizing i with
  |zero=>(have:X^0*p=p:=by rw[aL];grind);rw[this,fL]
  |succ k ih=>(have:X^(k+1)*p=X*(X^k*p):=by rw[ay];grind);rw[this,show k+1+i=(k+i)+1 by lia,ng,ih]
theorem bD.div{g:ag R}(h:g.bD n)(f:ag R):∃q r,f=g*q+r/\r.Lt n:=by
 have:∀k f,f.Lt (n+k)->∃q r,f=g*q+r/\r.Lt n:=by
  intro k;induction k with
   |zero=>intro f hf;exact⟨0,f,by grind,hf⟩
   |succ k ih=>intro f hf;have hm:(g*mono (f.c (n+k)) k).Lt (n+k+1):=h.lt.mul (Lt.xc _ _) ⋯;(have:(f-g*mono (f.c (n+k)) k).Lt (n+k):=λi hi=>by by_cases e:i=n+k;(·subst e;rw[i8,iA h.lt (Lt.xc _ _),h.one,k8,aj rfl];grind);rw[i8,hf i ⋯,hm i ⋯];grind);obtain⟨q,r,hq,hr⟩:=ih _ this;exact⟨q+mono (f.c (n+k)) k,r,by grind,hr⟩
 exact this f.size f (cS ⋯)
end
end ag
end Tk
end
section
namespace Tk
open Lean.Grind
structure gJ(R S:Type)[bI R][bI S] where
 f:R->S
 add:∀a b,f (a+b)=f a+f b
 mul:∀a b,f (a*b)=f a*f b
 one:f 1=1
namespace gJ
variable {R S T:Type}[bI R][bI S][bI T]
theorem zero(h:gJ R S):h.f 0=0:=by
 have:=h.add 0 0;have e:(0:R)+0=0:=by grind
 rw[e]at this;grind
theorem neg(h:gJ R S)(a:R):h.f (-a)=-h.f a:=by
 have:=h.add a (-a);have e:a+-a=0:=by grind
 rw[e,h.zero]at this;grind
theorem sub(h:gJ R S)(a b:R):h.f (a-b)=h.f a-h.f b:=by
 have e:a-b=a+-b:=by grind
 rw[e,h.add,h.neg];grind
theorem pow(h:gJ R S)(a:R)(n:Nat):h.f (a^n)=h.f a^n:=by
 induction n with
  |zero=>rw[aL,aL,h.one]
  |succ n ih=>rw[ay,ay,h.mul,ih]
theorem sum(h:gJ R S)(n:Nat)(g:Nat->R):h.f (bZ n g)=bZ n (λi=>h.f (g i)):=by
 induction n with
  |zero=>rw[dN,dN,h.zero]
  |succ n ih=>rw[bE,bE,h.add,ih]
noncomputable def comp(h:gJ R S)(k:gJ S T):gJ R T where
 f a:=k.f (h.f a)
 add a b:=by rw[h.add,k.add]
 mul a b:=by rw[h.mul,k.mul]
 one:=by rw[h.one,k.one]
theorem dv(h:gJ R S){a b:R}(k:Dv a b):Dv (h.f a) (h.f b):=by obtain⟨c,rfl⟩:=k;exact⟨h.f c,h.mul _ _⟩
end gJ
namespace ag
section
variable {R S:Type}[bI R][bI S]
theorem IG{p:ag R}(x:R)(h:p.Lt m)(hmn:m<=n):p.RV x n=p.RV x m:=wZ hmn λi hi _=>by rw[h i hi];grind
noncomputable def ev(p:ag R)(x:R):R:=p.RV x p.size
theorem sj{p:ag R}(x:R)(h:p.Lt n):p.ev x=p.RV x n:=(IG x p.b_ (dS h)).symm
theorem up(p q:ag R)(x:R):(p+q).ev x=p.ev x+q.ev x:=by have h1:p.Lt (p.size+q.size):=cS ⋯;have h2:q.Lt (p.size+q.size):=cS ⋯;rw[sj x (h1.add h2),sj x h1,sj x h2];unfold RV;rw[<-kN];exact bJ λi _=>by rw[g9];grind
theorem Ua(a:R)(p:ag R)(x:R):(C a*p).ev x=a*p.ev x:=by rw[sj x (Lt.z4 a p.b_),sj x p.b_];unfold RV;rw[<-jV];exact bJ λi _=>by rw[cA];grind
theorem DA(p:ag R)(x:R):(X*p).ev x=x*p.ev x:=by
 have h:(X*p).Lt (p.size+1):=Lt.X.mul p.b_ ⋯;rw[sj x h,sj x p.b_];unfold RV;rw[fC,mE,<-jV];have:bZ p.size (λi=>(X*p).c (i+1)*x^(i+1))=bZ p.size (λi=>x*(p.c i*x^i)):=bJ λi _=>by rw[ng,ay];grind
 rw[this];grind
theorem A3(a x:R):(C a).ev x=a:=by rw[sj x (Lt.C a)];unfold RV;rw[bE,dN,aL,z6];grind
theorem vn(x:R):(0:ag R).ev x=0:=A3 0 x
theorem zS(x:R):(1:ag R).ev x=1:=A3 1 x
theorem DB(x:R):(X:ag R).ev x=x:=by
 have:=DA (1:ag R) x;have e:(X:ag R)*1=X:=by grind
 rw[e,zS]at this;grind
theorem o9(p q:ag R)(x:R):(p*q).ev x=p.ev x*q.ev x:=by
 refine induct (P:=λp=>(p*q).ev x=p.ev x*q.ev x) ?_ ?_ p;·(have:(0:ag R)*q=0:=by grind);rw[this,vn];grind
 intro a r ih;have:(C a+X*r)*q=C a*q+X*(r*q):=by grind
 rw[this,up,Ua,DA,ih,up,A3,DA];grind
noncomputable def VM(x:R):gJ (ag R) R where
 f p:=p.ev x
 add p q:=up p q x
 mul p q:=o9 p q x
 one:=zS x
theorem si(p q:ag R)(x:R):(p-q).ev x=p.ev x-q.ev x:=(VM x).sub p q
theorem zQ(p:ag R)(n:Nat)(x:R):(p^n).ev x=p.ev x^n:=(VM x).pow p n
noncomputable def sA:gJ R (ag R):=⟨C,Cv,dw,eC⟩
theorem Lc(a:R)(n:Nat):(C (a^n):ag R)=C a^n:=sA.pow a n
noncomputable def map(h:gJ R S)(p:ag R):ag S:=⟨λi=>h.f (p.c i),by obtain⟨n,k⟩:=p.fin;exact⟨n,λi hi=>by rw[k i hi,h.zero]⟩⟩
theorem mM(h:gJ R S)(p:ag R)(i:Nat):(p.map h).c i=h.f (p.c i):=rfl
noncomputable def jZ(h:gJ R S):gJ (ag R) (ag S) where
 f p:=p.map h
 add p q:=ext λi=>by rw[g9,mM,mM,mM,g9,h.add]
 mul p q:=ext λi=>by
  rw[mM,qU,qU,h.sum]
  exact bJ λj _=>by rw[h.mul];rfl
 one:=ext λi=>by
  rw[mM,QW,QW]
  split
  .exact h.one
  .exact h.zero
theorem gN(h:gJ R S)(p q:ag R):(p+q).map h=p.map h+q.map h:=(jZ h).add p q
theorem cj(h:gJ R S)(p q:ag R):(p*q).map h=p.map h*q.map h:=(jZ h).mul p q
theorem kW(h:gJ R S)(p q:ag R):(p-q).map h=p.map h-q.map h:=(jZ h).sub p q
theorem Ti(h:gJ R S)(p:ag R)(n:Nat):(p^n).map h=p.map h^n:=(jZ h).pow p n
theorem qB(h:gJ R S):(1:ag R).map h=1:=(jZ h).one
theorem lL(h:gJ R S):(0:ag R).map h=0:=(jZ h).zero
theorem np(h:gJ R S)(a:R):(C a).map h=C (h.f a):=ext λi=>by
 rw[mM,yz,yz];split;.rfl
 exact h.zero
theorem zA(h:gJ R S):(X:ag R).map h=X:=ext λi=>by
 rw[mM,RW,RW];split;.exact h.one
 exact h.zero
theorem Lt.map{p:ag R}(k:p.Lt n)(h:gJ R S):(p.map h).Lt n:=λi hi=>by rw[mM,k i hi,h.zero]
theorem bD.map{p:ag R}(k:p.bD n)(h:gJ R S):(p.map h).bD n where
 lt:=k.lt.map h
 one:=by rw[mM,k.one,h.one]
theorem YI(h:gJ R S)(p:ag R)(x:R):(p.map h).ev (h.f x)=h.f (p.ev x):=by rw[sj (h.f x) (p.b_.map h),sj x p.b_];unfold RV;rw[h.sum];exact bJ λi _=>by rw[h.mul,h.pow];rfl
noncomputable def Xm(a:R):ag R:=X-C a
theorem bD.Xm(a:R):(ag.Xm a).bD 1 where
 lt:=Lt.X.sub ((Lt.C a).mono ⋯)
 one:=by
  show(X-ag.C a).c 1=1
  rw[i8,RW,IU,aj rfl];grind
theorem KN(a x:R):(Xm a).ev x=x-a:=by show(X-C a).ev x=_;rw[si,DB,A3]
theorem factor(p:ag R)(a:R):∃q,p=Xm a*q+C (p.ev a):=by
 obtain⟨q,r,h,hr⟩:=(bD.Xm a).div p;refine⟨q,?_⟩;have e:p.ev a=r.c 0:=by have hr':=hr.o_;(have:p.ev a=(Xm a*q+r).ev a:=by rw[<-h]);rw[this,up,o9,KN,hr',A3,z6];grind
 rw[e,<-hr.o_];exact h
theorem VQ{p:ag R}{a:R}(h:p.ev a=0):Dv (Xm a) p:=by obtain⟨q,hq⟩:=factor p a;refine⟨q,?_⟩;rw[h,jI]at hq;grind
theorem QG{p:ag R}{a:R}(h:Dv (Xm a) p):p.ev a=0:=by obtain⟨q,rfl⟩:=h;rw[o9,KN];grind
noncomputable def prod{A:Type}[bI A]:List A->A
 |[]=>1
 |a::l=>a*prod l
theorem fg{A:Type}[bI A](l m:List A):prod (l++m)=prod l*prod m:=by
 induction l with
  |nil=>simp only[gE,prod];grind
  |cons a l ih=>simp only[kF,prod,ih];grind
theorem jE{A:Type}[bI A]{l m:List A}(h:l.Perm m):prod l=prod m:=by
 induction h with
  |nil=>rfl
  |cons a _ ih=>simp only[prod,ih]
  |swap a b l=>simp only[prod];grind
  |trans _ _ h1 h2=>exact h1.trans h2
theorem gy{A:Type}[bI A]{l:List A}{a:A}(h:a∈l):Dv a (prod l):=by
 induction l with
  |nil=>cases h
  |cons b l ih=>
   cases h with
    |head=>exact Dv.left _ _
    |tail _ h=>exact(ih h).mul_left _
theorem qy{A B:Type}[bI A][bI B](h:gJ A B)(l:List A):h.f (prod l)=prod (l.map h.f):=by
 induction l with
  |nil=>exact h.one
  |cons a l ih=>simp only[prod,aR,h.mul,ih]
theorem bD.ym(l:List R):(prod (l.map ag.Xm)).bD l.length:=by
 induction l with
  |nil=>exact bD.unit
  |cons a l ih=>have:=(bD.Xm a).mul ih;rwa[jB]at this
theorem Ck[iC R]{p:ag R}:∀{l:List R},l.Nodup->(∀a,a∈l->p.ev a=0)->Dv (prod (l.map Xm)) p:=by
 intro l;induction l generalizing p with
  |nil=>intro _ _;exact Dv.one p
  |cons a l ih=>intro hn h;rw[bO]at hn;obtain⟨q,hq⟩:=VQ (h a aq);(have:∀b,b∈l->q.ev b=0:=by intro b hb;have h1:=h b (al _ hb);rw[hq,o9,KN]at h1;rcases iC.mul_eq _ _ h1 with h2|h2;(·exfalso;apply hn.1;(have:a=b:=by grind);rw[this];exact hb);exact h2);obtain⟨r,hr⟩:=ih hn.2 this;refine⟨r,?_⟩;simp only[aR,prod];rw[hq,hr];grind
theorem wq[iC R]{p:ag R}{l:List R}(hp:p≠0)(hn:l.Nodup)(h:∀a,a∈l->p.ev a=0):l.length+1<=p.size:=by have:=fm (Ck hn h) hp;rwa[(bD.ym l).size]at this
theorem Ci[iC R]{p:ag R}{l:List R}(hp:p.bD l.length)(hn:l.Nodup)(h:∀a,a∈l->p.ev a=0):p=prod (l.map Xm):=by
 have hd:=bD.ym l;have:(p-prod (l.map Xm))=0:=by apply ae;intro hc;have h1:=wq hc hn (λa ha=>by rw[si,h a ha];(have:(prod (l.map Xm)).ev a=0:=by apply QG;exact gy (dE ha));rw[this];grind);(have h2:(p-prod (l.map Xm)).Lt l.length:=λi hi=>by by_cases e:i=l.length;(·rw[e,i8,hp.one,hd.one];grind);rw[i8,hp.lt i ⋯,hd.lt i ⋯];grind);have:=dS h2;lia
 grind
end
end ag
end Tk
end
section
namespace Tk
open Lean.Grind
def kC{A:Type}[bI A](a b:A):Prop:=∃u v,u*a+v*b=1
section
variable {A:Type}[bI A]
theorem kC.symm{a b:A}(h:kC a b):kC b a:=by obtain⟨u,v,h⟩:=h;exact⟨v,u,by grind⟩
theorem kC.dv{a b c:A}(h:kC a b)(k:Dv a (b*c)):Dv a c:=by obtain⟨u,v,h⟩:=h;obtain⟨x,k⟩:=k;exact⟨u*c+v*x,by grind⟩
theorem kC.HX{a b c:A}(h:kC a b)(k:Dv a c)(l:Dv b c):Dv (a*b) c:=by obtain⟨u,v,h⟩:=h;obtain⟨x,rfl⟩:=k;obtain⟨y,l⟩:=l;exact⟨u*y+v*x,by grind⟩
theorem kC.mul{a b c:A}(h:kC a b)(k:kC a c):kC a (b*c):=by obtain⟨u,v,h⟩:=h;obtain⟨x,y,k⟩:=k;exact⟨u*x*a+u*y*c+v*b*x,v*y,by grind⟩
theorem kC.one(a:A):kC a 1:=⟨0,1,by grind⟩
theorem kC.jt{a b c:A}(h:kC a b)(k:Dv c b):kC a c:=by obtain⟨u,v,h⟩:=h;obtain⟨x,rfl⟩:=k;exact⟨u,v*x,by grind⟩
theorem kC.ui{a b c:A}(h:kC a b)(k:Dv c a):kC c b:=(h.symm.jt k).symm
theorem kC.prod{a:A}{l:List A}(h:∀b,b∈l->kC a b):kC a (ag.prod l):=by
 induction l with
  |nil=>exact kC.one a
  |cons b l ih=>exact(h b aq).mul (ih λc hc=>h c (al _ hc))
theorem kC.SE{l:List A}{c:A}(hp:l.Pairwise kC)(h:∀a,a∈l->Dv a c):Dv (ag.prod l) c:=by
 induction l with
  |nil=>exact Dv.one c
  |cons b l ih=>rw[ie]at hp;exact(kC.prod hp.1).HX (h b aq) (ih hp.2 λa ha=>h a (al _ ha))
end
namespace ag
section
variable {K:Type}[bI K][nU K]
def jn(p:ag K):Prop:=p.bD (p.size-1)
theorem bD.mon{p:ag K}(h:p.bD n):p.jn:=by have:=h.size;unfold jn;rw[this];exact h
theorem jn.ne{p:ag K}(h:p.jn):p≠0:=bD.ne h
theorem jn.mul{p q:ag K}(h:p.jn)(k:q.jn):(p*q).jn:=(bD.mul h k).mon
theorem jn.prod{l:List (ag K)}(h:∀p,p∈l->p.jn):(prod l).jn:=by
 induction l with
  |nil=>exact bD.unit.mon
  |cons a l ih=>exact(h a aq).mul (ih λp hp=>h p (al _ hp))
theorem scale{p:ag K}(h:p≠0):∃u,u≠0/\(C u*p).bD (p.size-1):=by
 obtain⟨u,hu⟩:=nU.inv p.aT (fS h);have hp:=aS.mpr h;refine⟨u,?_,?_,?_⟩;.rintro rfl;apply nU.ej (R:=K);grind
 .rw[show p.size-1+1=p.size by lia];exact Lt.z4 u p.b_
 rw[cA];show u*p.aT=1;grind
theorem nv{p:ag K}(h:p.size=1):∃u,u≠0/\p=C u:=by have h1:p.Lt 1:=cS ⋯;refine⟨p.c 0,?_,h1.o_⟩;intro e;rw[h1.o_,e,jI,ff]at h;lia
theorem lO{u:K}(h:u≠0):∃v,v≠0/\(C u:ag K)*C v=1:=by obtain⟨v,hv⟩:=nU.inv u h;refine⟨v,?_,by rw[<-dw,hv,eC]⟩;rintro rfl;apply nU.ej (R:=K);grind
theorem div{g:ag K}(h:g≠0)(f:ag K):∃q r,f=g*q+r/\r.size<g.size:=by obtain⟨u,hu,hm⟩:=scale h;obtain⟨q,r,hq,hr⟩:=hm.div f;have:=aS.mpr h;refine⟨C u*q,r,by grind,?_⟩;have:=dS hr;lia
theorem QZ(f g:ag K):∃d u v,d=u*f+v*g/\Dv d f/\Dv d g:=by
 have:∀n (f g:ag K),g.size<=n->∃d u v,d=u*f+v*g/\Dv d f/\Dv d g:=by
  intro n;induction n with
   |zero=>intro f g hg;have:=iG.mp (Nat.le_zero.mp hg);subst this;exact⟨f,1,0,by grind,Dv.refl f,Dv.zero f⟩
   |succ n ih=>intro f g hg;by_cases e:g=0;(·subst e;exact⟨f,1,0,by grind,Dv.refl f,Dv.zero f⟩);obtain⟨q,r,hq,hr⟩:=div e f;obtain⟨d,u,v,h1,h2,h3⟩:=ih g r ⋯;refine⟨d,v,u-v*q,by grind,?_,h2⟩;rw[hq];exact(h2.mul_right _).add h3
 exact this g.size f g ⋯
structure ir(p:ag K):Prop where
 pos:1<p.size
 alone:∀a b,p=a*b->a.size=1\/b.size=1
theorem ir.ne{p:ag K}(h:p.ir):p≠0:=aS.mp (by have:=h.pos;lia)
theorem ir.cop{p a:ag K}(h:p.ir)(k:¬Dv p a):kC p a:=by
 obtain⟨d,u,v,h1,h2,h3⟩:=QZ p a;obtain⟨x,hx⟩:=h2;rcases h.alone d x hx with e|e;.obtain⟨w,hw,hd⟩:=nv e;obtain⟨z,_,hz⟩:=lO hw;refine⟨C z*u,C z*v,?_⟩;(have:C z*u*p+C z*v*a=C z*d:=by rw[h1];grind);rw[this,hd];grind
 exfalso;apply k;obtain⟨w,hw,hd⟩:=nv e;obtain⟨z,_,hz⟩:=lO hw;have:d=p*C z:=by rw[hx,hd];grind
 obtain⟨y,hy⟩:=h3;exact⟨C z*y,by rw[hy,this];grind⟩
theorem ir.prime{p a b:ag K}(h:p.ir)(k:Dv p (a*b)):Dv p a\/Dv p b:=by
 by_cases e:Dv p a;.exact .inl e
 exact .inr ((h.cop e).dv k)
theorem ir.oN{p:ag K}(h:p.ir):¬Dv p 1:=by intro k;have:=fm k one_ne_zero;have h1:=fP (R:=K) (a:=1) iC.ej;have h2:=h.pos;rw[eC]at h1;lia
theorem ir.jX{p:ag K}(h:p.ir){l:List (ag K)}(k:Dv p (prod l)):∃a,a∈l/\Dv p a:=by
 induction l with
  |nil=>exact ap k h.oN
  |cons a l ih=>rcases h.prime k with e|e;(·exact⟨a,aq,e⟩);obtain⟨b,hb,hd⟩:=ih e;exact⟨b,al _ hb,hd⟩
theorem vp{p q:ag K}(hp:p.jn)(hq:q.jn)(h:Dv p q)(hs:q.size<=p.size):p=q:=by
 obtain⟨x,hx⟩:=h;have tm:x≠0:=by rintro rfl;apply hq.ne;rw[hx];grind
 have h1:=bM hp.ne tm;rw[<-hx]at h1;have h2:=aS.mpr tm;have h4:x.size=1:=⋯;obtain⟨u,hu,rfl⟩:=nv h4;have e:q.size=p.size:=⋯;have:=hq.one;rw[hx]at this;rw[<-hx,e,hx]at this;rw[show p*C u=C u*p by grind,cA,hp.one]at this;have:u=1:=by grind
 rw[hx,this,eC];grind
theorem ir.eq{p q:ag K}(hp:p.ir)(hq:q.ir)(az:p.jn)(mq:q.jn)(h:Dv p q):p=q:=by
 obtain⟨x,hx⟩:=h;rcases hq.alone p x hx with e|e;.have:=hp.pos;lia
 apply vp az mq ⟨x,hx⟩;rw[hx];have:=EW p x;lia
theorem ir.mem{p:ag K}(hp:p.ir)(az:p.jn){l:List (ag K)}(hl:∀q,q∈l->q.ir/\q.jn)(h:Dv p (prod l)):p∈l:=by obtain⟨a,ha,hd⟩:=hp.jX h;rw[hp.eq (hl a ha).1 az (hl a ha).2 hd];exact ha
theorem ir.wE{p q:ag K}(hp:p.ir)(hq:q.ir)(az:p.jn)(mq:q.jn)(h:p≠q):kC p q:=hp.cop λk=>h (hp.eq hq az mq k)
theorem kQ{f:ag K}(h:1<f.size):∃p,p.ir/\p.jn/\Dv p f:=by
 have:∀n (f:ag K),f.size<=n->1<f.size->∃p,p.ir/\p.jn/\Dv p f:=by
  intro n;induction n with
   |zero=>intro f h1 h2;lia
   |succ n ih=>intro f h1 h2;by_cases e:∃a b,f=a*b/\1<a.size/\1<b.size;(·obtain⟨a,b,pW,ha,hb⟩:=e;have vX:a≠0:=aS.mp ⋯;have wA:b≠0:=aS.mp ⋯;have:=bM vX wA;rw[<-pW]at this;obtain⟨p,hp,az,hd⟩:=ih a ⋯ ha;exact⟨p,hp,az,by rw[pW];exact hd.mul_right _⟩);have hf:f≠0:=aS.mp ⋯;obtain⟨u,hu,hm⟩:=scale hf;obtain⟨v,hv,re⟩:=lO hu;refine⟨C u*f,⟨?_,?_⟩,hm.mon,⟨C v,by grind⟩⟩;(·rw[hm.size];lia);intro a b pW;have hm0:=hm.ne;(have vX:a≠0:=by rintro rfl;apply hm0;rw[pW];grind);(have wA:b≠0:=by rintro rfl;apply hm0;rw[pW];grind);have h3:=aS.mpr vX;have h4:=aS.mpr wA;apply ae;intro hc;apply e;refine⟨C v*a,b,by grind,?_,⋯⟩;(have Vp:(C v:ag K)≠0:=by intro e;rw[e]at re;apply one_ne_zero (R:=K);grind);have:=bM Vp vX;rw[fP hv]at this;lia
 exact this f.size f ⋯ h
theorem jn.Pg{p q:ag K}(hp:p.jn)(h:(p*q).jn):q.jn:=by
 have nS:q≠0:=by rintro rfl;apply h.ne;grind
 have h1:=aS.mpr hp.ne;have h2:=aS.mpr nS;have h3:=bM hp.ne nS;have e:q.size-1+1=q.size:=⋯;refine⟨by rw[e];exact q.b_,?_⟩;have h4:=iA (p:=p) (q:=q) (n:=q.size-1) hp.lt (by rw[e];exact q.b_);have h5:=h.one;rw[show(p*q).size-1=p.size-1+(q.size-1) by lia,h4,hp.one]at h5;grind
theorem Dz{f:ag K}(h:f.jn):∃l:List (ag K),(∀p,p∈l->p.ir/\p.jn)/\f=prod l:=by
 have:∀n (f:ag K),f.size<=n->f.jn->∃l:List (ag K),(∀p,p∈l->p.ir/\p.jn)/\f=prod l:=by
  intro n;induction n with
   |zero=>intro f h1 h2;have:=aS.mpr h2.ne;lia
   |succ n ih=>
    intro f h1 h2;by_cases e:1<f.size
    .obtain⟨p,hp,az,x,hx⟩:=kQ e;have mx:=jn.Pg az (by rw[<-hx];exact h2);have:=bM az.ne mx.ne;rw[<-hx]at this;have:=hp.pos;obtain⟨l,hl,he⟩:=ih x ⋯ mx;refine⟨p::l,?_,by rw[hx,he];rfl⟩;intro q hq;cases hq with
      |head=>exact⟨hp,az⟩
      |tail _ hq=>exact hl q hq
    have:=aS.mpr h2.ne;have e1:f.size-1=0:=⋯;(have h3:f.bD 0:=by have h3:=h2;unfold jn at h3;rwa[e1]at h3);exact⟨[],λp hp=>ap hp jg,h3.zero_eq⟩
 exact this f.size f ⋯ h
theorem Dy{l m:List (ag K)}(hl:∀p,p∈l->p.ir/\p.jn)(hm:∀p,p∈m->p.ir/\p.jn)(h:prod l=prod m):l.Perm m:=by
 induction l generalizing m with
  |nil=>
   cases m with
    |nil=>exact Lo
    |cons a m=>exfalso;apply(hm a aq).1.oN;have:Dv a (prod (a::m)):=Dv.left _ _;rwa[<-h]at this
  |cons a l ih=>have h1:=hl a aq;have ha:=h1.1.mem h1.2 hm (by rw[<-h];exact Dv.left _ _);obtain⟨s,t,rfl⟩:=d6 ha;have hp:(s++a::t).Perm (a::(s++t)):=c_;(have h2:prod l=prod (s++t):=by rw[jE hp]at h;exact iC.et h1.2.ne h);refine kG (gO a (ih (λp hp=>hl p (al _ hp)) (λp hp=>hm p ?_) h2)) hp.symm;rw[aO]at hp ⊢;rcases hp with hp|hp;(·exact .inl hp);exact .inr (al _ hp)
def pC(f:ag K):Prop:=∀p:ag K,p.ir->¬Dv (p*p) f
theorem pC.jt{f g:ag K}(h:f.pC)(k:Dv g f):g.pC:=λp hp hd=>h p hp (hd.trans k)
theorem pC.nodup{l:List (ag K)}(hl:∀p,p∈l->p.ir/\p.jn)(h:(prod l).pC):l.Nodup:=by
 induction l with
  |nil=>exact lV
  |cons a l ih=>rw[bO];refine⟨λha=>?_,ih (λp hp=>hl p (al _ hp)) (h.jt (Dv.right _ _))⟩;obtain⟨x,hx⟩:=gy ha;exact h a (hl a aq).1 ⟨x,by simp only[prod];rw[hx];grind⟩
theorem pC.cop{a b:ag K}(h:(a*b).pC)(pW:a*b≠0):kC a b:=by
 obtain⟨d,u,v,h1,⟨x,h2⟩,⟨y,h3⟩⟩:=QZ a b;by_cases e:1<d.size;.obtain⟨p,hp,az,z,hz⟩:=kQ e;exact ap ⟨z*z*x*y,by rw[h2,h3,hz];grind⟩ (h p hp)
 have hd:d≠0:=by rintro rfl;apply pW;rw[h2];grind
 have:=aS.mpr hd;obtain⟨w,hw,hd⟩:=nv (p:=d) ⋯;obtain⟨z,_,hz⟩:=lO hw;exact⟨C z*u,C z*v,by(have:C z*u*a+C z*v*b=C z*d:=by rw[h1];grind);rw[this,hd];grind⟩
theorem Df{l:List (ag K)}(hl:∀p,p∈l->p.ir/\p.jn)(hn:l.Nodup):l.Pairwise kC:=by
 induction l with
  |nil=>exact kJ
  |cons a l ih=>rw[bO]at hn;refine iX (λb hb=>?_) (ih (λp hp=>hl p (al _ hp)) hn.2);have h1:=hl a aq;have h2:=hl b (al _ hb);exact h1.1.wE h2.1 h1.2 h2.2 (λe=>hn.1 (by rw[e];exact hb))
theorem uL{l:List (ag K)}(hl:∀p,p∈l->p.ir/\p.jn)(hn:l.Nodup):(prod l).pC:=by
 intro p hp hd;obtain⟨u,hu,hm⟩:=scale hp.ne;have hq:(C u*p).ir:=by obtain⟨v,hv,re⟩:=lO hu;refine⟨by rw[hm.size];have:=hp.pos;lia,λa b pW=>?_⟩;(have:p=(C v*a)*b:=by grind);rcases hp.alone _ _ this with e|e;(·left;(have vX:a≠0:=by rintro rfl;apply hm.ne;rw[pW];grind);(have Vp:(C v:ag K)≠0:=by intro e;rw[e]at re;apply one_ne_zero (R:=K);grind);have:=bM Vp vX;rw[fP hv]at this;lia);exact .inr e
 have hd2:Dv ((C u*p)*(C u*p)) (prod l):=by obtain⟨v,hv,re⟩:=lO hu;obtain⟨x,hx⟩:=hd;exact⟨C v*C v*x,by grind⟩
 have hmem:=hq.mem hm.mon hl ((Dv.left _ _).trans hd2);obtain⟨s,t,rfl⟩:=d6 hmem;have gq:(s++(C u*p)::t).Perm ((C u*p)::(s++t)):=c_;rw[jE gq]at hd2;obtain⟨x,hx⟩:=hd2;have:prod (s++t)=(C u*p)*x:=iC.et hm.ne (by have:(C u*p)*prod (s++t)=(C u*p)*(C u*p)*x:=hx;rw[this];grind);have ab5:C u*p∈s++t:=hq.mem hm.mon (λq hq=>hl q (by rw[aO]at hq ⊢;rcases hq with h|h;(·exact .inl h);exact .inr (al _ h))) ⟨x,this⟩;have:=gq.nodup_iff.mp hn;rw[bO]at this;exact this.1 ab5
end
end ag
end Tk
end
section
namespace Tk
open Lean.Grind
section
variable {A:Type}[bI A]
noncomputable def BH(g:A):Setoid A where
 r a b:=Dv g (a-b)
 iseqv:={
  refl:=λa=>by
   have:a-a=0:=by grind
   rw[this];exact Dv.zero g
  symm:=λ{a b} h=>by
   have:b-a=-(a-b):=by grind
   rw[this];exact h.neg
  trans:=λ{a b c} h k=>by
   have:a-c=(a-b)+(b-c):=by grind
   rw[this];exact h.add k}
noncomputable def cp(g:A):Type:=Quotient (BH g)
namespace cp
variable {g:A}
noncomputable def mk(g:A)(a:A):cp g:=Quotient.mk (BH g) a
theorem g8{a b:A}:mk g a=mk g b↔Dv g (a-b):=⟨λh=>Quotient.exact h,λh=>Quotient.sound h⟩
theorem ind{P:cp g->Prop}(h:∀a,P (mk g a))(x:cp g):P x:=Quotient.ind h x
theorem rep(x:cp g):∃a,x=mk g a:=ind (P:=λx=>∃a,x=mk g a) (λa=>⟨a,rfl⟩) x
noncomputable def aby(f:A->A)(h:∀a b,Dv g (a-b)->Dv g (f a-f b)):cp g->cp g:=Nh (λa=>mk g (f a)) λa b k=>g8.mpr (h a b k)
noncomputable def Py(f:A->A->A)(h:∀a b c d,Dv g (a-b)->Dv g (c-d)->Dv g (f a c-f b d)):cp g->cp g->cp g:=Quotient.lift₂ (λa c=>mk g (f a c)) λa c b d k l=>g8.mpr (h a b c d k l)
noncomputable instance:Add (cp g):=⟨Py (·+·) λa b c d h k=>by
 have:a+c-(b+d)=(a-b)+(c-d):=by grind
 show Dv g (a+c-(b+d));rw[this];exact h.add k⟩
noncomputable instance:Mul (cp g):=⟨Py (·*·) λa b c d h k=>by
 have:a*c-b*d=c*(a-b)+b*(c-d):=by grind
 show Dv g (a*c-b*d);rw[this];exact(h.mul_left _).add (k.mul_left _)⟩
noncomputable instance:Neg (cp g):=⟨aby (λa=>-a) λa b h=>by
 have:-a- -b=-(a-b):=by grind
 show Dv g (-a- -b);rw[this];exact h.neg⟩
noncomputable instance:Sub (cp g):=⟨Py (·-·) λa b c d h k=>by
 have:a-c-(b-d)=(a-b)-(c-d):=by grind
 show Dv g (a-c-(b-d));rw[this];exact h.sub k⟩
noncomputable instance(n:Nat):OfNat (cp g) n:=⟨mk g (gU n)⟩
noncomputable instance:NatCast (cp g):=⟨λn=>mk g (ag.cw n)⟩
noncomputable instance:IntCast (cp g):=⟨λn=>mk g (ag.lu n)⟩
noncomputable instance:SMul Nat (cp g):=⟨λn x=>mk g (ag.cw n)*x⟩
noncomputable instance:SMul Int (cp g):=⟨λn x=>mk g (ag.lu n)*x⟩
protected noncomputable def npow(x:cp g):Nat->cp g
 |0=>1
 |n+1=>cp.npow x n*x
noncomputable instance:HPow (cp g) Nat (cp g):=⟨cp.npow⟩
theorem zw(a b:A):mk g (a+b)=mk g a+mk g b:=rfl
theorem o8(a b:A):mk g (a*b)=mk g a*mk g b:=rfl
theorem Xy(a:A):mk g (-a)=-mk g a:=rfl
theorem Dn(a b:A):mk g (a-b)=mk g a-mk g b:=rfl
noncomputable instance:bI (cp g) where
 natCast:=inferInstance
 ofNat:=inferInstance
 nsmul:=inferInstance
 npow:=inferInstance
 intCast:=inferInstance
 zsmul:=inferInstance
 add_zero x:=ind (P:=λx=>x+0=x) (λa=>aK (mk g) (GB a)) x
 add_comm x y:=ind (P:=λx=>x+y=y+x) (λa=>ind (P:=λy=>mk g a+y=y+mk g a) (λb=>aK (mk g) (Semiring.add_comm a b)) y) x
 add_assoc x y z:=by
  obtain⟨a,rfl⟩:=rep x
  obtain⟨b,rfl⟩:=rep y
  obtain⟨c,rfl⟩:=rep z
  exact aK (mk g) (Semiring.add_assoc a b c)
 mul_assoc x y z:=by
  obtain⟨a,rfl⟩:=rep x
  obtain⟨b,rfl⟩:=rep y
  obtain⟨c,rfl⟩:=rep z
  exact aK (mk g) (Semiring.mul_assoc a b c)
 mul_one x:=by
  obtain⟨a,rfl⟩:=rep x
  exact aK (mk g) (Semiring.mul_one a)
 one_mul x:=by
  obtain⟨a,rfl⟩:=rep x
  exact aK (mk g) (Semiring.one_mul a)
 mul_comm x y:=by
  obtain⟨a,rfl⟩:=rep x
  obtain⟨b,rfl⟩:=rep y
  exact aK (mk g) (CommSemiring.mul_comm a b)
 left_distrib x y z:=by
  obtain⟨a,rfl⟩:=rep x
  obtain⟨b,rfl⟩:=rep y
  obtain⟨c,rfl⟩:=rep z
  exact aK (mk g) (Semiring.left_distrib a b c)
 right_distrib x y z:=by
  obtain⟨a,rfl⟩:=rep x
  obtain⟨b,rfl⟩:=rep y
  obtain⟨c,rfl⟩:=rep z
  exact aK (mk g) (Semiring.right_distrib a b c)
 zero_mul x:=by
  obtain⟨a,rfl⟩:=rep x
  exact aK (mk g) (Semiring.zero_mul a)
 mul_zero x:=by
  obtain⟨a,rfl⟩:=rep x
  exact aK (mk g) (Semiring.mul_zero a)
 pow_zero x:=rfl
 pow_succ x n:=rfl
 ofNat_succ n:=aK (mk g) (D4 n)
 ofNat_eq_natCast n:=aK (mk g) (kc n)
 nsmul_eq_natCast_mul n x:=rfl
 neg_add_cancel x:=by
  obtain⟨a,rfl⟩:=rep x
  exact aK (mk g) (Ring.neg_add_cancel a)
 sub_eq_add_neg x y:=by
  obtain⟨a,rfl⟩:=rep x
  obtain⟨b,rfl⟩:=rep y
  exact aK (mk g) (Ring.sub_eq_add_neg a b)
 neg_zsmul n x:=by
  obtain⟨a,rfl⟩:=rep x
  show mk g (ag.lu (-n)*a)=mk g (-(ag.lu n*a))
  rw[ag.sO]
  congr 1;grind
 zsmul_natCast_eq_nsmul n x:=by
  show mk g (ag.lu (n:Int))*x=mk g (ag.cw n)*x
  rw[ag.B_]
 intCast_ofNat n:=by
  show mk g (ag.lu (gU n:Int))=mk g (gU n)
  rw[ag.xj]
 intCast_neg n:=by
  show mk g (ag.lu (-n:Int))=mk g (-(ag.lu n))
  rw[ag.sO]
noncomputable def pR(g:A):gJ A (cp g):=⟨mk g,zw,o8,rfl⟩
theorem dh{a:A}:mk g a=0↔Dv g a:=by
 have:a-0=a:=by grind
 have h:=g8 (g:=g) (a:=a) (b:=0);rwa[this]at h
theorem mh(a:A)(n:Nat):mk g (a^n)=mk g a^n:=(pR g).pow a n
theorem mk_one:mk g 1=1:=rfl
end cp
end
theorem mm{K:Type}[bI K][nU K]{g:ag K}(h:g.ir):nU (cp g) where
 ej:=λe=>h.oN (cp.dh.mp e)
 inv x hx:=by
  obtain⟨a,rfl⟩:=cp.rep x
  obtain⟨u,v,re⟩:=h.cop (λk=>hx (cp.dh.mpr k))
  refine⟨cp.mk g v,?_⟩
  rw[<-cp.o8,<-cp.mk_one,cp.g8]
  exact⟨-u,by grind⟩
def Pr(p:Nat):Prop:=2<=p/\∀d:Nat,d∣p->d=1\/d=p
theorem Pr.cop(h:Pr p)(k:¬(p:Int)∣a):∃u v,u*p+v*a=1:=by
 have h1:ot p a.natAbs=1:=by rcases h.2 _ (x8 p a.natAbs)with e|e;(·exact e);exfalso;apply k;have:=wU p a.natAbs;rw[e]at this;exact dc.mpr this
 have:∀n m x,x<=n->ot m x=1->∃u v:Int,u*m+v*x=1:=by
  intro n;induction n with
   |zero=>intro m x hx hg;have:x=0:=⋯;subst this;rw[vS]at hg;subst hg;exact⟨1,0,by grind⟩
   |succ n ih=>intro m x hx hg;by_cases e:x=0;(·subst e;rw[vS]at hg;subst hg;exact⟨1,0,by grind⟩);(have h2:ot x (m%x)=1:=by rw[wV,<-Nat.gcd_rec,wV];exact hg);have h3:=ja m (ik e);obtain⟨u,v,re⟩:=ih x (m%x) ⋯ h2;refine⟨v,u-v*((m/x:Nat):Int),?_⟩;(have h4:(m:Int)=(x:Int)*((m/x:Nat):Int)+((m%x:Nat):Int):=by have:=nB m x;lia);rw[h4];grind
 obtain⟨u,v,re⟩:=this a.natAbs p a.natAbs (aw _) h1;rcases Ec a with e|e;.refine⟨u,v,?_⟩;rw[e];exact re
 refine⟨u,-v,?_⟩;have:-v*a=v*(a.natAbs:Int):=by have:a=-(a.natAbs:Int):=e;grind
 rw[this];exact re
noncomputable abbrev Zp(p:Nat):Type:=cp (p:Int)
theorem cn(h:Pr p):nU (Zp p) where
 ej:=λe=>by
  have:=gr.mp (cp.dh.mp e)
  have:=fJ ∅ this
  have:=h.1
  lia
 inv x hx:=by
  obtain⟨a,rfl⟩:=cp.rep x
  obtain⟨u,v,re⟩:=h.cop (a:=a) (λk=>hx (cp.dh.mpr (gr.mpr k)))
  refine⟨cp.mk _ v,?_⟩
  rw[<-cp.o8,<-cp.mk_one,cp.g8]
  exact⟨-u,by grind⟩
end Tk
end
section
namespace Tk
open Lean.Grind
noncomputable def fk:Nat->Nat->Nat
 |_,0=>1
 |0,_+1=>0
 |n+1,k+1=>fk n k+fk n (k+1)
theorem j6(n:Nat):fk n 0=1:=by cases n<;>rfl
theorem j7(n k:Nat):fk (n+1) (k+1)=fk n k+fk n (k+1):=rfl
theorem vH(h:n<k):fk n k=0:=by
 induction n generalizing k with
  |zero=>cases k with
   |zero=>lia
   |succ k=>rfl
  |succ n ih=>cases k with
   |zero=>lia
   |succ k=>rw[j7,ih ⋯,ih ⋯]
theorem IY(n:Nat):fk n n=1:=by
 induction n with
  |zero=>rfl
  |succ n ih=>rw[j7,ih,vH ⋯]
theorem Cq(n k:Nat):(k+1)*fk (n+1) (k+1)=(n+1)*fk n k:=by
 induction n generalizing k with
  |zero=>
   cases k with
    |zero=>rfl
    |succ k=>rw[vH ⋯,vH ⋯];lia
  |succ n ih=>
   cases k with
    |zero=>have h1:=ih 0;rw[j6]at h1;rw[j7,j6];lia
    |succ k=>have h1:=ih k;have h2:=ih (k+1);rw[j7 (n+1) (k+1),j7 n k]at*;rw[j7 n (k+1)]at h2 ⊢;generalize fk n k=a at*;generalize fk n (k+1)=b at*;generalize fk n (k+1+1)=c at*;grind
section
variable {A:Type}[bI A]
theorem ki(m n:Nat):(ag.cw (m+n):A)=ag.cw m+ag.cw n:=Semiring.natCast_add m n
theorem pQ(m n:Nat):(ag.cw (m*n):A)=ag.cw m*ag.cw n:=Semiring.natCast_mul m n
theorem oh:(ag.cw 0:A)=0:=Semiring.natCast_zero
theorem kh:(ag.cw 1:A)=1:=Semiring.natCast_one
theorem QX(a b:A)(n:Nat):(a+b)^n=bZ (n+1) (λk=>ag.cw (fk n k)*(a^k*b^(n-k))):=by
 induction n with
  |zero=>rw[bE,dN,j6,kh];simp only[aL];grind
  |succ n ih=>rw[ay,ih];(have h1:bZ (n+1) (λk=>ag.cw (fk n k)*(a^k*b^(n-k)))*(a+b)=bZ (n+1) (λk=>ag.cw (fk n k)*(a^(k+1)*b^(n-k)))+bZ (n+1) (λk=>ag.cw (fk n k)*(a^k*b^(n+1-k))):=by rw[<-kN,<-jU];apply bJ;intro k hk;have:n+1-k=(n-k)+1:=⋯;rw[this];simp only[ay];grind);rw[h1,fC (n:=n+1)];(have h2:bZ (n+1) (λk=>ag.cw (fk (n+1) (k+1))*(a^(k+1)*b^(n+1-(k+1))))=bZ (n+1) (λk=>ag.cw (fk n k)*(a^(k+1)*b^(n-k)))+bZ (n+1) (λk=>ag.cw (fk n (k+1))*(a^(k+1)*b^(n-k))):=by rw[<-kN];apply bJ;intro k hk;rw[j7,ki];have:n+1-(k+1)=n-k:=⋯;rw[this];grind);rw[h2];(have h3:bZ (n+1) (λk=>ag.cw (fk n k)*(a^k*b^(n+1-k)))=ag.cw (fk n 0)*(a^0*b^(n+1-0))+bZ (n+1) (λk=>ag.cw (fk n (k+1))*(a^(k+1)*b^(n-k))):=by rw[fC,bE (n:=n),vH (kI n),oh];(have:bZ n (λi=>ag.cw (fk n (i+1))*(a^(i+1)*b^(n+1-(i+1))))=bZ n (λk=>ag.cw (fk n (k+1))*(a^(k+1)*b^(n-k))):=by apply bJ;intro k hk;have:n+1-(k+1)=n-k:=⋯;rw[this]);rw[this];grind);rw[h3,j6,j6];grind
theorem Pr.dvd_mul(h:Pr p)(k:p∣a*b):p∣a\/p∣b:=by
 by_cases e:p∣a;.exact .inl e
 right;obtain⟨u,v,re⟩:=h.cop (a:=(a:Int)) (λk=>e (qi.mp k));obtain⟨c,hc⟩:=k;apply qi.mp;refine⟨u*b+v*c,?_⟩;have:(a:Int)*b=p*c:=by exact_mod_cast hc
 grind
theorem Pr.fk(h:Pr p)(h0:0<k)(h1:k<p):p∣fk p k:=by
 obtain⟨k,rfl⟩:∃j,k=j+1:=⟨k-1,⋯⟩;obtain⟨n,rfl⟩:∃j,p=j+1:=⟨p-1,⋯⟩;have:=Cq n k;have hd:n+1∣(k+1)*Tk.fk (n+1) (k+1):=⟨_,this⟩;rcases h.dvd_mul hd with e|e;.have:=eQ ⋯ e;lia
 exact e
class xV (A:Type) [bI A] (p:Nat):Prop where
 pr:Pr p
 zero:(ag.cw p:A)=0
theorem vi[xV A p](a b:A):(a+b)^p=a^p+b^p:=by
 have hp:Pr p:=xV.pr A;have h0:(ag.cw p:A)=0:=xV.zero;have:=hp.1;rw[QX,bE];obtain⟨n,rfl⟩:∃j,p=j+1:=⟨p-1,⋯⟩;rw[fC,eR,j6,IY,kh];.rw[kH,lY];simp only[aL];grind
 intro i hi;obtain⟨c,hc⟩:=hp.fk (k:=i+1) ⋯ ⋯;rw[hc,pQ,h0];grind
theorem qF[xV A p](a b:A)(n:Nat):(a+b)^(p^n)=a^(p^n)+b^(p^n):=by
 induction n with
  |zero=>simp only[gu];grind
  |succ n ih=>rw[cv,iI,ih,vi,<-iI,<-iI]
theorem Pr.ne_zero(h:Pr p):p≠0:=by have:=h.1;lia
noncomputable def T6(A:Type)[bI A](p:Nat)[xV A p](n:Nat):gJ A A where
 f a:=a^(p^n)
 add a b:=qF a b n
 mul a b:=kP a b _
 one:=kO _
theorem vh[xV A p](a b:A)(n:Nat):(a-b)^(p^n)=a^(p^n)-b^(p^n):=(T6 A p n).sub a b
theorem QA[xV A p](a b:A):(a-b)^p=a^p-b^p:=by have:=vh (p:=p) a b 1;rwa[Nat.pow_one]at this
theorem gJ.cw{B:Type}[bI B](h:gJ A B)(n:Nat):h.f (ag.cw n)=ag.cw n:=by
 induction n with
  |zero=>rw[oh,oh,h.zero]
  |succ n ih=>rw[ki,ki,h.add,ih,kh,kh,h.one]
theorem xV.HU{B:Type}[bI B][xV A p](h:gJ A B):xV B p where
 pr:=xV.pr A
 zero:=by rw[<-h.cw,xV.zero,h.zero]
noncomputable instance{p:Nat}[xV A p]:xV (ag A) p:=xV.HU ag.sA
noncomputable instance{p:Nat}[xV A p](g:A):xV (cp g) p:=xV.HU (cp.pR g)
end
theorem pc(h:Pr p):xV (Zp p) p where
 pr:=h
 zero:=by
  show cp.mk _ (ag.cw p)=0
  rw[cp.dh]
  exact⟨1,by show(p:Int)=p*1;lia⟩
theorem CO(h:0<p)(x:Zp p):∃n,n<p/\x=cp.mk _ (n:Int):=by obtain⟨a,rfl⟩:=cp.rep x;have h1:=dr a (b:=(p:Int)) ⋯;have h2:=cW a (b:=(p:Int)) ⋯;refine⟨(a%p).toNat,⋯,?_⟩;rw[cp.g8];refine⟨a/p,?_⟩;have:=eD a p;lia
theorem EF(n:Nat):(ag.cw n:Zp p)=cp.mk _ (n:Int):=rfl
theorem wD(h:Pr p)(x:Zp p):x^p=x:=by
 have:=pc h;obtain⟨n,hn,rfl⟩:=CO (by have:=h.1;lia) x;rw[<-EF];clear hn;induction n with
  |zero=>rw[oh,nG h.ne_zero]
  |succ n ih=>rw[ki,vi,ih,kh,kO]
theorem zO(h:Pr p)(x:Zp p)(n:Nat):x^(p^n)=x:=by
 induction n with
  |zero=>simp only[gu];grind
  |succ n ih=>rw[cv,iI,ih,wD h]
noncomputable def uG(p:Nat):List (Zp p):=(aX p).map λ(n:Nat)=>cp.mk _ (n:Int)
theorem sD(p:Nat):(uG p).length=p:=by simp[uG]
theorem Bl(h:0<p)(x:Zp p):x∈uG p:=by obtain⟨n,hn,rfl⟩:=CO h x;exact dE (f:=λn:Nat=>cp.mk (p:Int) (n:Int)) (cr.mpr hn)
theorem Hm{p m n:Nat}(hm:m<p)(hn:n<p)(h:cp.mk (p:Int) (m:Int)=cp.mk _ (n:Int)):m=n:=by
 obtain⟨c,hc⟩:=gr.mp (cp.g8.mp h);have:c=0:=by apply ae;intro hne;rcases oE hne with h1|h1;(·have:(p:Int)*c<=p*(-1):=dX ⋯ ⋯;lia);have:(p:Int)*1<=p*c:=dX ⋯ ⋯;lia
 rw[this]at hc;lia
theorem me{α β:Type}{f:α->β}{l:List α}(hn:l.Nodup)(h:∀a,a∈l->∀b,b∈l->f a=f b->a=b):(l.map f).Nodup:=by
 induction l with
  |nil=>exact lV
  |cons a l ih=>rw[bO]at hn;rw[aR,bO];refine⟨λhm=>?_,ih hn.2 λb hb c hc=>h b (al _ hb) c (al _ hc)⟩;obtain⟨b,hb,he⟩:=ao.mp hm;have:=h b (al _ hb) a aq he;exact hn.1 (this ▸ hb)
theorem oG(p:Nat):(uG p).Nodup:=by apply me kE;intro a ha b hb h;exact Hm (cr.mp ha) (cr.mp hb) h
structure Els(L:Type)(l:List L):Prop where
 nodup:l.Nodup
 all:∀x:L,x∈l
theorem Ub{L:Type}[bI L][nU L]{l:List L}(h:Els L l){y:L}(hy:y≠0):y^(l.length-1)=1:=by
 have:DecidableEq L:=λ_ _=>oF _;have h0:=h.all 0;obtain⟨s,t,rfl⟩:=d6 h0;have gq:(s++(0:L)::t).Perm (0::(s++t)):=c_;have hn:=gq.nodup_iff.mp h.nodup;rw[bO]at hn;have hlen:(s++(0:L)::t).length-1=(s++t).length:=by simp
 rw[hlen];generalize s++t=m at*;have hm:∀x,x≠0->x∈m:=λx hx=>by have:=gq.mem_iff.mp (h.all x);rcases bi.mp this with e|e;(·exact ap e hx);exact e
 have hne:∀x,x∈m->x≠0:=λx hx e=>hn.1 (e ▸ hx);have afO:(m.map (λx=>y*x)).Perm m:=by have hnd:=me hn.2 λa _ b _ e=>iC.et hy e;apply(oz hnd hn.2).mpr;intro a;constructor;(·intro ha;obtain⟨b,hb,rfl⟩:=ao.mp ha;exact hm _ (iC.jm hy (hne b hb)));intro ha;obtain⟨z,hz⟩:=nU.inv y hy;refine ao.mpr ⟨z*a,hm _ ?_,by grind⟩;intro e;apply hne a ha;(have:a=y*(z*a):=by grind);rw[this,e];grind
 have oP:∀l,ag.prod (l.map (λx=>y*x))=y^l.length*ag.prod l:=by
  intro l;induction l with
   |nil=>simp only[cK,cV,ag.prod,aL];grind
   |cons a l ih=>simp only[aR,a7,ag.prod,ih,ay];grind
 have h1:=oP m;rw[ag.jE afO]at h1;have hp:∀l:List L,(∀x,x∈l->x≠0)->ag.prod l≠0:=by
  intro l;induction l with
   |nil=>intro _;exact iC.ej
   |cons a l ih=>intro hl;exact iC.jm (hl a aq) (ih λx hx=>hl x (al _ hx))
 apply iC.et (hp m hne);grind
theorem Uc{L:Type}{l:List L}(h:Els L l)(x:L):0<l.length:=List.length_pos_of_mem (h.all x)
theorem QM{L:Type}[bI L][nU L]{l:List L}(h:Els L l)(y:L):y^l.length=y:=by
 have h1:=Uc h y;by_cases hy:y=0;.subst hy;exact nG ⋯
 have:=Ub h hy;have e:l.length=(l.length-1)+1:=⋯;rw[e,ay,this];grind
end Tk
end
section
namespace Tk
open Lean.Grind
namespace ag
section
variable {p:Nat}
noncomputable def lows(p:Nat):Nat->List (ag (Zp p))
 |0=>[0]
 |n+1=>(uG p).flatMap λa=>(lows p n).map λq=>C a+X*q
theorem zB(p n:Nat):(lows p n).length=p^n:=by
 induction n with
  |zero=>rfl
  |succ n ih=>
   simp only[lows,List.length_flatMap,ab,ih];rw[cv,du];have:∀l:List (Zp p),(l.map λ_=>p^n).sum=l.length*p^n:=by
    intro l;induction l with
     |nil=>simp
     |cons a l ih=>simp[ih,tI,jB]
   rw[this,sD]
theorem Ki(h:q∈lows p n):q.Lt n:=by
 induction n generalizing q with
  |zero=>simp only[lows,a6]at h;rw[h];exact Lt.zero 0
  |succ n ih=>simp only[lows,xD,ao]at h;obtain⟨a,_,r,hr,rfl⟩:=h;exact((Lt.C a).mono ⋯).add (Lt.X.mul (ih hr) ⋯)
theorem Pw(hp:0<p)(h:q.Lt n):q∈lows p n:=by
 induction n generalizing q with
  |zero=>simp only[lows,a6];exact h.kl
  |succ n ih=>simp only[lows,xD,ao];exact⟨q.c 0,Bl hp _,q.tail,ih h.tail,(vo q).symm⟩
theorem Rs{R:Type}[bI R]{a b:R}{q r:ag R}(h:C a+X*q=C b+X*r):a=b/\q=r:=by
 constructor;.have:=aK (λs=>s.c 0) h;simp only[g9,z6,mE]at this;grind
 apply ext;intro i;have:=aK (λs=>s.c (i+1)) h;simp only[g9,IU,ng]at this;grind
theorem Ie(n:Nat):(lows p n).Nodup:=by
 induction n with
  |zero=>simp[lows]
  |succ n ih=>
   simp only[lows];have:∀l:List (Zp p),l.Nodup->(l.flatMap λa=>(lows p n).map λq=>C a+X*q).Nodup:=by
    intro l;induction l with
     |nil=>intro _;exact lV
     |cons a l ihl=>intro hl;rw[bO]at hl;rw[pB,jP];refine⟨me ih λq _ r _ h=>(Rs h).2,ihl hl.2,?_⟩;intro s hs t ht e;subst e;simp only[xD,ao]at hs ht;obtain⟨q,_,rfl⟩:=hs;obtain⟨b,hb,r,_,h⟩:=ht;have:=(Rs h).1;exact hl.1 (this ▸ hb)
   exact this _ (oG p)
variable (hp:Pr p)
include hp
theorem DD(hg:g.bD d):Els (cp g) ((lows p d).map (cp.mk g)) where
 nodup:=by
  apply me (Ie d)
  intro a ha b hb h
  obtain⟨c,hc⟩:=cp.g8.mp h
  have:=hg.o7 (q:=c) (by rw[<-hc];exact(Ki ha).sub (Ki hb))
  rw[this]at hc;grind
 all x:=by
  obtain⟨f,rfl⟩:=cp.rep x
  obtain⟨q,r,h,hr⟩:=hg.div f
  refine ao.mpr ⟨r,Pw (by have:=hp.1;lia) hr,?_⟩
  rw[cp.g8]
  exact⟨-q,by grind⟩
theorem SF{g:ag (Zp p)}{d:Nat}(hi:g.ir)(hg:g.bD d)(y:cp g):y^(p^d)=y:=by have:=cn hp;have:=mm hi;have h:=QM (DD hp hg) y;rwa[ab,zB]at h
theorem OW{B:Type}[bI B](k:gJ (Zp p) B)(f:ag (Zp p))(y:B)(n:Nat):((f.map k).ev y)^(p^n)=(f.map k).ev (y^(p^n)):=by
 have:=pc hp;have:xV B p:=xV.HU k;refine induct (P:=λf=>((f.map k).ev y)^(p^n)=(f.map k).ev (y^(p^n))) ?_ ?_ f;.rw[lL,vn,vn,nG];intro e;have:=kr (n:=n) (ik hp.ne_zero);lia
 intro a q ih;rw[gN,cj,np,zA];simp only[up,o9,A3,DB];rw[qF,kP,ih,<-k.pow,zO hp]
omit hp in
theorem VL{R:Type}[bI R](g f:ag R):(f.map (sA.comp (cp.pR g))).ev (cp.mk g X)=cp.mk g f:=by
 refine induct (P:=λf=>(f.map (sA.comp (cp.pR g))).ev (cp.mk g X)=cp.mk g f) ?_ ?_ f;.rw[lL,vn];rfl
 intro a q ih;rw[gN,cj,np,zA];simp only[up,o9,A3,DB];rw[ih];rfl
theorem Fv{g:ag (Zp p)}{e d:Nat}(hi:g.ir)(hg:g.bD e)(h:Dv g (X^(p^d)-X)):e<=d\/d=0:=by
 have:=cn hp;have:=mm hi;have hx:cp.mk g X^(p^d)=cp.mk g X:=by rw[<-cp.mh,cp.g8];exact h
 have iV:∀y:cp g,y^(p^d)=y:=by intro y;obtain⟨f,rfl⟩:=cp.rep y;have:=OW hp (sA.comp (cp.pR g)) f (cp.mk g X) d;rwa[hx,VL]at this
 by_cases hd:d=0;.exact .inr hd
 left;have h2:=hp.1;have h3:2<=p^d:=by have:p^1<=p^d:=bg ⋯ ⋯;rw[Nat.pow_one]at this;lia
 have hq:(X^(p^d)-X:ag (cp g)).size=p^d+1:=by apply jb;(·exact(bD.A7 _).lt.sub (Lt.X.mono ⋯));rw[i8,(bD.A7 _).one,RW,ah ⋯];intro e0;apply nU.ej (R:=cp g);grind
 have hne:(X^(p^d)-X:ag (cp g))≠0:=aS.mp ⋯;have hl:=wq hne (DD hp hg).nodup (λa _=>by rw[si,zQ,DB,iV];grind);rw[hq,ab,zB]at hl;apply ae;intro hc;have:p^(d+1)<=p^e:=bg ⋯ ⋯;rw[cv]at this;have:p^d*2<=p^d*p:=di _ h2;lia
end
end ag
end Tk
end
section
namespace Tk
open Lean.Grind
noncomputable def RU(p:Nat):Nat->Nat
 |0=>0
 |d+1=>RU p d+p^d
theorem T4(p d:Nat)(hp:0<p):(p-1)*RU p d=p^d-1:=by
 induction d with
  |zero=>simp[RU]
  |succ d ih=>have h1:0<p^d:=kr hp;rw[RU,Jv,ih,cv];obtain⟨q,rfl⟩:∃q,p=q+1:=⟨p-1,⋯⟩;simp only[lD];rw[du ((q+1)^d),tI];lia
theorem Qw(hp:0<p)(ho:p%2=1):(p^d-1)/2=RU p d*((p-1)/2):=by rw[<-T4 p d hp];have:p-1=2*((p-1)/2):=⋯;generalize (p-1)/2=h at*;rw[this,jL,Nat.mul_div_cancel_left _ ⋯,du]
namespace ag
section
variable {p:Nat}(hp:Pr p)
include hp
theorem IP{g:ag (Zp p)}{d:Nat}(hi:g.ir)(hg:g.bD d):((aX d).map λi=>cp.mk g X^(p^i)).Nodup:=by
 have:=cn hp;have:=mm hi;have:=pc hp;have key:∀i j,i<j->j<d->cp.mk g X^(p^i)≠cp.mk g X^(p^j):=by intro i j hij hj e;(have h1:(cp.mk g X^(p^(j-i))-cp.mk g X)^(p^i)=0:=by rw[vh (p:=p),<-iI,<-iW,show j-i+i=j by lia,e];grind);(have h2:cp.mk g X^(p^(j-i))-cp.mk g X=0:=by apply ae;intro hc;exact iC.md hc _ h1);rw[<-cp.mh,<-cp.Dn,cp.dh]at h2;rcases Fv hp hi hg h2 with h3|h3<;>lia
 apply me kE;intro a ha b hb h;rw[cr]at ha hb;rcases fM a b with e|e|e;.exact ap h (key a b e hb)
 .exact e
 exact ap h.symm (key b a e ha)
theorem Uo{g:ag (Zp p)}{d:Nat}(hi:g.ir)(hg:g.bD d):g.map (sA.comp (cp.pR g))=prod (((aX d).map λi=>cp.mk g X^(p^i)).map Xm):=by
 have:=cn hp;have:=mm hi;apply Ci;.rw[ab,eF];exact hg.map _
 .exact IP hp hi hg
 intro a ha;obtain⟨i,_,rfl⟩:=ao.mp ha;rw[<-OW hp,VL,cp.dh.mpr (Dv.refl g)];apply nG;have:=kr (n:=i) (ik hp.ne_zero);lia
omit hp in
theorem T3{A:Type}[bI A](y:A)(d:Nat):prod ((aX d).map λi=>y^(p^i))=y^RU p d:=by
 induction d with
  |zero=>simp only[List.range_zero,cK,prod,RU,aL]
  |succ d ih=>rw[gD,aF,fg,ih,RU,iJ];simp only[aR,cK,prod];grind
omit hp in
theorem OS{A B:Type}[bI A](f:B->A)(l:List B):prod (l.map λi=>-f i)=(-1)^l.length*prod (l.map f):=by
 induction l with
  |nil=>simp only[cK,cV,prod,aL];grind
  |cons a l ih=>simp only[aR,a7,prod,ih,ay];grind
theorem norm{g:ag (Zp p)}{d:Nat}(hi:g.ir)(hg:g.bD d)(a:Zp p):cp.mk g ((X+C a)^RU p d)=cp.mk g (C ((-1:Zp p)^d*g.ev (-a))):=by
 have:=cn hp;have:=mm hi;have:=pc hp;have h1:=YI (sA.comp (cp.pR g)) g (-a);rw[Uo hp hi hg]at h1;have h2:∀l:List (cp g),∀y,(prod (l.map Xm)).ev y=prod (l.map λz=>y-z):=by
  intro l y;induction l with
   |nil=>simp only[cK,prod,zS]
   |cons b l ih=>simp only[aR,prod,o9,KN,ih]
 rw[h2,be]at h1;have h3:((λz=>(sA.comp (cp.pR g)).f (-a)-z)∘λi=>cp.mk g X^(p^i))=λi=>-(cp.mk g (X+C a)^(p^i)):=by funext i;show cp.mk g (C (-a))-cp.mk g X^(p^i)=-(cp.mk g (X+C a)^(p^i));rw[<-cp.mh,<-cp.mh,qF (p:=p),<-Lc,zO hp,Rr,cp.Xy,cp.zw];grind
 rw[h3,OS (λi=>cp.mk g (X+C a)^(p^i)),eF,T3,<-cp.mh]at h1;have h4:cp.mk g (C ((-1:Zp p)^d*g.ev (-a)))=(-1)^d*(sA.comp (cp.pR g)).f (g.ev (-a)):=by show(sA.comp (cp.pR g)).f _=_;rw[gJ.mul,gJ.pow,gJ.neg,gJ.one]
 rw[h4,<-h1];have h5:((-1:cp g)^d)*(-1)^d=1:=by rw[<-kP,show(-1:cp g)*-1=1 by grind,kO]
 grind
noncomputable def vC{p:Nat}(u:Zp p):Zp p:=u^((p-1)/2)
omit hp in
theorem K3(u v:Zp p):vC (u*v)=vC u*vC v:=kP u v _
theorem YZ(ho:p%2=1){u:Zp p}(hu:u≠0):vC u*vC u=1:=by
 have:=cn hp;have h1:vC u*vC u=u^(p-1):=by unfold vC;rw[<-iJ];congr 1;lia
 rw[h1];have h2:=wD hp u;have h4:u^p=u^(p-1)*u:=by rw[<-ay];congr 1;lia
 apply iC.et hu;grind
theorem DL(ho:p%2=1){u:Zp p}(hu:u≠0):vC u=1\/vC u=-1:=by
 have:=cn hp;have h1:=YZ hp ho hu;have h2:(vC u-1)*(vC u+1)=0:=by grind
 rcases iC.mul_eq _ _ h2 with h3|h3;.left;grind
 right;grind
theorem Ur:vC (1:Zp p)=1:=kO _
theorem Hq(ho:p%2=1):(1:Zp p)≠-1:=by
 have:=cn hp;intro e;have h2:cp.mk (p:Int) (2:Int)=0:=by show cp.mk (p:Int) (1+1:Int)=0;rw[cp.zw,cp.mk_one];grind
 have h3:=gr.mp (cp.dh.mp h2);have h4:=fJ ∅ h3;have:=hp.1;have:p=2:=⋯;lia
theorem IF(ho:p%2=1):∃n:Zp p,n≠0/\vC n=-1:=by
 have:=cn hp;apply ae;intro hc;have h1:∀u:Zp p,u≠0->vC u=1:=by intro u hu;rcases DL hp ho hu with e|e;(·exact e);exact ap ⟨u,hu,e⟩ hc
 have hp2:=hp.1;have hm:0<(p-1)/2:=⋯;have hs:(X^((p-1)/2)-C 1:ag (Zp p)).size=(p-1)/2+1:=by apply jb;(·exact(bD.A7 _).lt.sub ((Lt.C 1).mono ⋯));rw[i8,(bD.A7 _).one,yz,ah ⋯];intro e0;apply nU.ej (R:=Zp p);grind
 have hne:(X^((p-1)/2)-C 1:ag (Zp p))≠0:=aS.mp ⋯;have h0:=Bl (by lia:0<p) (0:Zp p);obtain⟨s,t,i5⟩:=d6 h0;have hn:=oG p;have hlen:=sD p;rw[i5]at hn hlen;have gq:(s++(0:Zp p)::t).Perm (0::(s++t)):=c_;have hn2:=gq.nodup_iff.mp hn;rw[bO]at hn2;have:=wq hne hn2.2 (λa ha=>by rw[si,zQ,DB,A3];have h2:=h1 a (λe=>hn2.1 (e ▸ ha));unfold vC at h2;rw[h2];grind);rw[hs]at this;simp at hlen this;lia
theorem yx(ho:p%2=1)(hi:g.ir)(hg:g.bD d)(a:Zp p):Dv g ((X+C a)^((p^d-1)/2)-1)↔vC ((-1:Zp p)^d*g.ev (-a))=1:=by
 have:=cn hp;have:=mm hi;rw[Qw (by have:=hp.1;lia) ho,iI];have h1:=norm hp hi hg a;have h2:cp.mk g (((X+C a)^RU p d)^((p-1)/2))=cp.mk g (C (vC ((-1:Zp p)^d*g.ev (-a)))):=by rw[cp.mh,h1,<-cp.mh,<-Lc];rfl
 rw[<-cp.dh,cp.Dn,h2,<-cp.Dn,cp.dh];rw[<-eC,<-Rp];constructor;.rintro⟨c,hc⟩;(have h3:(C (vC ((-1:Zp p)^d*g.ev (-a))-1):ag (Zp p))=0:=by apply ae;intro hne;have h4:=fm ⟨c,hc⟩ hne;have h5:=hi.pos;have h6:=wm (vC ((-1:Zp p)^d*g.ev (-a))-1);lia);have:=iu (a:=vC ((-1:Zp p)^d*g.ev (-a))-1) (b:=0) h3;grind
 intro h;rw[h,show(1:Zp p)-1=0 by grind,jI];exact Dv.zero g
theorem MT(ho:p%2=1)(gi:g.ir)(hi:h.ir)(gm:g.bD 1)(hm:h.bD 1)(hne:g≠h):∃a:Zp p,¬(Dv g ((X+C a)^((p^1-1)/2)-1)↔Dv h ((X+C a)^((p^1-1)/2)-1)):=by
 have:=cn hp;obtain⟨n,hn0,hn⟩:=IF hp ho;have hn1:1-n≠0:=by intro e;(have:n=1:=by grind);rw[this,Ur hp]at hn;exact Hq hp ho hn
 obtain⟨w,hw⟩:=nU.inv (1-n) hn1;have acO:∀q:ag (Zp p),q.bD 1->∀x,q.ev x=q.c 0+x:=by intro q hq x;rw[sj x hq.lt,RV,bE,bE,dN,hq.one,aL];(have:x^1=x:=by rw[ay,aL];grind);rw[this];grind
 refine⟨w*(g.c 0-n*h.c 0),?_⟩;rw[yx hp ho gi gm,yx hp ho hi hm,acO g gm,acO h hm];have e0:((-1:Zp p))^1=-1:=by rw[ay,aL];grind
 rw[e0];have e1:-1*(g.c 0+-(w*(g.c 0-n*h.c 0)))=n*(-1*(h.c 0+-(w*(g.c 0-n*h.c 0)))):=by grind
 have e2:-1*(h.c 0+-(w*(g.c 0-n*h.c 0)))=w*(g.c 0-h.c 0):=by grind
 have e3:w*(g.c 0-h.c 0)≠0:=by apply iC.jm;(·rintro rfl;apply nU.ej (R:=Zp p);grind);intro e;apply hne;apply ext;intro i;by_cases i0:i=0;(·subst i0;grind);by_cases i1:i=1;(·rw[i1,gm.one,hm.one]);rw[gm.lt i ⋯,hm.lt i ⋯]
 rw[e1,e2,K3,hn];intro AZ;have two:=Hq hp ho;rcases DL hp ho e3 with e|e;.rw[e]at AZ;have:=AZ.mpr rfl;grind
 rw[e]at AZ;have:=AZ.mp (by grind);grind
end
end ag
end Tk
end
section
namespace Tk
open Lean.Grind
namespace ag
section
variable {R:Type}[bI R]
noncomputable def fz(p:ag R):ag R:=⟨λi=>cw (i+1)*p.c (i+1),by obtain⟨n,h⟩:=p.fin;exact⟨n,λi hi=>by rw[h (i+1) ⋯];grind⟩⟩
theorem ol(p:ag R)(i:Nat):(fz p).c i=cw (i+1)*p.c (i+1):=rfl
theorem vx(p q:ag R):fz (p+q)=fz p+fz q:=ext λi=>by simp only[g9,ol];grind
theorem zW(a:R)(p:ag R):fz (C a*p)=C a*fz p:=ext λi=>by simp only[cA,ol];grind
theorem zX(a:R):fz (C a)=0:=ext λi=>by rw[ol,IU,dj];grind
theorem vy(p:ag R):fz (X*p)=p+X*fz p:=ext λi=>by
 rw[ol,ng,g9];cases i with
  |zero=>rw[mE,fL,kh];grind
  |succ i=>rw[ng,ol,ki (i+1) 1,kh];grind
theorem mC(p q:ag R):fz (p*q)=fz p*q+p*fz q:=by
 refine induct (P:=λp=>fz (p*q)=fz p*q+p*fz q) ?_ ?_ p;·(have e:(0:ag R)*q=0:=by grind);have e2:fz (0:ag R)=0:=zX 0;rw[e,e2];grind
 intro a r ih;have:(C a+X*r)*q=C a*q+X*(r*q):=by grind
 rw[this,vx,zW,vy,ih,vx,zX,vy];grind
theorem KS(p q:ag R):fz (p-q)=fz p-fz q:=ext λi=>by simp only[i8,ol];grind
theorem acT:fz (X:ag R)=1:=by
 have:=vy (1:ag R);have e:(X:ag R)*1=X:=by grind
 have e2:fz (1:ag R)=0:=zX 1;rw[e,e2]at this;rw[this];grind
theorem yy(p:ag R)(n:Nat):fz (p^(n+1))=C (cw (n+1))*p^n*fz p:=by
 induction n with
  |zero=>(have e:p^(0+1)=p:=by rw[ay,aL];grind);rw[e,aL,fL,kh,eC];grind
  |succ n ih=>rw[ay,mC,ih,ki (n+1) 1,kh,Cv,eC,ay];grind
theorem Lt.fz{p:ag R}(h:p.Lt (n+1)):(fz p).Lt n:=λi hi=>by rw[ol,h (i+1) ⋯];grind
theorem Ug(n:Nat)(f:Nat->ag R):fz (bZ n f)=bZ n (λi=>fz (f i)):=by
 induction n with
  |zero=>exact zX 0
  |succ n ih=>rw[bE,bE,vx,ih]
theorem Lt.sum{f:Nat->ag R}(h:∀i,i<n->(f i).Lt m):(bZ n f).Lt m:=by
 induction n with
  |zero=>exact Lt.zero m
  |succ n ih=>exact(ih λi hi=>h i ⋯).add (h n ⋯)
theorem Lt.pow{p:ag R}(h:p.Lt (d+1))(n:Nat):(p^n).Lt (d*n+1):=by
 induction n with
  |zero=>rw[aL,rB];exact Lt.one
  |succ n ih=>rw[ay];exact ih.mul h (by rw[wR];lia)
theorem bD.pow{p:ag R}(h:p.bD d)(n:Nat):(p^n).bD (d*n):=by
 induction n with
  |zero=>rw[aL,rB];exact bD.unit
  |succ n ih=>rw[ay,wR];exact ih.mul h
noncomputable def cut(f:Nat->R)(n:Nat):ag R:=⟨λi=>if i<n then f i else 0,n,λi hi=>by simp;lia⟩
theorem so(f:Nat->R)(n i:Nat):(cut f n).c i=if i<n then f i else 0:=rfl
theorem Lt.cut(f:Nat->R)(n:Nat):(ag.cut f n).Lt n:=λi hi=>by rw[so,ah ⋯]
end
section
variable {K:Type}[bI K][nU K]
theorem LI(n k:Nat)(h:k<n+1)(f:Nat->K):bZ (n+1) f=f k+bZ n (λi=>f (if i<k then i else i+1)):=by
 obtain⟨m,rfl⟩:∃m,n=k+m:=⟨n-k,⋯⟩;rw[show k+m+1=(k+1)+m by lia,n_ (k+1) m,n_ k m,bE];have e1:bZ k (λi=>f (if i<k then i else i+1))=bZ k f:=bJ λi hi=>by rw[aj hi]
 have e2:bZ m (λi=>f (if k+i<k then k+i else k+i+1))=bZ m (λi=>f (k+1+i)):=bJ λi hi=>by rw[ah ⋯];congr 1;lia
 rw[e1,e2];grind
theorem ker(h:m<n)(v:Nat->Nat->K):∃c:Nat->K,(∃i,i<n/\c i≠0)/\∀j,j<m->bZ n (λi=>c i*v i j)=0:=by
 induction m generalizing n v with
  |zero=>exact⟨λ_=>1,⟨0,h,nU.ej⟩,λj hj=>by lia⟩
  |succ m ih=>by_cases e:∀i,i<n->v i m=0;(·obtain⟨c,hc,hk⟩:=ih (n:=n) ⋯ v;refine⟨c,hc,λj hj=>?_⟩;by_cases Ir:j=m;(·subst Ir;exact eR λi hi=>by rw[e i hi];grind);exact hk j ⋯);(have:∃k,k<n/\v k m≠0:=by apply ae;intro hc;apply e;intro i hi;apply ae;intro hne;exact hc ⟨i,hi,hne⟩);obtain⟨k,hk,hv⟩:=this;obtain⟨w,hw⟩:=nU.inv _ hv;obtain⟨n,rfl⟩:∃n',n=n'+1:=⟨n-1,⋯⟩;obtain⟨c,⟨i0,hi0,xk⟩,hc⟩:=ih (n:=n) ⋯ (λi j=>v (if i<k then i else i+1) j-v (if i<k then i else i+1) m*w*v k j);refine⟨λi=>if i=k then-(bZ n (λi=>c i*v (if i<k then i else i+1) m)*w)else if i<k then c i else c (i-1),?_,?_⟩;(·refine⟨if i0<k then i0 else i0+1,?_,?_⟩;(·split<;>lia);by_cases hlt:i0<k;(·simp only[aj hlt,ah (show ¬i0=k by lia)];exact xk);simp only[ah hlt,ah (show ¬i0+1=k by lia),ah (show ¬i0+1<k by lia),lD];exact xk);intro j hj;rw[LI n k hk];simp only[aj];(have e1:bZ n (λi=>(if(if i<k then i else i+1)=k then-(bZ n (λi=>c i*v (if i<k then i else i+1) m)*w)else if(if i<k then i else i+1)<k then c (if i<k then i else i+1)else c ((if i<k then i else i+1)-1))*v (if i<k then i else i+1) j)=bZ n (λi=>c i*v (if i<k then i else i+1) j):=by apply bJ;intro i hi;by_cases hlt:i<k;(·simp only[aj hlt,ah (show ¬i=k by lia)]);simp only[ah hlt,ah (show ¬i+1=k by lia),ah (show ¬i+1<k by lia),lD]);rw[e1];(have e2:bZ n (λi=>c i*(v (if i<k then i else i+1) j-v (if i<k then i else i+1) m*w*v k j))=bZ n (λi=>c i*v (if i<k then i else i+1) j)-bZ n (λi=>c i*v (if i<k then i else i+1) m)*(w*v k j):=by rw[<-jU,<-n9];exact bJ λi hi=>by grind);by_cases Ir:j=m;(·subst Ir;have:bZ n (λi=>c i*v (if i<k then i else i+1) j)=bZ n (λi=>c i*v (if i<k then i else i+1) j):=rfl;generalize bZ n (λi=>c i*v (if i<k then i else i+1) j)=S at*;grind);have:=hc j ⋯;rw[e2]at this;grind
theorem Tu(h:m<n)(T:Nat->(Nat->K)->K)(agI:∀j u v,T j (λi=>u i+v i)=T j u+T j v)(ab0:∀j a u,T j (λi=>a*u i)=a*T j u):∃c:Nat->K,(∀i,n<=i->c i=0)/\(∃i,i<n/\c i≠0)/\∀j,j<m->T j c=0:=by
 obtain⟨c,⟨i0,h0,xk⟩,hc⟩:=ker h (λi j=>T j (λl=>if l=i then 1 else 0));refine⟨λi=>if i<n then c i else 0,λi hi=>ah ⋯,⟨i0,h0,by simp only[aj h0];exact xk⟩,λj hj=>?_⟩;refine Eq.trans ?_ (hc j hj);have:∀n,T j (λi=>if i<n then c i else 0)=bZ n (λi=>c i*T j (λl=>if l=i then 1 else 0)):=by
  intro n;induction n with
   |zero=>have:=ab0 j 0 (λ_=>0);(have e:(λ_:Nat=>(0:K)*0)=(λi:Nat=>if i<0 then c i else 0):=by funext i;rw[ah ⋯];grind);rw[e]at this;rw[this,dN];grind
   |succ n ih=>rw[bE,<-ih,<-ab0,<-agI];congr 1;funext i;by_cases h1:i<n;(·rw[aj h1,aj ⋯,ah ⋯];grind);by_cases h2:i=n;(·subst h2;rw[ah h1,aj ⋯,aj rfl];grind);rw[ah h1,ah ⋯,ah h2];grind
 exact this n
end
end ag
end Tk
end
section
namespace Tk
open Lean.Grind
namespace ag
section
variable {K:Type}[bI K]
noncomputable def L3(F:ag K)(e:Nat->K):Nat->ag K->ag K
 |0,u=>u
 |k+1,u=>F*fz (L3 F e k u)+C (e k)*fz F*L3 F e k u
theorem Kc(F:ag K)(e:Nat->K)(k:Nat)(u v:ag K):L3 F e k (u+v)=L3 F e k u+L3 F e k v:=by
 induction k with
  |zero=>rfl
  |succ k ih=>simp only[L3,ih,vx];grind
theorem Kb(F:ag K)(e:Nat->K)(k:Nat)(a:K)(u:ag K):L3 F e k (C a*u)=C a*L3 F e k u:=by
 induction k with
  |zero=>rfl
  |succ k ih=>simp only[L3,ih,zW];grind
theorem O8{F:ag K}(hF:F.Lt 17)(e:Nat->K)(k:Nat){u:ag K}(h:u.Lt (n+1)):(L3 F e k u).Lt (n+1+15*k):=by
 induction k with
  |zero=>exact h
  |succ k ih=>have h1:(L3 F e k u).Lt (n+15*k+1):=ih.mono ⋯;exact(hF.mul h1.fz ⋯).add (((Lt.z4 (e k) hF.fz).mul h1 ⋯))
theorem FY(F w Y:ag K)(n:Nat)(hY:fz Y=0):fz (F^(n+1)*w*Y)=F^n*(F*fz w+C (cw (n+1))*fz F*w)*Y:=by rw[mC,mC,yy,hY,ay];grind
variable [nU K]
theorem Ue{g h:ag K}(hg:g.ir)(hh:¬Dv g h){u:K}(hu:u≠0){r s:ag K}(e:r*r*(g*h)=s*s*C u):r=0:=by
 have:∀n r s,r.size<=n->r*r*(g*h)=s*s*C u->r=0:=by
  intro n;induction n with
   |zero=>intro r s hr _;exact iG.mp ⋯
   |succ n ih=>intro r s hr e;obtain⟨v,hv,re⟩:=lO hu;have h1:Dv g (s*s):=⟨r*r*h*C v,by grind⟩;(have h2:Dv g s:=by rcases hg.prime h1 with h|h<;>exact h);obtain⟨s1,hs⟩:=h2;have h3:r*r*h=g*(s1*s1*C u):=iC.et hg.ne (by rw[hs]at e;grind);(have h4:Dv g r:=by rcases hg.prime ⟨_,h3⟩with h|h;(·rcases hg.prime h with h|h<;>exact h);exact ap h hh);obtain⟨r1,ve⟩:=h4;by_cases h0:r1=0;(·rw[ve,h0];grind);have h5:r1*r1*(g*h)=s1*s1*C u:=iC.et hg.ne (by rw[ve]at h3;grind);have h6:=bM hg.ne h0;have h7:=hg.pos;rw[<-ve]at h6;exact ap (ih r1 s1 ⋯ h5) h0
 exact this r.size r s ⋯ e
theorem LF(Y:ag K)(t:Nat->ag K)(k:Nat)(h:∀j,j<k->t j=0)(n:Nat):∃Z,bZ (k+1+n) (λj=>t j*Y^j)=Y^k*(t k+Y*Z):=by
 induction n with
  |zero=>refine⟨0,?_⟩;rw[lZ,bE,eR λj hj=>by rw[h j hj];grind];grind
  |succ n ih=>obtain⟨Z,hZ⟩:=ih;refine⟨Z+t (k+1+n)*Y^n,?_⟩;rw[<-Nat.add_assoc,bE,hZ];(have:Y^(k+1+n)=Y^k*Y*Y^n:=by rw[iJ,ay]);rw[this];grind
theorem L9[xV K p]{W P:ag K}(hW:fz W=-1)(hk:k<p)(Iu:∀j,0<j->j<p->∃b:K,cw j*b=1)(h1:Dv W P)(h2:Dv (W^k) (fz P))(hW0:W≠0):Dv (W^(k+1)) P:=by
 have:∀j,j<=k->Dv (W^(j+1)) P:=by
  intro j;induction j with
   |zero=>intro _;rw[ay,aL,show(1:ag K)*W=W by grind];exact h1
   |succ j ih=>intro hj;obtain⟨Q,hQ⟩:=ih ⋯;(have h3:Dv (W^(j+1)) (fz P):=by refine Dv.trans ⟨W^(k-(j+1)),?_⟩ h2;rw[<-iJ];congr 1;lia);obtain⟨T,hT⟩:=h3;rw[hQ,mC,yy,hW]at hT;obtain⟨b,hb⟩:=Iu (j+1) ⋯ ⋯;(have hC:(C (cw (j+1)):ag K)*C b=1:=by rw[<-dw,hb,eC]);(have h4:C (cw (j+1))*Q=W*(fz Q-T):=by apply iC.et (iC.md hW0 j);rw[ay]at hT;grind);refine⟨C b*(fz Q-T),?_⟩;rw[ay (n:=j+1),hQ];(have:Q=W*(C b*(fz Q-T)):=by grind);grind
 exact this k (aw k)
end
section
variable {p:Nat}(hp:Pr p)
include hp
theorem K9:(X^p-X:ag (Zp p))=prod ((uG p).map Xm):=by
 have:=cn hp;have h2:=hp.1;apply Ci;.rw[sD];refine⟨(bD.A7 p).lt.sub (Lt.X.mono ⋯),?_⟩;rw[i8,(bD.A7 p).one,RW,ah ⋯];grind
 .exact oG p
 intro a _;rw[si,zQ,DB,wD hp];grind
theorem VW(h0:0<j)(h1:j<p):∃b:Zp p,cw j*b=1:=by have:=cn hp;apply nU.inv;rw[EF];intro e;have:=gr.mp (cp.dh.mp e);have:=fJ ⋯ this;lia
noncomputable def RI(F:ag (Zp p))(k:Nat)(u:ag (Zp p)):ag (Zp p):=L3 F (λk=>cw (24-k)) k u
noncomputable def RH(F:ag (Zp p))(k:Nat)(u:ag (Zp p)):ag (Zp p):=L3 F (λk=>cw (24-k+(p-1)/2)) k u
noncomputable def qk(c:Nat->Zp p)(j:Nat):ag (Zp p):=cut (λi=>c (1200*j+i)) 1200
noncomputable def nI(c:Nat->Zp p)(j:Nat):ag (Zp p):=cut (λi=>c (19200+1200*j+i)) 1200
noncomputable def HC(F:ag (Zp p))(c:Nat->Zp p)(k:Nat):ag (Zp p):=bZ 16 (λj=>(RI F k (qk c j)+RH F k (nI c j))*X^j)
noncomputable def Nw(F:ag (Zp p))(c:Nat->Zp p)(k:Nat):ag (Zp p):=bZ 16 (λj=>(F^(24-k)*RI F k (qk c j)+F^(24-k+(p-1)/2)*RH F k (nI c j))*(X^p)^j)
omit hp in
theorem K2{K:Type}[bI K](f g:Nat->K)(n:Nat):cut (λi=>f i+g i) n=cut f n+cut g n:=ext λi=>by simp only[g9,so];split<;>grind
omit hp in
theorem K1{K:Type}[bI K](a:K)(f:Nat->K)(n:Nat):cut (λi=>a*f i) n=C a*cut f n:=ext λi=>by simp only[cA,so];split<;>grind
omit hp in
theorem Sl(F:ag (Zp p))(u v:Nat->Zp p)(k:Nat):HC F (λi=>u i+v i) k=HC F u k+HC F v k:=by unfold HC;rw[<-kN];apply bJ;intro j _;have h1:qk (λi=>u i+v i) j=qk u j+qk v j:=K2 _ _ _;have h2:nI (λi=>u i+v i) j=nI u j+nI v j:=K2 _ _ _;rw[h1,h2];unfold RI RH;rw[Kc,Kc];grind
omit hp in
theorem Sk(F:ag (Zp p))(a:Zp p)(u:Nat->Zp p)(k:Nat):HC F (λi=>a*u i) k=C a*HC F u k:=by unfold HC;rw[<-jV];apply bJ;intro j _;have h1:qk (λi=>a*u i) j=C a*qk u j:=K1 _ _ _;have h2:nI (λi=>a*u i) j=C a*nI u j:=K1 _ _ _;rw[h1,h2];unfold RI RH;rw[Kb,Kb];grind
omit hp in
theorem Wd(hF:F.Lt 17)(c:Nat->Zp p)(hk:k<24):(HC F c k).Lt 1576:=by apply Lt.sum;intro j hj;have h1:(qk c j).Lt (1199+1):=Lt.cut _ _;have h2:(nI c j).Lt (1199+1):=Lt.cut _ _;have h3:=O8 hF (λk=>(cw (24-k):Zp p)) k h1;have h4:=O8 hF (λk=>(cw (24-k+(p-1)/2):Zp p)) k h2;exact(h3.add h4).mul (bD.A7 j).lt ⋯
theorem QR(j:Nat):fz (((X:ag (Zp p))^p)^j)=0:=by
 have:=pc hp;rw[<-iI];cases j with
  |zero=>rw[rB,aL];exact zX 1
  |succ j=>(have:p*(j+1)=(p*(j+1)-1)+1:=by have:=hp.1;have:1*1<=p*(j+1):=dJ ⋯ ⋯;lia);rw[this,yy,<-this,pQ,xV.zero (A:=Zp p) (p:=p),show(0:Zp p)*cw (j+1)=0 by grind,jI];grind
theorem Uh(F:ag (Zp p))(c:Nat->Zp p)(hk:k<24):fz (Nw F c k)=Nw F c (k+1):=by
 unfold Nw;rw[Ug];apply bJ;intro j _;have e1:24-k=(24-(k+1))+1:=⋯;have e2:24-k+(p-1)/2=(24-(k+1)+(p-1)/2)+1:=⋯;have h1:(F^(24-k)*RI F k (qk c j)+F^(24-k+(p-1)/2)*RH F k (nI c j))*(X^p)^j=F^((24-(k+1))+1)*RI F k (qk c j)*(X^p)^j+F^((24-(k+1)+(p-1)/2)+1)*RH F k (nI c j)*(X^p)^j:=by rw[<-e1,<-e2];grind
 rw[h1,vx,FY _ _ _ _ (QR hp j),FY _ _ _ _ (QR hp j),<-e1,<-e2];have h2:RI F (k+1) (qk c j)=F*fz (RI F k (qk c j))+C (cw (24-k))*fz F*RI F k (qk c j):=rfl;have h3:RH F (k+1) (nI c j)=F*fz (RH F k (nI c j))+C (cw (24-k+(p-1)/2))*fz F*RH F k (nI c j):=rfl;rw[h2,h3];grind
theorem YQ(h1:∀a,vC (F.ev a)=1)(c:Nat->Zp p)(k:Nat)(h:HC F c k=0):Dv (X^p-X) (Nw F c k):=by
 have:=cn hp;have hG:Dv (X^p-X) (F^((p-1)/2)-1):=by rw[K9 hp];apply Ck (oG p);intro a _;have:=h1 a;unfold vC at this;rw[si,zQ,this,zS];grind
 rw[<-cp.dh];have e1:cp.mk (X^p-X:ag (Zp p)) (F^((p-1)/2))=1:=by rw[<-cp.mk_one,cp.g8];exact hG
 have e2:cp.mk (X^p-X:ag (Zp p)) (X^p)=cp.mk _ X:=by rw[cp.g8];exact Dv.refl _
 have e3:cp.mk (X^p-X:ag (Zp p)) (Nw F c k)=cp.mk _ (F^(24-k))*cp.mk _ (HC F c k):=by show(cp.pR _).f (Nw F c k)=_*(cp.pR _).f (HC F c k);unfold Nw HC;rw[gJ.sum,gJ.sum,<-jV];apply bJ;intro j _;show cp.mk _ _=cp.mk _ _*cp.mk _ _;rw[cp.o8,cp.zw,cp.o8,cp.o8,cp.o8,cp.zw,cp.mh (X^p),e2,<-cp.mh,iJ,cp.o8,e1];grind
 rw[e3,h];have:cp.mk (X^p-X:ag (Zp p)) 0=0:=rfl;rw[this];grind
theorem acU:fz (X^p-X:ag (Zp p))=-1:=by
 have:=QR hp 1;have e:((X:ag (Zp p))^p)^1=X^p:=by rw[ay,aL];grind
 rw[e]at this;rw[KS,this,acT];grind
theorem ahj:(X^p-X:ag (Zp p))≠0:=by have:=cn hp;rw[K9 hp];exact(bD.ym _).ne
theorem II(tD:24<p)(h1:∀a:Zp p,vC (F.ev a)=1)(c:Nat->Zp p)(h:∀k,k<24->HC F c k=0):∀i,i<=24->Dv ((X^p-X)^i) (Nw F c (24-i)):=by
 have:=cn hp;have:=pc hp;intro i;induction i with
  |zero=>intro _;rw[aL];exact Dv.one _
  |succ i ih=>intro hi;have h2:=ih ⋯;have h3:=Uh hp F c (k:=24-(i+1)) ⋯;rw[show 24-(i+1)+1=24-i by lia]at h3;exact L9 (p:=p) (acU hp) ⋯ (λj h0 h1=>VW hp h0 h1) (YQ hp h1 c _ (h _ ⋯)) (by rw[h3];exact h2) (ahj hp)
theorem Om(ho:p%2=1)(tD:5000<p){g h:ag (Zp p)}(hg:g.ir)(hh:¬Dv g h)(hF:(g*h).Lt 17)(h1:∀a:Zp p,vC ((g*h).ev a)=1):False:=by
 have:=cn hp;have:=pc hp;obtain⟨c,xk,⟨i0,hi0,hne⟩,hc⟩:=Tu (m:=24*1576) (n:=38400) ∅ (λq c=>(HC (g*h) c (q/1576)).c (q%1576)) (λj u v=>by simp only[Sl,g9]) (λj a u=>by simp only[Sk,cA]);have hE:∀k,k<24->HC (g*h) c k=0:=by intro k hk;apply ext;intro i;by_cases hi:i<1576;(·have:=hc (k*1576+i) ⋯;rw[show(k*1576+i)/1576=k by lia,show(k*1576+i)%1576=i by lia]at this;rw[this,dj]);rw[Wd hF c hk i ⋯,dj]
 have tz:=II hp ⋯ h1 c hE 24 (aw _);rw[kH]at tz;generalize hFF:g*h=F at*;have hF0:F≠0:=by rintro rfl;have:=h1 0;rw[vn]at this;unfold vC at this;rw[nG ⋯]at this;exact nU.ej this.symm
 have TF:Nw F c 0=F^24*bZ 16 (λj=>(qk c j+F^((p-1)/2)*nI c j)*(X^p)^j):=by unfold Nw;rw[<-jV];apply bJ;intro j _;have e1:RI F 0 (qk c j)=qk c j:=rfl;have e2:RH F 0 (nI c j)=nI c j:=rfl;rw[e1,e2,lY,iJ];grind
 have hz:Nw F c 0=0:=by apply ae;intro hn;have h2:=fm tz hn;rw[K9 hp,((bD.ym (uG p)).pow 24).size,sD]at h2;(have h3:(Nw F c 0).Lt (1600+23*p):=by rw[TF];have h4:(F^24).Lt (16*24+1):=Lt.pow hF 24;have h5:(F^((p-1)/2)).Lt (16*((p-1)/2)+1):=Lt.pow hF _;(have h6:(bZ 16 (λj=>(qk c j+F^((p-1)/2)*nI c j)*(X^p)^j)).Lt (1200+23*p):=by apply Lt.sum;intro j hj;have h7:(qk c j).Lt 1200:=Lt.cut _ _;have h8:(nI c j).Lt 1200:=Lt.cut _ _;have h9:(qk c j+F^((p-1)/2)*nI c j).Lt (1200+8*p):=(h7.mono ⋯).add (h5.mul h8 ⋯);have h10:=((bD.A7 (R:=Zp p) p).pow j).lt;refine h9.mul h10 ?_;have:p*j<=p*15:=di p ⋯;lia);exact h4.mul h6 ⋯);have:=dS h3;lia
 rw[TF]at hz;have Eg:bZ 16 (λj=>(qk c j+F^((p-1)/2)*nI c j)*(X^p)^j)=0:=by rcases iC.mul_eq _ _ hz with h|h;(·exact ap h (iC.md hF0 24));exact h
 have hex:∃j,j<16/\(qk c j≠0\/nI c j≠0):=by by_cases hlt:i0<19200;(·refine⟨i0/1200,⋯,.inl λe=>hne ?_⟩;have:=aK (λq=>q.c (i0%1200)) e;simp only[qk,so,dj,aj (show i0%1200<1200 by lia)]at this;rwa[show 1200*(i0/1200)+i0%1200=i0 by lia]at this);refine⟨(i0-19200)/1200,⋯,.inr λe=>hne ?_⟩;have:=aK (λq=>q.c ((i0-19200)%1200)) e;simp only[nI,so,dj,aj (show(i0-19200)%1200<1200 by lia)]at this;rwa[show 19200+1200*((i0-19200)/1200)+(i0-19200)%1200=i0 by lia]at this
 have Yi:∃k,k<16/\(qk c k≠0\/nI c k≠0)/\∀j,j<k->qk c j=0/\nI c j=0:=by
  obtain⟨j,hj,hjn⟩:=hex;have:∀n,(∃k,k<16/\(qk c k≠0\/nI c k≠0)/\∀j,j<k->qk c j=0/\nI c j=0)\/∀j,j<n->j<16->qk c j=0/\nI c j=0:=by
   intro n;induction n with
    |zero=>right;intro j hj;lia
    |succ n ih=>rcases ih with h|h;(·exact .inl h);by_cases hn:n<16/\(qk c n≠0\/nI c n≠0);(·exact .inl ⟨n,hn.1,hn.2,λj hj=>h j hj ⋯⟩);right;intro j hj TW;by_cases hjn:j=n;(·subst hjn;constructor;(·apply ae;intro hc;exact hn ⟨TW,.inl hc⟩);apply ae;intro hc;exact hn ⟨TW,.inr hc⟩);exact h j ⋯ TW
  rcases this 16 with h|h;(·exact h);have:=h j hj hj;rcases hjn with h2|h2;(·exact ap this.1 h2);exact ap this.2 h2
 obtain⟨k,hk,TU,hkz⟩:=Yi;obtain⟨Z,hZ⟩:=LF ((X:ag (Zp p))^p) (λj=>qk c j+F^((p-1)/2)*nI c j) k (λj hj=>by rw[(hkz j hj).1,(hkz j hj).2];grind) (15-k);rw[show k+1+(15-k)=16 by lia,Eg]at hZ;have hXp:((X:ag (Zp p))^p)≠0:=(bD.A7 p).ne;have hZ2:qk c k+F^((p-1)/2)*nI c k+X^p*Z=0:=by rcases iC.mul_eq _ _ hZ.symm with h|h;(·exact ap h (iC.md hXp k));exact h
 have hFp:F^((p-1)/2)*F^((p-1)/2)*F=F^p:=by rw[<-iJ,<-ay];congr 1;lia
 have hFt:F^p=C (F.c 0)+X^p*F.tail^p:=by have:F=C (F.c 0)+X*F.tail:=vo F;(have h2:F^p=(C (F.c 0)+X*F.tail)^p:=by rw[<-this]);rw[h2,vi,kP,<-Lc,wD hp]
 have acG:F.c 0≠0:=by intro e;have:=h1 0;(have e2:F.ev 0=F.c 0:=by rw[vo F,up,o9,DB,A3,g9,z6,mE];grind);rw[e2,e]at this;unfold vC at this;rw[nG ⋯]at this;exact nU.ej this.symm
 have TV:qk c k*qk c k*F-nI c k*nI c k*C (F.c 0)=0:=by(have h2:qk c k*qk c k*F-nI c k*nI c k*C (F.c 0)=X^p*(nI c k*nI c k*F.tail^p+2*F*F^((p-1)/2)*nI c k*Z+F*X^p*Z*Z):=by(have h3:qk c k=-(F^((p-1)/2)*nI c k)-X^p*Z:=by grind);(have h4:C (F.c 0)=F^((p-1)/2)*F^((p-1)/2)*F-X^p*F.tail^p:=by rw[hFp,hFt];grind);rw[h3,h4];grind);have h5:(qk c k).Lt 1200:=Lt.cut _ _;have h6:(nI c k).Lt 1200:=Lt.cut _ _;(have h7:(qk c k*qk c k*F-nI c k*nI c k*C (F.c 0)).Lt p:=by apply Lt.sub;(·exact(h5.mul h5 (k:=2400) ⋯).mul hF ⋯);exact(h6.mul h6 (k:=2400) ⋯).mul (Lt.C _) ⋯);have h8:=(bD.A7 (R:=Zp p) p).o7 (by rw[<-h2];exact h7);rw[h2,h8];grind
 have P9:qk c k*qk c k*(g*h)=nI c k*nI c k*C (F.c 0):=by rw[hFF];grind
 have hr:=Ue hg hh acG P9;rw[hr]at P9;have hs:nI c k*nI c k=0:=by(have h2:nI c k*nI c k*C (F.c 0)=0:=by rw[<-P9];grind);rcases iC.mul_eq _ _ h2 with h|h;(·exact h);exact ap (iu (b:=0) h) acG
 have hs2:nI c k=0:=by rcases iC.mul_eq _ _ hs with h|h<;>exact h
 rcases TU with h|h;.exact h hr
 exact h hs2
end
end ag
end Tk
end
section
namespace Tk
open Lean.Grind
namespace ag
section
variable {p:Nat}(hp:Pr p)
include hp
theorem VJ{g:ag (Zp p)}{d:Nat}(hi:g.ir)(hg:g.bD d)(hd:2<=d)(a:Zp p):g.ev a≠0:=by
 have:=cn hp;intro e;obtain⟨q,hq⟩:=VQ e;have hs:=hg.size;have h1:=(bD.Xm a).size;have nS:q≠0:=by rintro rfl;apply hi.ne;rw[hq];grind
 have h2:=bM (bD.Xm a).ne nS;rw[<-hq]at h2;rcases hi.alone _ _ hq with h|h<;>lia
theorem I_(ho:p%2=1)(tD:5000<p)(hd:2<=d)(NE:d<=8)(gi:g.ir)(hi:h.ir)(gm:g.bD d)(hm:h.bD d)(hne:g≠h):∃a:Zp p,¬(Dv g ((X+C a)^((p^d-1)/2)-1)↔Dv h ((X+C a)^((p^d-1)/2)-1)):=by
 have:=cn hp;apply ae;intro hc;have iV:∀a,(vC ((-1:Zp p)^d*g.ev a)=1↔vC ((-1:Zp p)^d*h.ev a)=1):=by intro a;apply ae;intro hn;apply hc;refine⟨-a,?_⟩;rw[yx hp ho gi gm,yx hp ho hi hm,show- -a=a by grind];exact hn
 refine Om hp ho tD (g:=g) (h:=h) gi (λk=>hne (gi.eq hi gm.mon hm.mon k)) ?_ ?_;.exact gm.lt.mul hm.lt ⋯
 intro a;have h1:=iV a;have hm1:((-1:Zp p)^d)*(-1)^d=1:=by rw[<-kP,show(-1:Zp p)*-1=1 by grind,kO]
 have hm0:((-1:Zp p)^d)≠0:=by intro e;apply nU.ej (R:=Zp p);grind
 have e:(g*h).ev a=((-1:Zp p)^d*g.ev a)*((-1:Zp p)^d*h.ev a):=by rw[o9];grind
 rw[e,K3];have g0:=iC.jm hm0 (VJ hp gi gm hd a);have h0:=iC.jm hm0 (VJ hp hi hm hd a);have two:=Hq hp ho;rcases DL hp ho g0 with e1|e1;.rw[h1.mp e1,e1];grind
 rcases DL hp ho h0 with e2|e2;.rw[h1.mpr e2]at e1;exact ap e1 two
 rw[e1,e2];grind
theorem Hu{g h:ag (Zp p)}{d:Nat}(ho:p%2=1)(tD:5000<p)(hd:1<=d)(NE:d<=8)(gi:g.ir)(hi:h.ir)(gm:g.bD d)(hm:h.bD d)(hne:g≠h):∃n,n<p/\¬(Dv g ((X+C (cw n))^((p^d-1)/2)-1)↔Dv h ((X+C (cw n))^((p^d-1)/2)-1)):=by
 have:∃a:Zp p,¬(Dv g ((X+C a)^((p^d-1)/2)-1)↔Dv h ((X+C a)^((p^d-1)/2)-1)):=by by_cases e:d=1;(·subst e;exact MT hp ho gi hi gm hm hne);exact I_ hp ho tD ⋯ NE gi hi gm hm hne
 obtain⟨a,ha⟩:=this;obtain⟨n,hn,rfl⟩:=CO ⋯ a;exact⟨n,hn,ha⟩
end
end ag
end Tk
end
section
namespace Tk
open Lean.Grind
theorem pY(h:2<=n):∃p,Pr p/\p∣n:=by
 induction n using R8 with
  |ind n ih=>by_cases e:Pr n;(·exact⟨n,e,gv n⟩);(have:∃d,d∣n/\d≠1/\d≠n:=by apply ae;intro hc;apply e;refine⟨h,λd hd=>?_⟩;apply ae;intro hn;exact hc ⟨d,hd,λe=>hn (.inl e),λe=>hn (.inr e)⟩);obtain⟨d,hd,h1,h2⟩:=this;have h3:=eQ ⋯ hd;(have h4:d≠0:=by rintro rfl;have:=Eu hd;lia);obtain⟨p,hp,Eh⟩:=ih d ⋯ ⋯;exact⟨p,hp,D_ Eh hd⟩
noncomputable def red(p:Nat):gJ Int (Zp p):=cp.pR (p:Int)
namespace ag
theorem jv{p:Nat}:f.map (red p)=0↔∃g,f=C (p:Int)*g:=by
 constructor;.intro h;refine⟨⟨λi=>f.c i/p,?_⟩,?_⟩;(·obtain⟨n,hn⟩:=f.fin;exact⟨n,λi hi=>by rw[hn i hi];simp⟩);apply ext;intro i;rw[cA];show f.c i=p*(f.c i/p);(have h1:(f.map (red p)).c i=0:=by rw[h,dj]);have h2:=gr.mp (cp.dh.mp h1);rw[tK h2]
 rintro⟨g,rfl⟩;rw[cj,np];have:(red p).f (p:Int)=0:=cp.dh.mpr (Dv.refl _);rw[this,jI];grind
def e9(f:ag Int):Prop:=∀q,Pr q->f.map (red q)≠0
theorem e9.mul{f g:ag Int}(hf:f.e9)(hg:g.e9):(f*g).e9:=by intro q hq;have:=cn hq;rw[cj];exact iC.jm (hf q hq) (hg q hq)
theorem e9.one:(1:ag Int).e9:=by intro q hq;have:=cn hq;rw[qB];exact one_ne_zero
theorem V3:Pr 2:=⟨∅,λd hd=>by have:=eQ ∅ hd;have:d≠0:=(by rintro rfl;simp at hd);lia⟩
theorem e9.ne{f:ag Int}(h:f.e9):f≠0:=by rintro rfl;apply h 2 V3;rw[lL]
theorem e9.jt{f g:ag Int}(h:f.e9)(k:Dv g f):g.e9:=by obtain⟨x,rfl⟩:=k;intro q hq e;apply h q hq;rw[cj,e];grind
theorem e9.pow{f:ag Int}(h:f.e9)(n:Nat):(f^n).e9:=by
 induction n with
  |zero=>rw[aL];exact e9.one
  |succ n ih=>rw[ay];exact ih.mul h
theorem e9.C{c:Int}(h:(C c).e9):c=1\/c=-1:=by
 apply ae;intro hc;have h0:c≠0:=by rintro rfl;exact h.ne jI
 obtain⟨q,hq,hd⟩:=pY (n:=c.natAbs) ⋯;apply h q hq;rw[jv];obtain⟨d,hd⟩:=dc.mpr hd;exact⟨ag.C d,by rw[hd,dw]⟩
theorem e9.et(hf:f.e9){n:Int}(hn:n≠0)(e:ag.C n*h=f*g):∃g',g=ag.C n*g'/\h=f*g':=by
 have:∀k n g h,n.natAbs<=k->n≠0->ag.C n*h=f*g->∃g',g=ag.C n*g':=by
  intro k;induction k with
   |zero=>intro n g h hk hn _;lia
   |succ k ih=>intro n g h hk hn e;by_cases h1:n.natAbs=1;(·refine⟨ag.C n*g,?_⟩;(have:n*n=1:=by rcases Ec n with e|e<;>rw[e,h1]<;>decide);(have:ag.C n*(ag.C n*g)=ag.C (n*n)*g:=by rw[dw];grind);rw[this,‹n*n=1›,eC];grind);obtain⟨q,hq,hd⟩:=pY (n:=n.natAbs) ⋯;obtain⟨m,hm⟩:=dc.mpr hd;have:=cn hq;(have h2:(f*g).map (red q)=0:=by rw[<-e,jv];exact⟨ag.C m*h,by rw[hm,dw];grind⟩);rw[cj]at h2;rcases iC.mul_eq _ _ h2 with h3|h3;(·exact ap h3 (hf q hq));obtain⟨g1,Vz⟩:=jv.mp h3;(have nS:(ag.C (q:Int))≠0:=by intro e;have:=iu (b:=0) e;have:=hq.1;lia);(have h4:ag.C m*h=f*g1:=by apply iC.et nS;rw[hm,dw]at e;rw[Vz]at e;grind);(have hm0:m≠0:=by rintro rfl;apply hn;rw[hm];lia);(have hlt:m.natAbs<=k:=by(have h5:n.natAbs=q*m.natAbs:=by rw[hm,cP];rfl);have h6:=hq.1;have h7:2*m.natAbs<=q*m.natAbs:=bu _ h6;lia);obtain⟨g2,ZF⟩:=ih m g1 h hlt hm0 h4;exact⟨g2,by rw[Vz,ZF,hm,dw];grind⟩
 obtain⟨g',ZG⟩:=this n.natAbs n g h (aw _) hn e;refine⟨g',ZG,?_⟩;have hn0:(ag.C n)≠0:=λe=>hn (iu (b:=0) e);apply iC.et hn0;rw[e,ZG];grind
theorem mL(hf:f≠0):∃c g,0<c/\g.e9/\f=ag.C c*g:=by
 have:∀k f,f≠0->f.aT.natAbs<=k->∃c g,0<c/\g.e9/\f=ag.C c*g:=by
  intro k;induction k with
   |zero=>intro f hf hk;have:=fS hf;lia
   |succ k ih=>intro f hf hk;by_cases e:f.e9;(·exact⟨1,f,∅,e,by rw[eC];grind⟩);(have:∃q,Pr q/\f.map (red q)=0:=by apply ae;intro hc;apply e;intro q hq h;exact hc ⟨q,hq,h⟩);obtain⟨q,hq,h⟩:=this;obtain⟨g,hg⟩:=jv.mp h;(have AA:g≠0:=by rintro rfl;apply hf;rw[hg];grind);(have hl:f.aT=q*g.aT:=by rw[hg,df];(have:(ag.C (q:Int)).aT=q:=by unfold aT;rw[fP (by have:=hq.1;lia)];rfl);rw[this]);(have h5:f.aT.natAbs=q*g.aT.natAbs:=by rw[hl,cP];rfl);have h6:=hq.1;have h7:2*g.aT.natAbs<=q*g.aT.natAbs:=bu _ h6;obtain⟨c,r,hc,hr,he⟩:=ih g AA ⋯;refine⟨q*c,r,?_,hr,by rw[hg,he,dw];grind⟩;have:(0:Int)<q:=⋯;exact ku this hc
 exact this _ f hf (aw _)
theorem aeG(hg:g≠0)(f:ag Int):∃m q r,m≠0/\ag.C m*f=g*q+r/\r.size<g.size:=by
 have hgs:=aS.mpr hg;have:∀k f,f.size<=k->∃m q r,m≠0/\ag.C m*f=g*q+r/\r.size<g.size:=by
  intro k;induction k with
   |zero=>intro f hf;exact⟨1,0,f,∅,by rw[eC];grind,⋯⟩
   |succ k ih=>intro f hf;by_cases e:f.size<g.size;(·exact⟨1,0,f,∅,by rw[eC];grind,e⟩);(have h1:(ag.C g.aT*f-mono f.aT (f.size-g.size)*g).Lt (f.size-1):=by intro i hi;have h2:(ag.C g.aT*f).Lt f.size:=Lt.z4 _ f.b_;have h3:(mono f.aT (f.size-g.size)*g).Lt f.size:=(Lt.xc _ _).mul g.b_ ⋯;by_cases hi':i=f.size-1;(·have h4:=iA (p:=mono f.aT (f.size-g.size)) (q:=g) (m:=f.size-g.size) (n:=g.size-1) (Lt.xc _ _) (by rw[show g.size-1+1=g.size by lia];exact g.b_);rw[hi',i8,cA];rw[show f.size-g.size+(g.size-1)=f.size-1 by lia,k8,aj rfl]at h4;rw[h4];show g.aT*f.aT-f.aT*g.aT=0;grind);rw[i8,h2 i ⋯,h3 i ⋯];grind);have h5:=dS h1;obtain⟨m,q,r,hm,he,hr⟩:=ih (ag.C g.aT*f-mono f.aT (f.size-g.size)*g) ⋯;refine⟨m*g.aT,q+ag.C m*mono f.aT (f.size-g.size),r,cF hm (fS hg),?_,hr⟩;rw[dw];grind
 exact this f.size f (aw _)
theorem aeH(f g:ag Int):∃(d u v:ag Int) (m n:Int),m≠0/\n≠0/\d=u*f+v*g/\Dv d (ag.C m*f)/\Dv d (ag.C n*g):=by
 have:∀k (f g:ag Int),g.size<=k->∃(d u v:ag Int) (m n:Int),m≠0/\n≠0/\d=u*f+v*g/\Dv d (ag.C m*f)/\Dv d (ag.C n*g):=by
  intro k;induction k with
   |zero=>intro f g hg;have:=iG.mp (Nat.le_zero.mp hg);subst this;exact⟨f,1,0,1,1,∅,by decide,by grind,by rw[eC];exact⟨1,by grind⟩,by rw[eC];exact⟨0,by grind⟩⟩
   |succ k ih=>intro f g hg;by_cases e:g=0;(·subst e;exact⟨f,1,0,1,1,∅,by decide,by grind,by rw[eC];exact⟨1,by grind⟩,by rw[eC];exact⟨0,by grind⟩⟩);obtain⟨a,q,r,ha,he,hr⟩:=aeG e f;obtain⟨d,u,v,m,n,hm,hn,h1,h2,h3⟩:=ih g r ⋯;refine⟨d,v*ag.C a,u-v*q,m*n*a,m,cF (cF hm hn) ha,hm,by grind,?_,h2⟩;(have:ag.C (m*n*a)*f=(ag.C m*g)*(ag.C n*q)+ag.C m*(ag.C n*r):=by rw[dw,dw];grind);rw[this];exact(h2.mul_right _).add (h3.mul_left _)
 exact this g.size f g (aw _)
theorem VH(h:f≠0\/g≠0):∃d u v c,c≠0/\d.e9/\Dv d f/\Dv d g/\ag.C c*d=u*f+v*g:=by
 obtain⟨d,u,v,m,n,hm,hn,h1,⟨x,h2⟩,⟨y,h3⟩⟩:=aeH f g;have hd:d≠0:=by rintro rfl;rcases h with h|h;(·apply h;apply iC.et (a:=ag.C m) (λe=>hm (iu (b:=0) e));rw[h2];grind);apply h;apply iC.et (a:=ag.C n) (λe=>hn (iu (b:=0) e));rw[h3];grind
 obtain⟨c,e,hc,he,Yq⟩:=mL hd;refine⟨e,u,v,c,⋯,he,?_,?_,by rw[<-Yq,h1]⟩;.obtain⟨g',_,h5⟩:=he.et hm (g:=ag.C c*x) (h:=f) (by rw[h2,Yq];grind);exact⟨g',h5⟩
 obtain⟨g',_,h5⟩:=he.et hn (g:=ag.C c*y) (h:=g) (by rw[h3,Yq];grind);exact⟨g',h5⟩
structure kX(f:ag Int):Prop where
 pos:1<f.size
 prim:f.e9
 aT:0<f.aT
 alone:∀a b,f=a*b->a.size<=1\/b.size<=1
theorem j4(a:Int):(ag.C a).aT=a:=by
 by_cases h:a=0;.subst h;unfold aT;rw[jI,dj]
 unfold aT;rw[fP h];rfl
theorem kX.ne{f:ag Int}(h:f.kX):f≠0:=h.prim.ne
theorem kX.bez{f a:ag Int}(h:f.kX)(k:¬Dv f a):∃c u v,c≠0/\ag.C c=u*f+v*a:=by
 obtain⟨d,u,v,c,hc,hd,⟨x,h1⟩,h2,h3⟩:=VH (f:=f) (g:=a) (.inl h.ne);rcases h.alone d x h1 with e|e;.have hd1:=(cS e).o_;have hk:=hd;rw[hd1]at hk;have hk2:=e9.C hk;refine⟨c*d.c 0,u,v,cF hc (by rcases hk2 with e|e<;>rw[e]<;>decide),?_⟩;rw[dw,<-hd1,h3]
 exfalso;apply k;have Vo:=(cS e).o_;have hx:x.e9:=h.prim.jt ⟨d,by rw[h1];grind⟩;rw[Vo]at hx;have:x*x=1:=by rw[Vo];rcases e9.C hx with e|e<;>rw[e,<-dw]<;>rfl
 have hdf:Dv f d:=⟨x,by rw[h1];grind⟩;exact hdf.trans h2
theorem kX.prime{f a b:ag Int}(h:f.kX)(k:Dv f (a*b)):Dv f a\/Dv f b:=by
 by_cases e:Dv f a;.exact .inl e
 right;obtain⟨c,u,v,hc,h1⟩:=h.bez e;obtain⟨x,hx⟩:=k;obtain⟨y,_,hy⟩:=h.prim.et hc (h:=b) (g:=u*b+v*x) (by rw[h1];grind);exact⟨y,hy⟩
theorem kX.BS(h:f.kX){c:Int}(hc:c≠0):¬Dv f (ag.C c):=by intro k;have:=fm k (λe=>hc (iu (b:=0) e));have h1:=wm c;have h2:=h.pos;lia
theorem kX.eq{f g:ag Int}(hf:f.kX)(hg:g.kX)(h:Dv f g):f=g:=by
 obtain⟨x,hx⟩:=h;rcases hg.alone f x hx with e|e;.have:=hf.pos;lia
 have Vo:=(cS e).o_;have XO:x.e9:=hg.prim.jt ⟨f,by rw[hx];grind⟩;rw[Vo]at XO;rcases e9.C XO with e|e;.rw[hx,Vo,e,eC];grind
 exfalso;have h1:=hg.aT;rw[hx,df,Vo,e,j4]at h1;have:=hf.aT;lia
theorem kX.jX{f:ag Int}(h:f.kX){l:List (ag Int)}(k:Dv f (prod l)):∃a,a∈l/\Dv f a:=by
 induction l with
  |nil=>exact ap k (by rw[prod,<-eC];exact h.BS ∅)
  |cons a l ih=>rcases h.prime k with e|e;(·exact⟨a,aq,e⟩);obtain⟨b,hb,hd⟩:=ih e;exact⟨b,al _ hb,hd⟩
theorem kX.sI{f a:ag Int}(h:f.kX){n:Nat}(k:Dv f (a^n)):Dv f a:=by
 induction n with
  |zero=>rw[aL,<-eC]at k;exact ap k (h.BS ∅)
  |succ n ih=>rw[ay]at k;rcases h.prime k with e|e;(·exact ih e);exact e
theorem kX.val{f a:ag Int}(h:f.kX)(ha:a≠0):∃(n:Nat) (b:ag Int),a=f^n*b/\¬Dv f b:=by
 have:∀k (a:ag Int),a≠0->a.size<=k->∃(n:Nat) (b:ag Int),a=f^n*b/\¬Dv f b:=by
  intro k;induction k with
   |zero=>intro a ha hk;exact ap (iG.mp ⋯) ha
   |succ k ih=>intro a ha hk;by_cases e:Dv f a;(·obtain⟨b,rfl⟩:=e;(have hb:b≠0:=by rintro rfl;apply ha;grind);have h1:=bM h.ne hb;have h2:=h.pos;obtain⟨n,d,hd,hn⟩:=ih b hb ⋯;exact⟨n+1,d,by rw[ay,hd];grind,hn⟩);exact⟨0,a,by rw[aL];grind,e⟩
 exact this a.size a ha (aw _)
theorem kX.N1{f c:ag Int}(h:f.kX){m n:Nat}(hc:¬Dv f c)(k:Dv (f^m) (f^n*c)):m<=n:=by
 induction n generalizing m with
  |zero=>
   cases m with
    |zero=>exact aw 0
    |succ m=>exfalso;apply hc;rw[aL,ay]at k;obtain⟨x,hx⟩:=k;exact⟨f^m*x,by grind⟩
  |succ n ih=>
   cases m with
    |zero=>lia
    |succ m=>(have:Dv (f^m) (f^n*c):=by obtain⟨x,hx⟩:=k;refine⟨x,?_⟩;apply iC.et h.ne;rw[ay,ay]at hx;grind);have:=ih this;lia
theorem zP{f:ag Int}(h:1<f.size):∃g:ag Int,g.kX/\Dv g f:=by
 have:∀k (f:ag Int),f.size<=k->1<f.size->∃g:ag Int,g.kX/\Dv g f:=by
  intro k;induction k with
   |zero=>intro f h1 h2;lia
   |succ k ih=>intro f h1 h2;by_cases e:∃a b,f=a*b/\1<a.size/\1<b.size;(·obtain⟨a,b,pW,ha,hb⟩:=e;have vX:a≠0:=aS.mp ⋯;have wA:b≠0:=aS.mp ⋯;have:=bM vX wA;rw[<-pW]at this;obtain⟨p,hp,hd⟩:=ih a ⋯ ha;exact⟨p,hp,by rw[pW];exact hd.mul_right _⟩);have hf:f≠0:=aS.mp ⋯;obtain⟨c,g,hc,hg,hfg⟩:=mL hf;have xk:(ag.C c)≠0:=λe=>(by lia:c≠0) (iu (b:=0) e);have hs:=bM xk hg.ne;rw[<-hfg,fP ⋯]at hs;(have hal:∀a b,g=a*b->a.size<=1\/b.size<=1:=by intro a b pW;apply ae;intro hn;apply e;have vX:a≠0:=aS.mp ⋯;refine⟨ag.C c*a,b,by rw[hfg,pW];grind,?_,⋯⟩;have:=bM xk vX;rw[fP ⋯]at this;lia);by_cases hl:0<g.aT;(·exact⟨g,⟨⋯,hg,hl,hal⟩,⟨ag.C c,by rw[hfg];grind⟩⟩);have Cb:=fS hg.ne;(have afI:(ag.C (-1)*g).size=g.size:=by have:=bM (p:=ag.C (-1)) (q:=g) (λe=>(by decide:(-1:Int)≠0) (iu (b:=0) e)) hg.ne;rw[fP ∅]at this;lia);refine⟨ag.C (-1)*g,⟨⋯,?_,?_,?_⟩,⟨ag.C (-c),?_⟩⟩;(·refine hg.jt ⟨ag.C (-1),?_⟩;(have:(ag.C (-1):ag Int)*ag.C (-1)=1:=by rw[<-dw];rfl);grind);(·rw[df,j4];lia);(·intro a b pW;(have:(ag.C (-1):ag Int)*ag.C (-1)=1:=by rw[<-dw];rfl);(have h4:g=(ag.C (-1)*a)*b:=by grind);rcases hal _ _ h4 with h5|h5;(·left;(have vX:a≠0:=by rintro rfl;apply hg.ne;rw[h4];grind);have:=bM (p:=ag.C (-1)) (q:=a) (λe=>(by decide:(-1:Int)≠0) (iu (b:=0) e)) vX;rw[fP ∅]at this;lia);exact .inr h5);(have:(ag.C (-1):ag Int)*ag.C (-c)=ag.C c:=by rw[<-dw];congr 1;lia);grind
 exact this f.size f (aw _) h
end ag
end Tk
end
section
namespace Tk
open Lean.Grind
noncomputable def i7:Nat->Nat
 |0=>1
 |n+1=>(n+1)*i7 n
theorem yw(n:Nat):0<i7 n:=by
 induction n with
  |zero=>decide
  |succ n ih=>exact Ju ⋯ ih
theorem sU(h:k<=n):fk n k*(i7 k*i7 (n-k))=i7 n:=by
 induction n generalizing k with
  |zero=>have:k=0:=⋯;subst this;rfl
  |succ n ih=>
   cases k with
    |zero=>rw[j6,lY];simp[i7]
    |succ k=>
     have h1:=ih (k:=k) ⋯;have h2:=Cq n k;rw[show n+1-(k+1)=n-k by lia];simp only[i7];calc fk (n+1) (k+1)*((k+1)*i7 k*i7 (n-k))=((k+1)*fk (n+1) (k+1))*(i7 k*i7 (n-k)):=by grind
      _=(n+1)*(fk n k*(i7 k*i7 (n-k))):=by rw[h2];grind
      _=(n+1)*i7 n:=by rw[h1]
theorem Gj(n k:Nat):fk n k<=2^n:=by
 induction n generalizing k with
  |zero=>cases k<;>simp[fk]
  |succ n ih=>
   cases k with
    |zero=>rw[j6];exact jA
    |succ k=>have h1:=ih k;have h2:=ih (k+1);rw[j7,cv];lia
theorem YG(h:k<=n):i7 k*i7 (n-k)<=i7 n:=by
 rw[<-sU h];have h1:0<fk n k:=by apply ik;intro e;have:=sU h;rw[e,Nat.zero_mul]at this;have:=yw n;lia
 have:=bu (i7 k*i7 (n-k)) h1;lia
theorem ll{n:Nat}{f:Nat->Int}(h:∀i,i<n->0<=f i):0<=bZ n f:=by
 induction n with
  |zero=>exact js 0
  |succ n ih=>have h1:=ih λi hi=>h i ⋯;have h2:=h n ⋯;rw[bE];lia
theorem JQ{n:Nat}{f g:Nat->Int}(h:∀i,i<n->f i<=g i):bZ n f<=bZ n g:=by
 induction n with
  |zero=>exact js 0
  |succ n ih=>have h1:=ih λi hi=>h i ⋯;have h2:=h n ⋯;rw[bE,bE];lia
theorem Kk{n k:Nat}{f:Nat->Int}(h:∀i,i<n->0<=f i)(hk:k<n):f k<=bZ n f:=by
 induction n with
  |zero=>lia
  |succ n ih=>rw[bE];by_cases e:k=n;(·subst e;have:=ll (n:=k) (f:=f) λi hi=>h i ⋯;lia);have h1:=ih (λi hi=>h i ⋯) ⋯;have h2:=h n ⋯;lia
theorem jW(a:Int):0<=a*a:=by
 rcases Int.le_total 0 a with h|h;.exact eO h h
 exact Int.mul_nonneg_of_nonpos_of_nonpos h h
section
variable {A:Type}[bI A]
noncomputable def lz:Nat->(List Bool->A)->A
 |0,F=>F []
 |k+1,F=>lz k (λw=>F (true::w))+lz k (λw=>F (false::w))
theorem jT{F G:List Bool->A}(h:∀w,w.length=k->F w=G w):lz k F=lz k G:=by
 induction k generalizing F G with
  |zero=>exact h [] rfl
  |succ k ih=>simp only[lz];rw[ih λw hw=>h (true::w) (by simp[hw]),ih λw hw=>h (false::w) (by simp[hw])]
theorem nZ(k:Nat)(F G:List Bool->A):lz k (λw=>F w+G w)=lz k F+lz k G:=by
 induction k generalizing F G with
  |zero=>rfl
  |succ k ih=>simp only[lz,ih];grind
theorem EQ(k:Nat)(a:A)(F:List Bool->A):lz k (λw=>a*F w)=a*lz k F:=by
 induction k generalizing F with
  |zero=>rfl
  |succ k ih=>simp only[lz,ih];grind
theorem Bs(k:Nat):lz k (λ_=>(0:A))=0:=by
 induction k with
  |zero=>rfl
  |succ k ih=>simp only[lz,ih];grind
theorem LG(k l:Nat)(F:List Bool->List Bool->A):lz k (λw=>lz l (λv=>F w v))=lz l (λv=>lz k (λw=>F w v)):=by
 induction k generalizing F with
  |zero=>rfl
  |succ k ih=>simp only[lz,ih];rw[<-nZ]
end
namespace ag
noncomputable def ip(N:Nat)(f g:ag Int):Int:=bZ (N+1) (λi=>((i7 i*i7 (N-i):Nat):Int)*(f.c i*g.c i))
theorem qD(N:Nat)(f g:ag Int):ip N f g=ip N g f:=bJ λi _=>by grind
theorem nc(N:Nat)(f g h:ag Int):ip N (f+g) h=ip N f h+ip N g h:=by unfold ip;rw[<-kN];exact bJ λi _=>by rw[g9];grind
theorem va(N:Nat)(f g h:ag Int):ip N f (g+h)=ip N f g+ip N f h:=by rw[qD,nc,qD N g,qD N h]
theorem vb(N:Nat)(a:Int)(f g:ag Int):ip N (C a*f) g=a*ip N f g:=by unfold ip;rw[<-jV];exact bJ λi _=>by rw[cA];grind
theorem tM(N:Nat)(a:Int)(f g:ag Int):ip N f (C a*g)=a*ip N f g:=by rw[qD,vb,qD]
theorem AV(N:Nat)(g:ag Int):ip N g 0=0:=eR λi _=>by rw[dj];grind
theorem Kq(N:Nat)(f:ag Int):0<=ip N f f:=ll λi _=>eO ⋯ (jW _)
theorem abE(N:Nat)(f g:ag Int):ip (N+1) (X*f) g=ip N f (fz g):=by
 unfold ip;rw[fC,mE];have:bZ (N+1) (λi=>((i7 (i+1)*i7 (N+1-(i+1)):Nat):Int)*((X*f).c (i+1)*g.c (i+1)))=bZ (N+1) (λi=>((i7 i*i7 (N-i):Nat):Int)*(f.c i*(fz g).c i)):=by apply bJ;intro i _;rw[ng,ol,show N+1-(i+1)=N-i by lia];have:(cw (i+1):Int)=((i+1:Nat):Int):=rfl;rw[this];simp only[i7,cg];grind
 rw[this];grind
noncomputable def dy(m:Nat)(g:ag Int):ag Int:=C (m:Int)*g-X*fz g
theorem acY(m:Nat)(g:ag Int)(i:Nat):(dy m g).c i=((m:Int)-i)*g.c i:=by
 unfold dy;rw[i8,cA];cases i with
  |zero=>rw[mE];grind
  |succ i=>rw[ng,ol];have:(cw (i+1):Int)=((i+1:Nat):Int):=rfl;rw[this];grind
theorem abD(N:Nat)(hf:f.Lt (N+1))(g:ag Int):ip (N+1) f g=ip N f (dy (N+1) g):=by
 unfold ip;rw[bE,hf (N+1) ⋯];have:bZ (N+1) (λi=>((i7 i*i7 (N+1-i):Nat):Int)*(f.c i*g.c i))=bZ (N+1) (λi=>((i7 i*i7 (N-i):Nat):Int)*(f.c i*(dy (N+1) g).c i)):=by apply bJ;intro i hi;rw[acY,show N+1-i=(N-i)+1 by lia];simp only[i7];have:((N+1:Nat):Int)-i=((N-i+1:Nat):Int):=⋯;rw[this];simp only[cg];grind
 rw[this];grind
noncomputable def dd(b:Bool)(m:Nat)(P:ag Int):ag Int:=if b then fz P else dy m P
noncomputable def dW:List Bool->Nat->ag Int->ag Int
 |[],_,P=>P
 |b::w,m,P=>dW w (m-1) (dd b m P)
theorem QQ(h:1<=m)(P:ag Int):fz (dy m P)=dy (m-1) (fz P):=by unfold dy;rw[KS,zW,vy];have:(m:Int)=((m-1:Nat):Int)+1:=⋯;rw[this,Cv,eC];grind
theorem Uj(a b:Bool)(h:1<=m)(P:ag Int):dd a (m-1) (dd b m P)=dd b (m-1) (dd a m P):=by
 cases a<;>cases b<;>simp only[dd];.simp only[d7,if_false,if_true];exact(QQ h P).symm
 simp only[d7,if_false,if_true];exact QQ h P
theorem Ui(b:Bool)(m:Nat):dd b m 0=0:=by
 cases b;.simp only[dd,dy,d7,if_false];have:fz (0:ag Int)=0:=zX 0;rw[this];grind
 exact zX 0
theorem Ul(w:List Bool)(m:Nat):dW w m 0=0:=by
 induction w generalizing m with
  |nil=>rfl
  |cons b w ih=>simp only[dW,Ui,ih]
theorem xt(b:Bool)(h:P.Lt (m+1)):(dd b m P).Lt m:=by
 cases b;.intro i hi;show(dy m P).c i=0;rw[acY];by_cases e:i=m;(·subst e;grind);rw[h i ⋯];grind
 exact h.fz
theorem zY(w:List Bool)(h:P.Lt (m+1)):(dW w m P).Lt (m+1-w.length):=by
 induction w generalizing m P with
  |nil=>exact h
  |cons b w ih=>
   simp only[dW,a7];have h1:=xt b h;cases m with
    |zero=>rw[h1.kl,Ul];exact Lt.zero _
    |succ m=>have:=ih (m:=m) h1;exact this.mono ⋯
theorem DH(b:Bool)(w:List Bool)(hw:w.length<m)(P:ag Int):dd b (m-w.length) (dW w m P)=dW w (m-1) (dd b m P):=by
 induction w generalizing m P with
  |nil=>rfl
  |cons a w ih=>simp only[dW,a7]at*;have:=ih (m:=m-1) ⋯ (dd a m P);rw[show m-(w.length+1)=m-1-w.length by lia,this,Uj b a ⋯]
theorem QT(b:Bool)(w:List Bool)(hm:1<=m)(hw:w.length<=m)(h:P.Lt (m+1)):dd b (m-w.length) (dW w m P)=dW w (m-1) (dd b m P):=by
 by_cases e:w.length<m;.exact DH b w e P
 have h1:=zY w h;have h2:=xt b (m:=m-w.length) (P:=dW w m P) (h1.mono ⋯);have h3:=zY w (m:=m-1) (P:=dd b m P) (by rw[show m-1+1=m by lia];exact xt b h);have h4:(dd b (m-w.length) (dW w m P)).Lt 0:=h2.mono ⋯;have h5:(dW w (m-1) (dd b m P)).Lt 0:=h3.mono ⋯;rw[h4.kl,h5.kl]
noncomputable def bY(k l m n:Nat)(P Q:ag Int):Int:=lz k (λw=>lz l (λv=>ip (m+n-k-l) (dW w m P*dW v n Q) (dW v m P*dW w n Q)))
theorem YN(a b:Nat)(P Q:ag Int):dy (a+b) (P*Q)=dy a P*Q+P*dy b Q:=by unfold dy;rw[mC,fT,Cv];grind
theorem Tw(hL:L+1=a+1+b)(VE:L+1=x+y)(hp:p.Lt (a+1+1))(hq:q.Lt (b+1)):((a+1:Nat):Int)*ip (L+1) (p*q) (r*s)=(ip L (dd true (a+1) p*q) (dd true x r*s)+ip L (dd true (a+1) p*q) (r*dd true y s))+(ip L (dd false (a+1) p*q) (dd false x r*s)+ip L (dd false (a+1) p*q) (r*dd false y s)):=by
 have e1:((a+1:Nat):Int)*ip (L+1) (p*q) (r*s)=ip (L+1) (X*(fz p*q)) (r*s)+ip (L+1) (dy (a+1) p*q) (r*s):=by rw[<-vb,<-nc];congr 1;unfold dy;grind
 have h1:(dy (a+1) p*q).Lt (L+1):=(xt false hp).mul hq ⋯;rw[e1,abE,abD L h1,mC,VE,YN,va,va];rfl
theorem Oj(hk:k<m)(hl:l<=n):m-1+n-k-l+1=m-k+(n-l):=by obtain⟨a,rfl⟩:=eK hk;obtain⟨b,rfl⟩:=eK hl;rw[show k.succ+a-1+(l+b)=k+(l+(a+b)) by lia,cT,cT,cT,show k.succ+a=k+(a+1) by lia,cT];lia
theorem Wa(hk:k<m)(hl:l<=m)(hm:m<=n):m-1+n-k-l+1=m-l+(n-k):=by rw[Oj hk (br hl hm)];lia
theorem Oi(hk:k<m)(hl:l<=n):m+n-k-l=m-1+n-k-l+1:=by obtain⟨a,rfl⟩:=eK hk;obtain⟨b,rfl⟩:=eK hl;rw[show k.succ+a-1+(l+b)=k+(l+(a+b)) by lia,show k.succ+a+(l+b)=k+(l+(a+b+1)) by lia,cT,cT,cT,cT]
theorem Q2(hk:k<m)(hl:l<=m)(hm:m<=n)(hP:P.Lt (m+1))(hQ:Q.Lt (n+1)):((m-k:Nat):Int)*bY k l m n P Q=bY k l (m-1) n (fz P) Q+bY k l (m-1) n (dy m P) Q+bY (k+1) l m n P Q:=by
 have e1:bY (k+1) l m n P Q=lz k (λw=>lz l (λv=>ip (m-1+n-k-l) (dW w (m-1) (dd true m P)*dW v n Q) (dW v m P*dW w (n-1) (dd true n Q))))+lz k (λw=>lz l (λv=>ip (m-1+n-k-l) (dW w (m-1) (dd false m P)*dW v n Q) (dW v m P*dW w (n-1) (dd false n Q)))):=by unfold bY;rw[<-Nat.sub_sub,Nat.sub_right_comm,Oi hk (br hl hm)];rfl
 rw[e1];have e2:bY k l (m-1) n (fz P) Q=bY k l (m-1) n (dd true m P) Q:=rfl;have e3:bY k l (m-1) n (dy m P) Q=bY k l (m-1) n (dd false m P) Q:=rfl;rw[e2,e3];unfold bY;rw[<-nZ,<-nZ,<-nZ,<-EQ];apply jT;intro w hw;rw[<-nZ,<-nZ,<-nZ,<-EQ];apply jT;intro v hv;have:=Tw (a:=m-k-1) (b:=n-l) (L:=m-1+n-k-l) (p:=dW w m P) (q:=dW v n Q) (r:=dW v m P) (s:=dW w n Q) (by rw[vR (NM hk)];exact Oj hk (br hl hm)) (x:=m-l) (y:=n-k) (Wa hk hl hm) ((zY w hP).mono ⋯) ((zY v hQ).mono ⋯);rw[<-Oi hk (br hl hm),vR (NM hk)]at this;rw[this];have c1:∀b,dd b (m-k) (dW w m P)=dW w (m-1) (dd b m P):=λb=>by rw[<-hw];exact DH b w ⋯ P
 have c2:∀b,dd b (m-l) (dW v m P)=dW v (m-1) (dd b m P):=λb=>by rw[<-hv];exact QT b v ⋯ ⋯ hP
 have c3:∀b,dd b (n-k) (dW w n Q)=dW w (n-1) (dd b n Q):=λb=>by rw[<-hw];exact DH b w ⋯ Q
 rw[c1,c1,c2,c2,c3,c3];lia
theorem Uu(k l m n:Nat)(P Q:ag Int):bY k l m n P Q=bY l k m n P Q:=by unfold bY;rw[LG,show m+n-k-l=m+n-l-k by lia];exact jT λv _=>jT λw _=>qD _ _ _
theorem Y5(hP:P.Lt (m+1)):bY k (m+1) m n P Q=0:=by
 unfold bY;have:∀w v,v.length=m+1->ip (m+n-k-(m+1)) (dW w m P*dW v n Q) (dW v m P*dW w n Q)=0:=by intro w v hv;have h:(dW v m P).Lt 0:=(zY v hP).mono ⋯;rw[h.kl,show(0:ag Int)*dW w n Q=0 by grind,AV]
 rw[jT λw _=>(jT λv hv=>this w v hv).trans (Bs _),Bs]
theorem Kp(N k:Nat)(F:List Bool->ag Int)(g:ag Int):ip N (lz k F) g=lz k (λw=>ip N (F w) g):=by
 induction k generalizing F with
  |zero=>rfl
  |succ k ih=>simp only[lz,nc,ih]
theorem Q1(hP:P.Lt (m+1)):0<=bY m m m n P Q:=by
 have:bY m m m n P Q=ip (m+n-m-m) (lz m λw=>C ((dW w m P).c 0)*dW w n Q) (lz m λw=>C ((dW w m P).c 0)*dW w n Q):=by rw[Kp];unfold bY;apply jT;intro w hw;rw[qD,Kp];apply jT;intro v hv;have h1:=((zY w hP).mono (by lia:m+1-w.length<=1)).o_;have h2:=((zY v hP).mono (by lia:m+1-v.length<=1)).o_;rw[h1,h2];simp only[z6,vb,tM];grind
 rw[this];exact Kq _ _
theorem Y4(hm:m<=n)(hP:P.Lt (m+1))(hQ:Q.Lt (n+1))(hk:k<=m)(hl:l<=m):0<=bY k l m n P Q:=by
 induction m generalizing P k l with
  |zero=>have h1:k=0:=⋯;have h2:l=0:=⋯;subst h1 h2;exact Q1 hP
  |succ m ih=>
   (have Vm:∀b k l,k<=m->l<=m+1->0<=bY k l m n (dd b (m+1) P) Q:=by intro b k l hk hl;by_cases e:l=m+1;(·subst e;rw[Y5 (xt b hP)];exact js 0);exact ih ⋯ (xt b hP) hk ⋯);(have step:∀k l,k<m+1->l<=m+1->0<=bY (k+1) l (m+1) n P Q->0<=bY k l (m+1) n P Q:=by intro k l hk hl h;have h1:=Q2 hk hl hm hP hQ;have h2:=Vm true k l ⋯ hl;have h3:=Vm false k l ⋯ hl;(have h4:0<=((m+1-k:Nat):Int)*bY k l (m+1) n P Q:=by rw[h1];have e2:bY k l (m+1-1) n (fz P) Q=bY k l m n (dd true (m+1) P) Q:=rfl;have e3:bY k l (m+1-1) n (dy (m+1) P) Q=bY k l m n (dd false (m+1) P) Q:=rfl;lia);apply ae;intro hc;have:((m+1-k:Nat):Int)*bY k l (m+1) n P Q<0:=CL ⋯ ⋯;lia);have acS:∀l,l<=m+1->0<=bY (m+1) l (m+1) n P Q->∀j,j<=m+1->0<=bY (m+1-j) l (m+1) n P Q:=by
    intro l hl h j;induction j with
     |zero=>intro _;exact h
     |succ j ihj=>intro hj;apply step _ _ ⋯ hl;rw[show m+1-(j+1)+1=m+1-j by lia];exact ihj ⋯
   (have h1:∀l,l<=m+1->0<=bY (m+1) l (m+1) n P Q:=by intro l hl;rw[Uu];have:=acS (m+1) (aw _) (Q1 hP) (m+1-l) ⋯;rwa[show m+1-(m+1-l)=l by lia]at this);have:=acS l hl (h1 l hl) (m+1-k) ⋯;rwa[show m+1-(m+1-k)=k by lia]at this
theorem Gh(hm:m<=n)(hP:P.Lt (m+1))(hQ:Q.Lt (n+1)):ip m P P*ip n Q Q<=ip (m+n) (P*Q) (P*Q):=by
 induction m generalizing P with
  |zero=>rw[hP.o_,vb,tM,fL];(have:ip 0 (C (P.c 0)) (C (P.c 0))=P.c 0*P.c 0:=by unfold ip;rw[bE,dN,z6];simp[i7]);rw[this,Int.mul_assoc];exact js _
  |succ m ih=>have h1:=Q2 (k:=0) (l:=0) ⋯ ⋯ hm hP hQ;have h2:=Y4 hm hP hQ (k:=1) (l:=0) ⋯ ⋯;have h3:=ih ⋯ (P:=fz P) hP.fz;have h4:=ih ⋯ (P:=dy (m+1) P) (xt false hP);have e0:bY 0 0 (m+1) n P Q=ip (m+1+n) (P*Q) (P*Q):=rfl;have e1:bY 0 0 (m+1-1) n (fz P) Q=ip (m+n) (fz P*Q) (fz P*Q):=rfl;have e2:bY 0 0 (m+1-1) n (dy (m+1) P) Q=ip (m+n) (dy (m+1) P*Q) (dy (m+1) P*Q):=rfl;rw[e0,e1,e2,lY,fL]at h1;(have h5:((m+1:Nat):Int)*ip (m+1) P P=ip m (fz P) (fz P)+ip m (dy (m+1) P) (dy (m+1) P):=by(have:((m+1:Nat):Int)*ip (m+1) P P=ip (m+1) (X*fz P) P+ip (m+1) (dy (m+1) P) P:=by rw[<-vb,<-nc];congr 1;unfold dy;grind);rw[this,abE,abD m (show(dy (m+1) P).Lt (m+1)from xt false hP)]);(have h6:((m+1:Nat):Int)*(ip (m+1) P P*ip n Q Q)<=((m+1:Nat):Int)*ip (m+1+n) (P*Q) (P*Q):=by rw[h1];(have:((m+1:Nat):Int)*(ip (m+1) P P*ip n Q Q)=ip m (fz P) (fz P)*ip n Q Q+ip m (dy (m+1) P) (dy (m+1) P)*ip n Q Q:=by(have:((m+1:Nat):Int)*(ip (m+1) P P*ip n Q Q)=(((m+1:Nat):Int)*ip (m+1) P P)*ip n Q Q:=by grind);rw[this,h5];grind);rw[this];lia);exact CM h6 ⋯
theorem MN(hP:P.Lt (m+1))(hQ:Q.Lt (n+1)):ip m P P*ip n Q Q<=ip (m+n) (P*Q) (P*Q):=by
 rcases wS m n with h|h;.exact Gh h hP hQ
 have:=Gh h hQ hP;rwa[show Q*P=P*Q by grind,jB n m,gX]at this
noncomputable def eG(f:ag Int)(n:Nat):Int:=bZ n (λi=>((f.c i).natAbs:Int))
theorem ER(f:ag Int)(n:Nat):bZ n (λi=>f.c i*f.c i)<=eG f n*eG f n:=by
 unfold eG;induction n with
  |zero=>exact js 0
  |succ n ih=>rw[bE,bE];(have h1:0<=bZ n (λi=>((f.c i).natAbs:Int)):=ll λi _=>by lia);generalize bZ n (λi=>((f.c i).natAbs:Int))=S at*;(have h2:f.c n*f.c n=((f.c n).natAbs:Int)*((f.c n).natAbs:Int):=by rw[<-cg,Lp]);have h3:0<=S*((f.c n).natAbs:Int):=eO h1 ⋯;rw[h2];generalize ((f.c n).natAbs:Int)=a at*;(have:(S+a)*(S+a)=S*S+2*(S*a)+a*a:=by grind);lia
theorem Ps{m n i:Nat}(hP:P.Lt (m+1))(hQ:Q.Lt (n+1))(hi:i<=m):((P.c i*Q.c n).natAbs:Int)<=2^(m+n)*eG (P*Q) (m+n+1):=by
 have h1:=MN hP hQ;have h2:((i7 i*i7 (m-i):Nat):Int)*(P.c i*P.c i)<=ip m P P:=Kk (f:=λi=>((i7 i*i7 (m-i):Nat):Int)*(P.c i*P.c i)) (λj _=>eO ⋯ (jW _)) ⋯;have h3:((i7 n*i7 (n-n):Nat):Int)*(Q.c n*Q.c n)<=ip n Q Q:=Kk (f:=λi=>((i7 i*i7 (n-i):Nat):Int)*(Q.c i*Q.c i)) (λj _=>eO ⋯ (jW _)) ⋯;have h4:ip (m+n) (P*Q) (P*Q)<=(i7 (m+n):Int)*(eG (P*Q) (m+n+1)*eG (P*Q) (m+n+1)):=by have h5:=ER (P*Q) (m+n+1);(have h6:ip (m+n) (P*Q) (P*Q)<=bZ (m+n+1) (λi=>(i7 (m+n):Int)*((P*Q).c i*(P*Q).c i)):=by apply JQ;intro j hj;apply mX _ (jW _);have:=YG (n:=m+n) (k:=j) ⋯;lia);rw[jV]at h6;exact ou h6 (dX h5 ⋯)
 have hS:0<=eG (P*Q) (m+n+1):=ll λi _=>by lia
 generalize eG (P*Q) (m+n+1)=S at*;have h5:i7 (m+n)<=2^(m+n)*2^(m+n)*(i7 i*i7 (m-i)*i7 n):=by
  have h6:=sU (n:=m+n) (k:=n) ⋯;have h7:=sU (n:=m) (k:=i) hi;rw[show m+n-n=m by lia]at h6;have h8:=Gj (m+n) n;have h9:fk m i<=2^(m+n):=br (Gj m i) (bg ⋯ ⋯);rw[<-h6,<-h7];calc fk (m+n) n*(i7 n*(fk m i*(i7 i*i7 (m-i))))=fk (m+n) n*fk m i*(i7 i*i7 (m-i)*i7 n):=by grind
   _<=2^(m+n)*2^(m+n)*(i7 i*i7 (m-i)*i7 n):=bu _ (dJ h8 h9)
 have hW:0<i7 i*i7 (m-i)*i7 n:=Ju (Ju (yw i) (yw _)) (yw n);have h6:((i7 i*i7 (m-i)*i7 n:Nat):Int)*((P.c i*Q.c n)*(P.c i*Q.c n))<=((i7 i*i7 (m-i)*i7 n:Nat):Int)*((2^(m+n)*S)*(2^(m+n)*S)):=by(have e1:((i7 i*i7 (m-i)*i7 n:Nat):Int)*((P.c i*Q.c n)*(P.c i*Q.c n))=(((i7 i*i7 (m-i):Nat):Int)*(P.c i*P.c i))*(((i7 n*i7 (n-n):Nat):Int)*(Q.c n*Q.c n)):=by rw[kH];simp only[i7,cg,Nat.mul_one];grind);have e2:(((i7 i*i7 (m-i):Nat):Int)*(P.c i*P.c i))*(((i7 n*i7 (n-n):Nat):Int)*(Q.c n*Q.c n))<=ip m P P*ip n Q Q:=UQ h2 h3 (eO ⋯ (jW _)) (Kq _ _);have e3:(i7 (m+n):Int)*(S*S)<=((2^(m+n)*2^(m+n)*(i7 i*i7 (m-i)*i7 n):Nat):Int)*(S*S):=mX (by exact_mod_cast h5) (jW S);(have e4:((2^(m+n)*2^(m+n)*(i7 i*i7 (m-i)*i7 n):Nat):Int)*(S*S)=((i7 i*i7 (m-i)*i7 n:Nat):Int)*((2^(m+n)*S)*(2^(m+n)*S)):=by rw[cg,cg];(have:((2^(m+n):Nat):Int)=2^(m+n):=by simp);rw[this];grind);rw[e1,<-e4];lia
 have h7:=CM h6 ⋯;have h8:0<=(2:Int)^(m+n)*S:=eO (by exact_mod_cast bX (2^(m+n))) hS;generalize (2:Int)^(m+n)*S=T at*;have h9:(P.c i*Q.c n)*(P.c i*Q.c n)=((P.c i*Q.c n).natAbs:Int)*((P.c i*Q.c n).natAbs:Int):=by rw[<-cg,Lp]
 rw[h9]at h7;generalize ((P.c i*Q.c n).natAbs:Int)=a at*;apply ae;intro hc;have h10:T*T<a*a:=by have h11:T*T<=T*a:=dX ⋯ h8;have h12:T*a<a*a:=Int.mul_lt_mul_of_pos_right ⋯ ⋯;lia
 lia
end ag
end Tk
end
section
namespace Tk
open Lean.Grind
theorem Pk:∀{l:List Nat},l.Nodup->(∀x,x∈l->x<b)->l.length<=b:=by
 induction b with
  |zero=>
   intro l _ h;cases l with
    |nil=>exact aw 0
    |cons a l=>have:=h a aq;lia
  |succ b ih=>intro l hn h;by_cases e:b∈l;(·obtain⟨s,t,rfl⟩:=d6 e;have gq:(s++b::t).Perm (b::(s++t)):=c_;have hn2:=gq.nodup_iff.mp hn;rw[bO]at hn2;have:=ih hn2.2 (λx hx=>by have h1:=h x (gq.mem_iff.mpr (al _ hx));have h2:x≠b:=λe=>hn2.1 (e ▸ hx);lia);rw[gq.length_eq,a7];lia);have:=ih hn (λx hx=>by have h1:=h x hx;have h2:x≠b:=λe'=>e (e' ▸ hx);lia);lia
theorem WT(h:b<a)(f:Nat->Nat)(hf:∀i,i<a->f i<b):∃i j,i<j/\j<a/\f i=f j:=by
 apply ae;intro hc;have hn:((aX a).map f).Nodup:=by apply me kE;intro x hx y hy e;rw[cr]at hx hy;apply ae;intro hne;rcases Nj hne with h1|h1;(·exact hc ⟨x,y,h1,hy,e⟩);exact hc ⟨y,x,h1,hx,e.symm⟩
 have:=Pk hn (b:=b) (λx hx=>by obtain⟨i,hi,rfl⟩:=ao.mp hx;exact hf i (cr.mp hi));simp at this;lia
noncomputable def dig(W i v:Nat):Nat:=v/W^i%W
theorem Ud(hW:0<W):∀{n v w:Nat},v<W^n->w<W^n->(∀i,i<n->dig W i v=dig W i w)->v=w:=by
 intro n;induction n with
  |zero=>intro v w hv hw _;simp at hv hw;lia
  |succ n ih=>intro v w hv hw h;have h0:=h 0 ⋯;simp only[dig,gu,Nat.div_one]at h0;(have h1:v/W=w/W:=by apply ih;(·rw[Hc hW,<-cv];exact hv);(·rw[Hc hW,<-cv];exact hw);intro i hi;have:=h (i+1) ⋯;simp only[dig]at this ⊢;rw[GG,GG,du W,<-cv];exact this);have h2:=nB v W;have h3:=nB w W;rw[h1,h0]at h2;lia
noncomputable def code(W:Nat)(s:Nat->Nat):Nat->Nat
 |0=>0
 |k+1=>code W s k+s k*W^k
theorem DK:∀{r:Nat},(∀k,k<r->s k<W)->code W s r<W^r:=by
 intro r;induction r with
  |zero=>intro _;simp[code]
  |succ r ih=>intro h;have h1:=ih λk hk=>h k ⋯;have h2:=h r ⋯;simp only[code];have:(s r+1)*W^r<=W*W^r:=bu _ h2;rw[tI,kt]at this;rw[cv,du (W^r)];lia
theorem code_inj:∀{r:Nat},(∀k,k<r->s k<W)->(∀k,k<r->t k<W)->code W s r=code W t r->∀k,k<r->s k=t k:=by
 intro r;induction r with
  |zero=>intro _ _ _ k hk;lia
  |succ r ih=>intro hs ht h k hk;have h1:=DK (W:=W) (s:=s) (r:=r) λk hk=>hs k ⋯;have h2:=DK (W:=W) (s:=t) (r:=r) λk hk=>ht k ⋯;simp only[code]at h;have hWr:0<W^r:=⋯;(have e1:(code W s r+s r*W^r)/W^r=s r:=by rw[He _ _ hWr,RE h1,fL]);(have e2:(code W t r+t r*W^r)/W^r=t r:=by rw[He _ _ hWr,RE h2,fL]);(have e3:s r=t r:=by rw[<-e1,<-e2,h]);by_cases Iq:k=r;(·rw[Iq,e3]);rw[e3]at h;exact ih (λk hk=>hs k ⋯) (λk hk=>ht k ⋯) ⋯ k ⋯
theorem IV{p:Int}{M:Nat}(h:p.natAbs<=M):0<=p+M:=by have:=ou Int.le_natAbs (GO.mpr (by rw[Int.natAbs_neg];exact h));clear h;lia
theorem IW{p:Int}{M:Nat}(h:p.natAbs<=M):(p+M).toNat<2*M+1:=by rw[Int.toNat_lt (IV h)];have:=ou Int.le_natAbs (GO.mpr h);clear h;lia
theorem Y0{p q:Int}{M:Nat}(hp:p.natAbs<=M)(hq:q.natAbs<=M)(h:(p+M).toNat=(q+M).toNat):p-q=0:=by have e:=aK Ez h;rw[JB,JB,uB (IV hp),uB (IV hq)]at e;clear h hp hq;lia
theorem YS{a b H:Nat}(ha:a<=H)(hb:b<=H):((a:Int)-b).natAbs<=H:=⋯
noncomputable def YT(N H v i:Nat):Nat:=if i<N then dig (H+1) i v else 0
theorem IM(N H v i:Nat):YT N H v i<=H:=by
 unfold YT;split;.exact Nat.le_of_lt_succ (ja _ (oq H))
 exact bX _
theorem Wj(hr:r<N)(T:(Nat->Int)->Nat->Int)(XV:∀x y k,T (λi=>x i-y i) k=T x k-T y k)(B:Nat)(hb:∀H x,(∀i,(x i).natAbs<=H)->∀k,k<r->(T x k).natAbs<=B*H):∃x,(∃i,i<N/\x i≠0)/\(∀i,(x i).natAbs<=(2*B+1)^r)/\∀k,k<r->T x k=0:=by
 generalize hH:(2*B+1)^r=H;have hTd:∀v k,k<r->(T (λi=>YT N H v i) k).natAbs<=B*H:=λv k hk=>hb H _ (λi=>by rw[il];exact IM N H v i) k hk;have hlt:(2*(B*H)+1)^r<(H+1)^N:=by(have h1:2*(B*H)+1<=(2*B+1)*(H+1):=by rw[tI,Jv,jL];lia);have h2:=nX h1 r;rw[Nat.mul_pow,hH]at h2;refine bS h2 (bh (Nat.mul_lt_mul_of_pos_right (kI H) (kr (oq H))) ?_);rw[du,<-cv];exact bg (oq H) hr
 obtain⟨v,w,hvw,hw,he⟩:=WT hlt (λv=>code (2*(B*H)+1) (λk=>(T (λi=>YT N H v i) k+(B*H:Nat)).toNat) r) (λv _=>DK λk hk=>IW (hTd v k hk));have hc:=code_inj (λk hk=>IW (hTd v k hk)) (λk hk=>IW (hTd w k hk)) he;refine⟨λi=>YT N H v i-YT N H w i,?_,λi=>?_,λk hk=>?_⟩;.apply ae;intro hn;refine cN hvw (Ud (W:=H+1) (oq H) (n:=N) (bU hvw hw) hw λi hi=>ae λhne=>hn ⟨i,hi,?_⟩);simp only[YT,aj hi];clear hn;lia
 .exact YS (IM N H v i) (IM N H w i)
 rw[XV];exact Y0 (hTd v k hk) (hTd w k hk) (hc k hk)
namespace ag
theorem lK(f:ag Int)(n:Nat):0<=eG f n:=ll λi _=>by lia
theorem Dl(h:f.Lt m)(hmn:m<=n):eG f n=eG f m:=wZ hmn λi hi _=>by rw[h i hi];rfl
theorem zt(n:Nat)(f:Nat->Int):((bZ n f).natAbs:Int)<=bZ n (λi=>((f i).natAbs:Int)):=by
 induction n with
  |zero=>exact js 0
  |succ n ih=>rw[bE,bE];exact ou (GO.mpr (wW _ _)) (Int.add_le_add_right ih _)
theorem CV{m n:Nat}(h:m<=n){f:Nat->Int}(hf:∀i,0<=f i):bZ m f<=bZ n f:=by obtain⟨k,rfl⟩:∃k,n=m+k:=⟨n-m,⋯⟩;rw[n_];have:=ll (n:=k) (f:=λi=>f (m+i)) λi _=>hf _;lia
theorem xx(hA:∀i,(A.c i).natAbs<=H)(hf:f.Lt n)(k:Nat):((A*f).c k).natAbs<=(eG f n).toNat*H:=by
 have h0:=lK f n;have:(((A*f).c k).natAbs:Int)<=eG f n*H:=by rw[show A*f=f*A by grind,qU];refine ou (zt _ _) ?_;(have h1:bZ (k+1) (λi=>((f.c i*A.c (k-i)).natAbs:Int))<=bZ (k+1) (λi=>((f.c i).natAbs:Int)*H):=by apply JQ;intro i _;rw[cP,cg];apply dX _ ⋯;have:=hA (k-i);lia);rw[jU]at h1;refine ou h1 (mX ?_ ⋯);show eG f (k+1)<=eG f n;rcases wS (k+1) n with h|h;(·exact CV h λi=>by lia);rw[Dl hf h];exact js _
 have e:(eG f n*(H:Int))=(((eG f n).toNat*H:Nat):Int):=by rw[cg];congr 1;lia
 rw[e]at this;lia
theorem QU{x:Nat->Int}{H:Nat}(hx:∀i,(x i).natAbs<=H)(m i:Nat):((cut x m).c i).natAbs<=H:=by
 rw[so];split;.exact hx i
 exact bX _
theorem K0(a b:Nat->Int)(m:Nat):cut (λi=>a i-b i) m=cut a m-cut b m:=by apply ext;intro i;rw[i8,so,so,so];split<;>rfl
theorem JI{a b N:Nat}(hf:f.Lt a)(hg:g.Lt b)(hN:eG f a+eG g b<=N)(m n s:Nat)(h0:0<m+n):∃A B,A.Lt m/\B.Lt n/\(A≠0\/B≠0)/\(∀k,s<=k->k<s+(m+n-1)->(A*f+B*g).c k=0)/\∀k,((A*f+B*g).c k).natAbs<=N*(2*N+1)^(m+n-1):=by
 have zJ:∀H x,(∀i,(x i).natAbs<=H)->∀k,((cut x m*f+cut (λi=>x (m+i)) n*g).c k).natAbs<=N*H:=by intro H x hx k;have h5:((eG f a).toNat+(eG g b).toNat)*H<=N*H:=bu _ (by have h1:=lK f a;have h2:=lK g b;generalize eG f a=u at*;generalize eG g b=v at*;lia);rw[tI]at h5;rw[g9];exact br (wW _ _) (br (Bh (xx (QU hx _) hf k) (xx (QU (λ_=>hx _) _) hg k)) h5)
 obtain⟨x,⟨i,hi,hne⟩,hxb,hxz⟩:=Wj (N:=m+n) (r:=m+n-1) (Nat.sub_lt h0 Nat.one_pos) (λx k=>(cut x m*f+cut (λi=>x (m+i)) n*g).c (k+s)) (λx y k=>by rw[K0,K0 (λi=>x (m+i)),<-i8];congr 1;grind) N (λH x hx k _=>zJ H x hx _);refine⟨_,_,Lt.cut _ _,Lt.cut _ _,ae λhc=>hne ?_,λk h1 h2=>?_,zJ _ x hxb⟩;.by_cases hh:i<m;(·have:=aK (λq=>q.c i) (ae λk=>hc (.inl k):cut x m=0);simp only[so,aj hh,dj]at this;exact this);have:=aK (λq=>q.c (i-m)) (ae λk=>hc (.inr k):cut (λi=>x (m+i)) n=0);simp only[so,dj,aj (CI (mU hh) hi),Nat.add_sub_cancel' (mU hh)]at this;exact this
 have:=hxz (k-s) (CI h1 h2);rwa[vR h1]at this
theorem LM{n:Nat}(hf:f.size=n+1)(hn:1<=n)(hg:g.Lt n)(AA:g≠0)(hco:∃u v c,c≠0/\C c=u*f+v*g){B:Nat}(hB:eG f (n+1)+eG g n<=B):∃u v D,D≠0/\C D=u*f+v*g/\D.natAbs<=(2*B+1)^(2*n-1):=by
 have hfl:=cS (by rw[hf];exact aw _);obtain⟨t,rfl⟩:=eK hn;obtain⟨X,Y,hX,hY,hnz,hz,hb⟩:=JI hfl hg hB t (1+t) 1 ⋯;have hlt:(X*f+Y*g).Lt (1+(t+t)):=(hX.mul hfl ⋯).add (hY.mul hg ⋯);have Iw:X*f+Y*g=C ((X*f+Y*g).c 0):=by apply Lt.o_;intro i hi;by_cases h:i<1+(t+t);(·exact hz i hi ⋯);exact hlt i (mU h)
 refine⟨X,Y,_,λhz=>?_,Iw.symm,br (hb 0) ?_⟩;.rw[hz,jI]at Iw;obtain⟨u,v,c,hc,hcc⟩:=hco;have Dx:=aS.mp (by rw[hf];exact oq _);(have hBz:Y=0:=by apply ae;intro RT;(have h1:C c*Y=f*(u*Y-v*X):=by rw[hcc];grind);have xk:(C c:ag Int)≠0:=λe=>hc (iu (b:=0) e);have h2:=fm ⟨_,h1⟩ (iC.jm xk RT);have h3:=bM xk RT;rw[fP hc]at h3;have h5:=dS hY;lia);rw[hBz]at Iw;exact hnz.elim (λh=>(iC.mul_eq _ _ (show X*f=0 by grind)).elim h Dx) (λh=>h hBz)
 rw[show t+(1+t)-1=t+t by lia,show 2*(1+t)-1=t+t+1 by lia,cv,du];exact di _ ⋯
end ag
end Tk
end
section
namespace Tk
open Lean.Grind
theorem L8{α:Type}:∀{l m:List α},l.Nodup->(∀x,x∈l->x∈m)->l.length<=m.length:=by
 intro l;induction l with
  |nil=>intro m _ _;exact bX _
  |cons a l ih=>intro m hn h;rw[bO]at hn;obtain⟨s,t,rfl⟩:=d6 (h a aq);have gq:(s++a::t).Perm (a::(s++t)):=c_;have:=ih (m:=s++t) hn.2 (λx hx=>by have h1:=gq.mem_iff.mp (h x (al _ hx));rcases bi.mp h1 with e|e;(·exact ap (e ▸ hx) hn.1);exact e);rw[gq.length_eq,a7,a7];lia
noncomputable def Px(M:Nat):Nat->Nat->Nat
 |0,s=>s
 |n+1,s=>Px M n ((s*s+(M-2))%M)
theorem N3(k:Nat)(h:0<k):∃a o,k=2^a*(2*o+1):=by
 induction k using R8 with
  |ind k ih=>by_cases e:k%2=1;(·exact⟨0,k/2,by simp;lia⟩);obtain⟨a,o,hk⟩:=ih (k/2) ⋯ ⋯;refine⟨a+1,o,?_⟩;rw[cv,du (2^a),jL,<-hk];lia
section
variable {R:Type}[bI R]
theorem Tq(hM:2<=M)(h0:(ag.cw M:R)=0){w v:R}(hwv:w*v=1)(n:Nat):∀s,(ag.cw s:R)=w+v->(ag.cw (Px M n s):R)=w^(2^n)+v^(2^n):=by
 induction n generalizing w v with
  |zero=>intro s hs;simp only[Px,gu];rw[hs];grind
  |succ n ih=>intro s hs;simp only[Px];(have h1:(ag.cw ((s*s+(M-2))%M):R)=ag.cw (s*s+(M-2)):=by have:=nB (s*s+(M-2)) M;(have h2:(ag.cw (s*s+(M-2)):R)=ag.cw (M*((s*s+(M-2))/M)+(s*s+(M-2))%M):=by rw[this]);rw[h2,ki,pQ,h0];grind);(have h3:(ag.cw (M-2):R)=-2:=by(have:(ag.cw (M-2+2):R)=0:=by rw[show M-2+2=M by lia];exact h0);rw[ki]at this;have h2:(ag.cw 2:R)=2:=(kc 2).symm;rw[h2]at this;grind);have h4:=ih (w:=w*w) (v:=v*v) (by grind) ((s*s+(M-2))%M) (by rw[h1,ki,pQ,hs,h3];grind);rw[h4,cv,du (2^n) 2,iI,iI];(have e:∀x:R,x^2=x*x:=λx=>by rw[ay,ay,aL];grind);rw[e,e]
theorem L0{w:R}(h:w^(2^m)=-1)(hne:(1:R)≠-1)(hk0:0<k)(hk:k<2^(m+1)):w^k≠1:=by
 intro e;obtain⟨a,o,rfl⟩:=N3 k hk0;have ha:a<=m:=by apply ae;intro hc;have h1:2^(m+1)<=2^a:=bg ∅ ⋯;have h2:2^a*1<=2^a*(2*o+1):=di _ ⋯;lia
 have h1:w^(2^m*(2*o+1))=1:=by(have:2^m*(2*o+1)=2^a*(2*o+1)*2^(m-a):=by(have:2^m=2^a*2^(m-a):=by rw[<-iW];congr 1;lia);rw[this];grind);rw[this,iI,e,kO]
 rw[iI,h]at h1;have h2:(-1:R)^(2*o+1)=-1:=by rw[ay,iI];(have:(-1:R)^2=1:=by rw[ay,ay,aL];grind);rw[this,kO];grind
 rw[h2]at h1;exact hne h1.symm
end
theorem w4(h:2<=n)(hn:¬Pr n):∃q,Pr q/\q∣n/\q*q<=n:=by
 have:∃d,d∣n/\d≠1/\d≠n:=by apply ae;intro hc;apply hn;refine⟨h,λd hd=>?_⟩;apply ae;intro hn;exact hc ⟨d,hd,λe=>hn (.inl e),λe=>hn (.inr e)⟩
 obtain⟨d,⟨e,he⟩,h1,h2⟩:=this;have oi:d≠0:=by rintro rfl;simp at he;lia
 have VB:e≠0:=by rintro rfl;simp at he;lia
 have he1:e≠1:=by rintro rfl;simp at he;lia
 rcases wS d e with Yq|Yq;.obtain⟨q,hq,Az⟩:=pY (n:=d) ⋯;have:=eQ ⋯ Az;exact⟨q,hq,D_ Az ⟨e,he⟩,by rw[he];exact dJ this ⋯⟩
 obtain⟨q,hq,Az⟩:=pY (n:=e) ⋯;have:=eQ ⋯ Az;exact⟨q,hq,D_ Az ⟨d,by rw[he,du]⟩,by rw[he];exact dJ ⋯ this⟩
theorem kj(hp:3<=p)(h:Px (2^p-1) (p-2) 4=0):Pr (2^p-1):=by
 apply ae;intro hc;have h8:2^3<=2^p:=bg ∅ hp;obtain⟨q,hq,Az,hqq⟩:=w4 (n:=2^p-1) ⋯ hc;obtain⟨g,yu⟩:∃g:ag (Zp q),g=ag.X*ag.X-ag.C 3:=⟨_,rfl⟩;have hg:g.bD 2:=by rw[yu];refine⟨(ag.Lt.X.mul ag.Lt.X ⋯).sub ((ag.Lt.C _).mono ⋯),?_⟩;rw[ag.i8,ag.ng,ag.RW,aj rfl,ag.IU];grind
 have agj:=ag.DD hq hg;obtain⟨t,htt⟩:∃t:cp g,t*t=3:=by refine⟨cp.mk g ag.X,?_⟩;show cp.mk g (ag.X*ag.X)=cp.mk g (ag.C 3);rw[cp.g8,<-yu];exact Dv.refl _
 have ah_:q%2=1:=by obtain⟨r,hr⟩:=Az;apply ae;intro hn;(have h1:2^p=2*2^(p-1):=by rw[<-Nat.pow_succ'];congr 1;lia);have h2:q=2*(q/2):=⋯;rw[h2,jL]at hr;lia
 have ag7:(1:cp g)≠-1:=by intro e;(have h2:cp.mk g (ag.C 2)=0:=by(have:(2:cp g)=0:=by grind);exact this);obtain⟨c,hc⟩:=cp.dh.mp h2;(have h3:(ag.C (2:Zp q))=0:=by have:=hg.o7 (q:=c) (by rw[<-hc];exact(ag.Lt.C _).mono ⋯);rw[hc,this];grind);have h4:(2:Zp q)=0:=ag.iu (b:=0) h3;have h5:=gr.mp (cp.dh.mp (show cp.mk (q:Int) (2:Int)=0 from h4));have h6:=fJ ∅ h5;have:=hq.1;lia
 have hM0:(ag.cw (2^p-1):cp g)=0:=by obtain⟨r,hr⟩:=Az;have:xV (Zp q) q:=pc hq;rw[hr,pQ,xV.zero (A:=cp g) (p:=q)];grind
 have hwv:(2+t)*(2-t)=1:=by grind
 have h4:(ag.cw 4:cp g)=(2+t)+(2-t):=by rw[show(ag.cw 4:cp g)=4 from(kc 4).symm];grind
 have hl:=Tq ⋯ hM0 hwv (p-2) 4 h4;rw[h,oh]at hl;have hw:(2+t)^(2^(p-1))=-1:=by(have e:2^(p-1)=2^(p-2)+2^(p-2):=by rw[show p-1=(p-2)+1 by lia,cv];lia);(have h5:(2+t)^(2^(p-2))*(2-t)^(2^(p-2))=1:=by rw[<-kP,hwv,kO]);rw[e,iJ];grind
 have Iu:∀n,(2+t)^n*(2-t)^n=1:=λn=>by rw[<-kP,hwv,kO]
 have hnd:((aX (2^p)).map λi=>(2+t)^i).Nodup:=by apply me kE;(have key:∀i j,i<j->j<2^p->(2+t)^i≠(2+t)^j:=by intro i j hij hj e;refine L0 hw ag7 (k:=j-i) ⋯ (by rw[show p-1+1=p by lia];lia) ?_;(have h6:(2+t)^j=(2+t)^i*(2+t)^(j-i):=by rw[<-iJ];congr 1;lia);have:=Iu i;rw[h6]at e;grind);intro a ha b hb e;rw[cr]at ha hb;rcases fM a b with h|h|h;(·exact ap e (key a b h hb));(·exact h);exact ap e.symm (key b a h ha)
 have:=L8 hnd (λx _=>agj.all x);rw[ab,eF,ab,ag.zB]at this;rw[cv,Nat.pow_one]at this;lia
set_option maxRecDepth 100000 in
theorem aeF:Pr (2^61-1):=kj ∅ (by decide+kernel)
set_option maxRecDepth 100000 in
theorem aeE:Pr (2^89-1):=kj ∅ (by decide+kernel)
set_option maxRecDepth 100000 in
theorem aaV:Pr (2^107-1):=kj ∅ (by decide+kernel)
set_option maxRecDepth 100000 in
theorem aaU:Pr (2^127-1):=kj ∅ (by decide+kernel)
set_option maxRecDepth 100000 in
theorem aaT:Pr (2^521-1):=kj ∅ (by decide+kernel)
set_option maxRecDepth 100000 in
theorem WR:Pr (2^2203-1):=kj ∅ (by decide+kernel)
end Tk
end
section
namespace Tk
open Lean.Grind
noncomputable def aA(l:List Int):ag Int:=⟨λi=>l.getD i 0,l.length,λi hi=>by simp[aD,aG hi]⟩
theorem fb(l:List Int)(i:Nat):(aA l).c i=l.getD i 0:=rfl
theorem gn(l:List Int):(aA l).Lt l.length:=λi hi=>by rw[fb,aD,aG hi];rfl
def fc(l:List Int):Prop:=∀h:l≠[],l.getLast h≠0
theorem fc.nil:fc []:=λh=>ap rfl h
theorem bH:fc l↔(aA l).size=l.length:=by
 constructor;.intro h;by_cases e:l=[];(·subst e;(have:aA []=0:=ag.ext λi=>by rw[ag.dj];rfl);rw[this,ag.ff];rfl);have hl:=bL.mpr e;have h1:=ag.jb (p:=aA l) (n:=l.length-1) (by rw[show l.length-1+1=l.length by lia];exact gn l) (by rw[fb];have:=h e;rw[dH]at this;simp only[aD,aa (show l.length-1<l.length by lia)];exact this);lia
 intro h e hz;have hl:=bL.mpr e;have hp:aA l≠0:=ag.aS.mp ⋯;apply ag.fS hp;unfold ag.aT;rw[h,fb];rw[dH]at hz;simp only[aD,aa (show l.length-1<l.length by lia)];exact hz
theorem lF(ha:fc a)(hb:fc b)(h:aA a=aA b):a=b:=by
 have h1:=bH.mp ha;have h2:=bH.mp hb;have hl:a.length=b.length:=by rw[<-h1,<-h2,h]
 apply qp hl;intro i hi Mu;have:=aK (λp=>p.c i) h;simp only[fb,aD,aa hi,aa Mu]at this;exact this
theorem bP(h:fc l):aA l=0↔l=[]:=by
 constructor;.intro e;have:=bH.mp h;rw[e,ag.ff]at this;exact b5 this.symm
 rintro rfl;exact ag.ext λi=>by rw[ag.dj];rfl
open Rc37 in
theorem sE(l:List Int)(a:Int):trim (l++[a])=if a=0 then trim l else l++[a]:=by
 unfold trim;rw[Jx];simp only[lU,NO,gE,rG,JA];by_cases h:a=0;.simp[h]
 simp[h]
theorem snoc_ind{P:List Int->Prop}(h0:P [])(hs:∀l a,P l->P (l++[a]))(l:List Int):P l:=by
 have:∀n l,l.length=n->P l:=by
  intro n;induction n with
   |zero=>intro l hl;rw[b5 hl];exact h0
   |succ n ih=>intro l hl;(have hne:l≠[]:=by rintro rfl;simp at hl);rw[<-jG hne];exact hs _ _ (ih _ (by simp[hl]))
 exact this _ l rfl
theorem fU(l:List Int):fc (aN l):=by
 refine snoc_ind (P:=λl=>fc (aN l)) ?_ ?_ l;.exact fc.nil
 intro l a ih;rw[sE];by_cases h:a=0;.rw[aj h];exact ih
 rw[ah h];intro _;simp[h]
theorem cQ(l:List Int):aA (aN l)=aA l:=by
 refine snoc_ind (P:=λl=>aA (aN l)=aA l) rfl ?_ l;intro l a ih;rw[sE];by_cases h:a=0
 .rw[aj h,ih];apply ag.ext;intro i;simp only[fb,aD];by_cases hi:i<l.length;(·rw[bA hi]);rw[bK ⋯,aG (show l.length<=i by lia)];cases hk:i-l.length with
   |zero=>simp[h]
   |succ k=>simp
 rw[ah h]
theorem gl(h:fc l):aN l=l:=lF (fU l) h (cQ l)
theorem qu:fc l↔aN l=l:=⟨gl,λh=>h ▸ fU l⟩
theorem mH(l:List Int):(aN l).length=(aA l).size:=by rw[<-bH.mp (fU l),cQ]
theorem gL(l:List Int):(aN l).isEmpty=true↔aA l=0:=by rw[xE,<-bP (fU l),cQ]
theorem N6(l:List Int):aN l=[]↔aA l=0:=by rw[<-bP (fU l),cQ]
theorem fj(l:List Int):dB l=(aA l).size-1:=by unfold dB;rw[mH]
theorem dz(l:List Int):bm l=(aA l).aT:=by unfold bm ag.aT;rw[fj];rfl
theorem lM(n:Nat)(f:Nat->Int)(i:Nat):((aX n).map f).getD i 0=if i<n then f i else 0:=by
 simp only[aD];by_cases h:i<n;.rw[aj h,aE,t_ h];rfl
 rw[ah h,aG (by simp;lia)];rfl
theorem LD(n:Nat)(f:Nat->Int):((aX n).map f).sum=bZ n f:=by
 induction n with
  |zero=>rfl
  |succ n ih=>rw[gD,aF,li,ih,bE];simp
theorem mv(a b:List Int):aA (mZ a b)=aA a*aA b:=by
 unfold mZ
 rw[cQ]
 apply ag.ext;intro i
 rw[fb,lM,ag.qU]
 split
 .rw[LD];rfl
 .exact(Gu a b i ⋯).symm
where
 Gu (a b:List Int) (i:Nat) (h:a.length+b.length<=i):bZ (i+1) (λj=>(aA a).c j*(aA b).c (i-j))=0:=
  ((gn a).mul (gn b) (Jw _)) i ⋯
theorem Th(a b:List Int):fc (mZ a b):=fU _
theorem yd:aA [1]=1:=ag.ext λi=>by rw[fb,ag.QW];cases i<;>simp
theorem Br(c:Int):aA [c]=ag.C c:=ag.ext λi=>by rw[fb,ag.yz];cases i<;>simp
theorem Lx(a:List Int)(n:Nat):aA (AE a n)=aA a^n:=by
 induction n with
  |zero=>rw[AE,yd,aL]
  |succ n ih=>rw[AE,mv,ih,ay];grind
theorem Ly(l:List (List Int)):aA (l.foldr mZ [1])=ag.prod (l.map aA):=by
 induction l with
  |nil=>exact yd
  |cons a l ih=>rw[RF,mv,ih];rfl
theorem A5(l:List Int)(g:Nat)(d:Nat):d∣l.foldl (λg c=>ot g c.natAbs) g↔d∣g/\∀c,c∈l->(d:Int)∣c:=by
 induction l generalizing g with
  |nil=>simp
  |cons a l ih=>
   rw[yH,ih,Nat.dvd_gcd_iff];constructor
   .rintro⟨⟨h1,h2⟩,h3⟩;refine⟨h1,λc hc=>?_⟩;cases hc with
     |head=>exact dc.mpr h2
     |tail _ hc=>exact h3 c hc
   rintro⟨h1,h2⟩;exact⟨⟨h1,dc.mp (h2 a aq)⟩,λc hc=>h2 c (al _ hc)⟩
theorem gQ:d∣aB l↔∀c,c∈l->(d:Int)∣c:=by unfold aB;rw[A5];simp
theorem nQ(l:List Int)(P:Int->Prop)(h0:P 0):(∀c,c∈l->P c)↔∀i,P ((aA l).c i):=by
 constructor;.intro h i;rw[fb];by_cases hi:i<l.length;(·simp only[aD,aa hi];exact h _ (ba hi));simp only[aD,aG (show l.length<=i by lia)];exact h0
 intro h c hc;obtain⟨i,hi,rfl⟩:=List.getElem_of_mem hc;have:=h i;rw[fb]at this;simp only[aD,aa hi]at this;exact this
theorem iN:d∣aB l↔∀i,(d:Int)∣(aA l).c i:=by rw[gQ,nQ l (λc=>(d:Int)∣c) (wX _)]
theorem tL{q:Nat}{f:ag Int}:f.map (red q)=0↔∀i,(q:Int)∣f.c i:=by
 constructor;.intro h i;(have:(f.map (red q)).c i=0:=by rw[h,ag.dj]);exact gr.mp (cp.dh.mp this)
 intro h;apply ag.ext;intro i;rw[ag.dj];exact cp.dh.mpr (gr.mpr (h i))
theorem oR{l:List Int}:aB l=1↔(aA l).e9:=by
 constructor;.intro h q hq e;rw[tL]at e;have:=iN.mpr e;rw[h]at this;have:=eQ ∅ this;have:=hq.1;lia
 intro h;apply ae;intro hc;by_cases h0:aB l=0;.apply h.ne;apply ag.ext;intro i;have:=iN.mp (gv (aB l)) i;rw[h0]at this;rw[ag.dj];exact GK.mp this
 obtain⟨q,hq,hd⟩:=pY (n:=aB l) ⋯;exact h q hq (tL.mpr (iN.mp hd))
theorem qH:aB l=0↔aA l=0:=by
 constructor;.intro h;apply ag.ext;intro i;have:=iN.mp (gv (aB l)) i;rw[h]at this;rw[ag.dj];exact GK.mp this
 intro h;have:0∣aB l:=iN.mpr λi=>by rw[h,ag.dj];exact wX _
 exact Eu this
theorem ut(hg:g.e9)(h:aA l=ag.C c*g):aB l=c.natAbs:=by
 apply RD;.by_cases h0:c=0;(·rw[h0];exact Nat.dvd_zero _);(have Cb:aA l≠0:=by rw[h];exact iC.jm (λe=>h0 (ag.iu (b:=0) e)) hg.ne);have oi:aB l≠0:=λe=>Cb (qH.mp e);have h1:=iN.mp (gv (aB l));(have h2:aA l=ag.C (aB l:Int)*⟨λi=>(aA l).c i/(aB l:Int),by obtain⟨n,hn⟩:=(aA l).fin;exact⟨n,λi hi=>by rw[hn i hi];simp⟩⟩:=by apply ag.ext;intro i;rw[ag.cA];exact(tK (h1 i)).symm);obtain⟨g',ZG,_⟩:=hg.et (n:=(aB l:Int)) ⋯ (g:=ag.C c) (h:=_) (by rw[<-h2,h];grind);have:=aK (λp=>p.c 0) ZG;simp only[ag.z6,ag.cA]at this;rw[this,cP];exact⟨_,rfl⟩
 apply iN.mpr;intro i;rw[h,ag.cA];exact tJ.mpr (pH _ _)
theorem ue:Rc37.Simple l↔fc l/\(aA l).kX:=by
 constructor;.intro h;obtain⟨⟨h1,h2,h3,h4⟩,h5⟩:=h;rw[fj]at h2;rw[dz]at h4;refine⟨qu.mpr h1,⋯,oR.mp h3,h4,?_⟩;intro a b pW;(have toList:∀p,∃m,fc m/\aA m=p:=by intro p;refine⟨aN ((aX p.size).map p.c),fU _,?_⟩;rw[cQ];apply ag.ext;intro i;rw[fb,lM];split;(·rfl);exact(p.b_ i ⋯).symm);obtain⟨x,hx,rfl⟩:=toList a;obtain⟨y,hy,rfl⟩:=toList b;have:=h5 x y (gl hx) (gl hy) (lF (Th x y) (qu.mpr h1) (by rw[mv,pW]));rw[fj,fj]at this;lia
 rintro⟨h1,h2⟩;refine⟨⟨gl h1,?_,oR.mpr h2.prim,?_⟩,?_⟩;.rw[fj];have:=h2.pos;lia
 .rw[dz];exact h2.aT
 intro a b ha hb pW;have:=h2.alone (aA a) (aA b) (by rw[<-mv,pW]);rw[fj,fj];lia
theorem FU(p:ag Int):∃m,fc m/\aA m=p:=by
 refine⟨aN ((aX p.size).map p.c),fU _,?_⟩;rw[cQ];apply ag.ext;intro i;rw[fb,lM];split;.rfl
 exact(p.b_ i ⋯).symm
end Tk
end
section
namespace Tk
open Lean.Grind
theorem Bv{α:Type}{r:α->α->Prop}(ha:∀x y,r x y->¬r y x):∀{l m:List α},l.Pairwise r->m.Pairwise r->(∀x,x∈l↔x∈m)->l=m:=by
 intro l;induction l with
  |nil=>
   intro m _ _ h;cases m with
    |nil=>rfl
    |cons b m=>have:=(h b).mpr aq;cases this
  |cons a l ih=>
   intro m hl hm h;cases m with
    |nil=>have:=(h a).mp aq;cases this
    |cons b m=>rw[ie]at hl hm;(have pW:a=b:=by apply ae;intro hne;have h1:=(h a).mp aq;have h2:=(h b).mpr aq;rcases bi.mp h1 with e|e;(·exact hne e);rcases bi.mp h2 with e2|e2;(·exact hne e2.symm);exact ha _ _ (hl.1 b e2) (hm.1 a e));subst pW;congr 1;apply ih hl.2 hm.2;intro x;have hx:=h x;have uo:∀y,¬r y y:=λy hy=>ha y y hy hy;constructor;(·intro xI;rcases bi.mp (hx.mp (al _ xI))with e|e;(·subst e;exact ap (hl.1 _ xI) (uo _));exact e);intro hxm;rcases bi.mp (hx.mpr (al _ hxm))with e|e;(·subst e;exact ap (hm.1 _ hxm) (uo _));exact e
theorem xo:∀a b,eL a b=true->eL b a=false
 |_,[],h=>by simp[eL]at h
 |[],_::_,_=>by simp[eL]
 |x::a,y::b,h=>by simp only[eL,eP,decide_eq_true_eq,cR,beq_iff_eq]at h;simp only[eL,Hk,decide_eq_false_iff_not,GR,beq_eq_false_iff_ne];rcases h with h|⟨rfl,h⟩;(·exact⟨⋯,.inl ⋯⟩);exact⟨⋯,.inr (xo a b h)⟩
theorem qJ(p q:List Int)(h:dO p q=true):dO q p=false:=by
 simp only[dO,eP,decide_eq_true_eq,cR,beq_iff_eq]at h;simp only[dO,Hk,decide_eq_false_iff_not,GR,beq_eq_false_iff_ne];rcases h with h|⟨h1,h2⟩;.exact⟨⋯,.inl ⋯⟩
 exact⟨⋯,.inr (xo _ _ h2)⟩
theorem xm:∀a b c,eL a b=true->eL b c=true->eL a c=true
 |_,_,[],_,h=>by simp[eL]at h
 |_,[],_::_,h,_=>by simp[eL]at h
 |[],_::_,_::_,_,_=>by simp[eL]
 |x::a,y::b,z::c,h,k=>by simp only[eL,eP,decide_eq_true_eq,cR,beq_iff_eq]at h k ⊢;rcases h with h|⟨rfl,h⟩;(·rcases k with k|⟨rfl,k⟩;(·exact .inl ⋯);exact .inl h);rcases k with k|⟨rfl,k⟩;(·exact .inl k);exact .inr ⟨rfl,xm a b c h k⟩
theorem xn:∀a b,a.length=b.length->a≠b->eL a b=true\/eL b a=true
 |[],[],_,h=>ap rfl h
 |[],_::_,h,_=>by simp at h
 |_::_,[],h,_=>by simp at h
 |x::a,y::b,h,k=>by simp only[eL,eP,decide_eq_true_eq,cR,beq_iff_eq];by_cases Im:x=y;(·subst Im;have pW:a≠b:=λe=>k (by rw[e]);rcases xn a b (by simpa using h) pW with e|e;(·exact .inl (.inr ⟨rfl,e⟩));exact .inr (.inr ⟨rfl,e⟩));rcases oE Im with e|e;(·exact .inl (.inl e));exact .inr (.inl e)
theorem DP(p q r:List Int)(h:dO p q=true)(k:dO q r=true):dO p r=true:=by
 simp only[dO,eP,decide_eq_true_eq,cR,beq_iff_eq]at h k ⊢;rcases h with h|⟨h1,h2⟩;.rcases k with k|⟨k1,k2⟩;(·exact .inl ⋯);exact .inl ⋯
 rcases k with k|⟨k1,k2⟩;.exact .inl ⋯
 exact .inr ⟨⋯,xm _ _ _ h2 k2⟩
theorem DQ(p q:List Int)(h:p≠q):dO p q=true\/dO q p=true:=by
 simp only[dO,eP,decide_eq_true_eq,cR,beq_iff_eq];rcases fM p.length q.length with e|e|e;.exact .inl (.inl e)
 .rcases xn p.reverse q.reverse (by simp[e]) (λh2=>h (by have:=aK List.reverse h2;simpa using this))with k|k;(·exact .inl (.inr ⟨e,k⟩));exact .inr (.inr ⟨e.symm,k⟩)
 exact .inr (.inl e)
noncomputable def pp(l:List (List Int×Nat)):ag Int:=ag.prod (l.map λx=>aA x.1^x.2)
structure Parts(l:List (List Int×Nat)):Prop where
 sim:∀x,x∈l->fc x.1/\(aA x.1).kX/\1<=x.2
 order:l.Pairwise λx y=>dO x.1 y.1=true
theorem Parts.tail(h:Parts (x::l)):Parts l where
 sim y hy:=h.sim y (al _ hy)
 order:=(ie.mp h.order).2
theorem Dp{f:ag Int}(h:0<f.aT)(n:Nat):0<(f^n).aT:=by
 induction n with
  |zero=>rw[aL,<-ag.eC,ag.j4];decide
  |succ n ih=>rw[ay,ag.df];exact ku ih h
theorem Parts.ne(h:Parts (x::l))(hy:y∈l):aA x.1≠aA y.1:=by intro e;have h1:=lF (h.sim x aq).1 (h.sim y (al _ hy)).1 e;have h2:=(ie.mp h.order).1 y hy;have h3:=qJ _ _ h2;rw[h1]at h2 h3;rw[h2]at h3;cases h3
theorem Parts.Xu(h:Parts (x::l)):¬Dv (aA x.1) (pp l):=by intro k;have hx:=(h.sim x aq).2.1;obtain⟨a,ha,hd⟩:=hx.jX k;obtain⟨y,hy,rfl⟩:=ao.mp ha;exact h.ne hy (hx.eq (h.sim y (al _ hy)).2.1 (hx.sI hd))
theorem Parts.val(h:Parts l)(hx:x∈l):∃b,pp l=aA x.1^x.2*b/\¬Dv (aA x.1) b:=by
 induction l with
  |nil=>cases hx
  |cons y l ih=>have e:pp (y::l)=aA y.1^y.2*pp l:=rfl;rcases bi.mp hx with rfl|hx;(·exact⟨pp l,e,h.Xu⟩);obtain⟨b,hb,hn⟩:=ih h.tail hx;refine⟨aA y.1^y.2*b,by rw[e,hb];grind,λk=>?_⟩;have hxs:=(h.sim x (al _ hx)).2.1;rcases hxs.prime k with k1|k1;(·exact h.ne hx (hxs.eq (h.sim y aq).2.1 (hxs.sI k1)).symm);exact hn k1
theorem wK:Rc37.Apart p c l↔aA p=ag.C c*pp l/\Parts l:=by
 have e:aA ((l.map λx=>AE x.1 x.2).foldr mZ [1])=pp l:=by rw[Ly,be];unfold pp;congr 1;apply cY;intro x _;exact Lx x.1 x.2
 constructor;.rintro⟨h1,h2,h3⟩;refine⟨?_,⟨λx hx=>?_,h3⟩⟩;(·rw[<-cQ p,h1,cQ,mv,Br,e]);have:=h2 x hx;exact⟨(ue.mp this.1).1,(ue.mp this.1).2,this.2⟩
 rintro⟨h1,h2⟩;refine⟨?_,λx hx=>?_,h2.order⟩;.apply lF (fU _) (fU _);rw[cQ,cQ,mv,Br,e,h1]
 have:=h2.sim x hx;exact⟨ue.mpr ⟨this.1,this.2.1⟩,this.2.2⟩
theorem w_(hg:g.e9)(hh:h.e9)(lg:0<g.aT)(lh:0<h.aT)(hc:c≠0)(e:ag.C c*g=ag.C d*h):c=d/\g=h:=by
 have hd:d≠0:=by rintro rfl;rw[ag.jI]at e;exact iC.jm (λe=>hc (ag.iu (b:=0) e)) hg.ne (by rw[e];grind)
 have h1:c.natAbs=d.natAbs:=by obtain⟨l,_,hl⟩:=FU (ag.C c*g);rw[<-ut hg hl,ut hh (hl.trans e)]
 have h2:c*g.aT=d*h.aT:=by have:=aK ag.aT e;rwa[ag.df,ag.df,ag.j4,ag.j4]at this
 have h3:c=d:=by rcases oE hc with k|k;(·have:=Int.mul_neg_of_neg_of_pos k lg;(have:d<0:=by apply ae;intro hn;have:0<=d*h.aT:=eO ⋯ ⋯;lia);lia);have:=ku k lg;(have:0<d:=by apply ae;intro hn;have:d*h.aT<=0:=Int.mul_nonpos_of_nonpos_of_nonneg ⋯ ⋯;lia);lia
 subst h3;exact⟨rfl,iC.et (λe=>hc (ag.iu (b:=0) e)) e⟩
end Tk
end
section
namespace Tk
open Lean.Grind
theorem qv(l:List Int)(f:Int->Int)(h0:f 0=0)(i:Nat):(aA (l.map f)).c i=f ((aA l).c i):=by
 rw[fb,fb];simp only[aD,aE];cases l[i]? with
  |none=>simp[h0]
  |some a=>simp
theorem mw(n:Nat)(f:Nat->Int)(i:Nat):(aA ((aX n).map f)).c i=if i<n then f i else 0:=by rw[fb,lM]
noncomputable def sgn(p:List Int):Int:=if bm (aN p)<0 then-(aB (aN p):Int)else(aB (aN p):Int)
theorem rT(p:List Int):aV p=if sgn p=0 then[]else(aN p).map λx=>x/sgn p:=rfl
theorem pP{p:List Int}(h:aA p=0):aV p=[]:=by have h1:=(N6 p).mpr h;rw[rT];unfold sgn;rw[h1];rfl
theorem eh{p:List Int}(h:aA p≠0):∃c,c≠0/\aA p=ag.C c*aA (aV p)/\(aA (aV p)).e9/\0<(aA (aV p)).aT/\fc (aV p)/\c=sgn p:=by
 obtain⟨c,g,hc,hg,he⟩:=ag.mL h;have Ys:=ut hg (by rw[cQ,he]);have hl:bm (aN p)=c*g.aT:=by rw[dz,cQ,he,ag.df,ag.j4]
 have AA:=ag.fS hg.ne;have hcc:(aB (aN p):Int)=c:=by rw[Ys];lia
 obtain⟨s,hs,GS⟩:∃s,(s=1\/s=-1)/\0<s*g.aT:=by rcases oE AA with k|k;(·exact⟨-1,.inr rfl,⋯⟩);exact⟨1,.inl rfl,⋯⟩
 have hss:s*s=1:=by rcases hs with rfl|rfl<;>rfl
 have PX:sgn p=c*s:=by unfold sgn;rw[hcc,hl];rcases hs with rfl|rfl;(·have:0<c*g.aT:=ku hc ⋯;rw[ah ⋯];lia);have:c*g.aT<0:=CL hc ⋯;rw[aj ⋯];lia
 have hne:sgn p≠0:=by rw[PX];exact cF ⋯ (by rcases hs with rfl|rfl<;>decide)
 have hP:aA (aV p)=ag.C s*g:=by rw[rT,ah hne];apply ag.ext;intro i;rw[qv _ _ (by simp),cQ,he,ag.cA,ag.cA,PX];(have:c*g.c i=(c*s)*(s*g.c i):=by(have:(c*s)*(s*g.c i)=(s*s)*(c*g.c i):=by grind);rw[this,hss];lia);rw[this,Ee _ (by rwa[PX]at hne)]
 have zG:(ag.C s*g).e9:=by refine hg.jt ⟨ag.C s,?_⟩;(have:ag.C s*g*ag.C s=ag.C (s*s)*g:=by rw[ag.dw];grind);rw[this,hss,ag.eC];grind
 refine⟨c*s,by rw[<-PX];exact hne,?_,by rw[hP];exact zG,by rw[hP,ag.df,ag.j4];exact GS,?_,PX.symm⟩;.rw[hP,he];(have:ag.C (c*s)*(ag.C s*g)=ag.C (c*(s*s))*g:=by simp only[ag.dw];grind);rw[this,hss,JC]
 rw[bH,hP];have h1:(aV p).length=(aN p).length:=by rw[rT,ah hne,ab]
 rw[h1,mH,he];have xk:(ag.C c:ag Int)≠0:=λe=>(by lia:c≠0) (ag.iu (b:=0) e);have hs0:(ag.C s:ag Int)≠0:=λe=>(by rcases hs with rfl|rfl<;>decide:s≠0) (ag.iu (b:=0) e);have e1:=ag.bM xk hg.ne;have e2:=ag.bM hs0 hg.ne;rw[ag.fP ⋯]at e1;rw[ag.fP (by rcases hs with rfl|rfl<;>decide)]at e2;lia
theorem OU(p:List Int):fc (aV p):=by
 by_cases h:aA p=0;.rw[pP h];exact fc.nil
 obtain⟨c,_,_,_,_,h,_⟩:=eh h;exact h
theorem Dc(hc:c≠0)(hg:g.e9)(lg:0<g.aT)(h:aA p=ag.C c*g):aA (aV p)=g/\sgn p=c:=by
 have h0:aA p≠0:=by rw[h];exact iC.jm (λe=>hc (ag.iu (b:=0) e)) hg.ne
 obtain⟨d,hd,h1,h2,h3,_,h4⟩:=eh h0;have:=w_ h2 hg h3 lg hd (h1.symm.trans h);exact⟨this.2,by rw[<-h4];exact this.1⟩
theorem LV(h1:(aA p).e9)(h2:0<(aA p).aT):aA (aV p)=aA p:=(Dc (c:=1) ∅ h1 h2 (by rw[ag.eC];grind)).1
theorem uR(p:List Int):(aV p).isEmpty=true↔aA p=0:=by
 constructor;.intro h;apply ae;intro hc;obtain⟨c,_,_,h2,_,_,_⟩:=eh hc;rw[xE]at h;apply h2.ne;rw[h];exact(bP fc.nil).mpr rfl
 intro h;rw[pP h];rfl
theorem jD(p:List Int):(aA (aV p)).size=(aA p).size:=by
 by_cases h:aA p=0;.rw[pP h,h,ag.ff];exact ag.iG.mpr ((bP fc.nil).mpr rfl)
 obtain⟨c,hc,h1,h2,_,_,_⟩:=eh h;have xk:(ag.C c:ag Int)≠0:=λe=>hc (ag.iu (b:=0) e);have:=ag.bM xk h2.ne;rw[<-h1,ag.fP hc]at this;lia
theorem pK(k:Nat)(a:Int):aA (aQ k 0++[a])=ag.mono a k:=ag.ext λi=>by
 rw[fb,ag.k8];simp only[aD];rcases fM i k with h|h|h;.rw[bA (by simp[h]),ah ⋯,gz,aj h];rfl
 .rw[bK (by simp[h]),aj h];simp[h]
 rw[aG (by simp;lia),ah ⋯];rfl
theorem JS{p q:ag Int}(hp:p≠0)(hq:q≠0)(h:q.size<=p.size){a b:Int}(pW:a*p.aT=b*q.aT):(ag.C a*p-ag.mono b (p.size-q.size)*q).Lt (p.size-1):=by
 have TJ:=ag.aS.mpr hq;intro i hi;have h2:(ag.C a*p).Lt p.size:=ag.Lt.z4 _ p.b_;have h3:(ag.mono b (p.size-q.size)*q).Lt p.size:=(ag.Lt.xc _ _).mul q.b_ ⋯;by_cases hi':i=p.size-1;.have h4:=ag.iA (p:=ag.mono b (p.size-q.size)) (q:=q) (m:=p.size-q.size) (n:=q.size-1) (ag.Lt.xc _ _) (by rw[show q.size-1+1=q.size by lia];exact q.b_);rw[show p.size-q.size+(q.size-1)=p.size-1 by lia,ag.k8,aj rfl]at h4;rw[hi',ag.i8,ag.cA,h4];show a*p.aT-b*q.aT=0;lia
 rw[ag.i8,h2 i ⋯,h3 i ⋯];rfl
theorem xq(p q:List Int)(n:Nat):xZ p q (n+1)=if(aN p).isEmpty=true then some []else if(aN p).length<q.length then none else if bm q=0\/bm (aN p)%bm q≠0 then none else(xZ ((aX (aN p).length).map λi=>(aN p).getD i 0-(mZ (aQ ((aN p).length-q.length) 0++[bm (aN p)/bm q]) q).getD i 0) q n).map λr=>(aX (max r.length (aQ ((aN p).length-q.length) (0:Int)++[bm (aN p)/bm q]).length)).map λi=>r.getD i 0+(aQ ((aN p).length-q.length) (0:Int)++[bm (aN p)/bm q]).getD i 0:=rfl
theorem AK(hp:(aA p).Lt n)(ht:(aA t*aA q).Lt n):aA ((aX n).map λi=>p.getD i 0-(mZ t q).getD i 0)=aA p-aA t*aA q:=by
 apply ag.ext;intro i;rw[mw,ag.i8,<-mv];split;.rfl
 rw[mv,hp i ⋯,ht i ⋯];rfl
theorem AM(r t:List Int):aA ((aX (max r.length t.length)).map λi=>r.getD i 0+t.getD i 0)=aA r+aA t:=by
 apply ag.ext;intro i;rw[mw,ag.g9];split;.rfl
 rw[gn r i ⋯,gn t i ⋯];rfl
theorem xr(hq:fc q)(nS:aA q≠0)(kd:aA p≠0)(hlen:q.length<=(aN p).length)(wy:bm (aN p)%bm q=0):aA ((aX (aN p).length).map λi=>(aN p).getD i 0-(mZ (aQ ((aN p).length-q.length) 0++[bm (aN p)/bm q]) q).getD i 0)=aA p-ag.mono ((aA p).aT/(aA q).aT) ((aA p).size-(aA q).size)*aA q/\(aA p-ag.mono ((aA p).aT/(aA q).aT) ((aA p).size-(aA q).size)*aA q).size<(aA p).size:=by
 have TJ:=bH.mp hq;have hps:=mH p;have Zy:=ag.aS.mpr nS;rw[dz,dz,cQ]at wy ⊢;rw[hps,<-TJ]at hlen;rw[hps,<-TJ];have hlt:(aA p-ag.mono ((aA p).aT/(aA q).aT) ((aA p).size-(aA q).size)*aA q).Lt ((aA p).size-1):=by have:=JS kd nS hlen (a:=1) (b:=(aA p).aT/(aA q).aT) (by have:=eD (aA p).aT (aA q).aT;rw[wy,Int.add_zero,gX]at this;lia);(have e:(ag.C 1:ag Int)*aA p=aA p:=by rw[ag.eC];grind);rwa[e]at this
 constructor;.rw[AK,cQ,pK];(·rw[cQ];exact(aA p).b_);rw[pK];exact(ag.Lt.xc _ _).mul (aA q).b_ ⋯
 have:=ag.dS hlt;lia
theorem vt(hq:fc q)(nS:aA q≠0):∀n p r,xZ p q n=some r->aA p=aA q*aA r:=by
 intro n;induction n with
  |zero=>intro p r h;cases h
  |succ n ih=>intro p r h;rw[xq]at h;by_cases h1:(aN p).isEmpty=true;(·rw[aj h1]at h;cases h;rw[(gL p).mp h1];have:=(bP fc.nil).mpr rfl;rw[this];grind);rw[ah h1]at h;have kd:aA p≠0:=λe=>h1 ((gL p).mpr e);by_cases h2:(aN p).length<q.length;(·rw[aj h2]at h;cases h);rw[ah h2]at h;by_cases h3:bm q=0\/bm (aN p)%bm q≠0;(·rw[aj h3]at h;cases h);rw[ah h3]at h;(have h4:bm (aN p)%bm q=0:=by apply ae;intro hc;exact h3 (.inr hc));obtain⟨e1,e2⟩:=xr hq nS kd ⋯ h4;obtain⟨r',hr',rfl⟩:=b9.mp h;have:=ih _ _ hr';rw[e1]at this;rw[AM,pK,dz,dz,cQ,mH,<-bH.mp hq];grind
theorem xL(hq:fc q)(nS:aA q≠0):∀n p h,aA p=aA q*h->(aA p).size<n->∃r,xZ p q n=some r:=by
 intro n;induction n with
  |zero=>intro p h _ hs;lia
  |succ n ih=>intro p h e hs;rw[xq];by_cases h1:(aN p).isEmpty=true;(·rw[aj h1];exact⟨_,rfl⟩);rw[ah h1];have kd:aA p≠0:=λe=>h1 ((gL p).mpr e);have hle:=ag.fm ⟨h,e⟩ kd;(have hlen:q.length<=(aN p).length:=by rw[mH,<-bH.mp hq];exact hle);(have hl:(aA p).aT=(aA q).aT*h.aT:=by rw[e,ag.df]);(have wy:bm (aN p)%bm q=0:=by rw[dz,dz,cQ,hl];exact Int.mul_emod_right _ _);rw[ah ⋯,ah (by intro hc;rcases hc with hc|hc;(·rw[dz]at hc;exact ag.fS nS hc);exact hc wy)];obtain⟨e1,e2⟩:=xr hq nS kd hlen wy;(have e3:aA p-ag.mono ((aA p).aT/(aA q).aT) ((aA p).size-(aA q).size)*aA q=aA q*(h-ag.mono ((aA p).aT/(aA q).aT) ((aA p).size-(aA q).size)):=by generalize ag.mono ((aA p).aT/(aA q).aT) ((aA p).size-(aA q).size)=m;grind);obtain⟨r,hr⟩:=ih _ _ (e1.trans e3) (by rw[e1];lia);rw[hr];exact⟨_,rfl⟩
theorem BP(hq:fc q)(nS:aA q≠0)(h:tH p q=some r):aA p=aA q*aA r:=vt hq nS 40 p r h
theorem o6(hq:fc q)(nS:aA q≠0)(hs:(aA p).size<40)(e:aA p=aA q*h):∃r,tH p q=some r/\aA r=h:=by obtain⟨r,hr⟩:=xL hq nS 40 p h e hs;refine⟨r,hr,?_⟩;have:=vt hq nS 40 p r hr;exact iC.et nS (this.symm.trans e)
theorem BQ(hq:fc q)(nS:aA q≠0)(hs:(aA p).size<40):tH p q=none↔¬Dv (aA q) (aA p):=by
 constructor;.rintro h ⟨x,hx⟩;obtain⟨r,hr,_⟩:=o6 hq nS hs hx;rw[h]at hr;cases hr
 intro h;cases hr:tH p q with
  |none=>rfl
  |some r=>exact ap ⟨_,BP hq nS hr⟩ h
theorem rR(p:List Int):aA (gR p)=ag.fz (aA p):=by
 unfold gR;rw[cQ];apply ag.ext;intro i;rw[mw,ag.ol];have:(ag.cw (i+1):Int)=((i+1:Nat):Int):=rfl;rw[this];split;.rfl
 rw[gn p (i+1) ⋯];simp
structure Af(d p q:ag Int):Prop where
 prim:d.e9
 aT:0<d.aT
 dp:Dv d p
 dq:Dv d q
 Ih:∃(c:Int) (u v:ag Int),c≠0/\ag.C c*d=u*p+v*q
theorem Af.symm(h:Af d p q):Af d q p:=by obtain⟨c,u,v,hc,e⟩:=h.Ih;exact⟨h.prim,h.aT,h.dq,h.dp,c,v,u,hc,by grind⟩
theorem Af.scale(hc:c≠0)(h:Af d p r)(e:q=ag.C c*r):Af d p q:=by obtain⟨b,u,v,hb,k⟩:=h.Ih;refine⟨h.prim,h.aT,h.dp,by rw[e];exact h.dq.mul_left _,b*c,u*ag.C c,v,cF hb hc,?_⟩;rw[ag.dw];grind
theorem IB(n:Nat)(p q:List Int):ow (n+1) p q=if(aV q).isEmpty=true then aV p else if(aN p).isEmpty=true then aV q else if dB p<dB (aV q)then ow n (aV q) p else ow n (aV ((aX p.length).map λi=>p.getD i 0*bm (aV q)-(mZ (aQ (dB p-dB (aV q)) 0++[bm p]) (aV q)).getD i 0)) (aV q):=rfl
theorem zM:∀n p q,(aA p≠0\/aA q≠0)->2*((aA p).size+(aA q).size)+(if(aA p).size<(aA q).size then 1 else 0)<n->Af (aA (ow n p q)) (aA p) (aA q)/\fc (ow n p q):=by
 intro n;induction n with
  |zero=>intro p q _ h;lia
  |succ n ih=>intro p q hpq hn;rw[IB];by_cases h1:(aV q).isEmpty=true;(·rw[aj h1];have hq:=(uR q).mp h1;(have hp:aA p≠0:=by rcases hpq with h|h;(·exact h);exact ap hq h);obtain⟨c,hc,e,h2,h3,h4,_⟩:=eh hp;refine⟨⟨h2,h3,⟨ag.C c,by rw[e];grind⟩,by rw[hq];exact Dv.zero _,c,1,0,hc,by rw[e];grind⟩,h4⟩);rw[ah h1];have hq:aA q≠0:=λe=>h1 ((uR q).mpr e);obtain⟨c,hc,e,h2,h3,h4,_⟩:=eh hq;have hsz:=jD q;by_cases h5:(aN p).isEmpty=true;(·rw[aj h5];have hp:=(gL p).mp h5;refine⟨⟨h2,h3,by rw[hp];exact Dv.zero _,⟨ag.C c,by rw[e];grind⟩,c,0,1,hc,by rw[e];grind⟩,h4⟩);rw[ah h5];have hp:aA p≠0:=λe=>h5 ((gL p).mpr e);have hps:=ag.aS.mpr hp;have TJ:=ag.aS.mpr hq;rw[fj,fj,hsz];by_cases h6:(aA p).size-1<(aA q).size-1;(·rw[aj h6];have:=ih (aV q) p (.inl h2.ne) (by rw[hsz,ah ⋯];rw[aj ⋯]at hn;lia);exact⟨this.1.symm.scale hc e,this.2⟩);rw[ah h6];rw[ah ⋯]at hn;generalize hN:(aX p.length).map (λi=>p.getD i 0*bm (aV q)-(mZ (aQ ((aA p).size-1-((aA q).size-1)) 0++[bm p]) (aV q)).getD i 0)=N;have hle:=ag.dS (gn p);(have hNP:aA N=ag.C (aA (aV q)).aT*aA p-ag.mono (aA p).aT ((aA p).size-(aA (aV q)).size)*aA (aV q):=by rw[<-hN];apply ag.ext;intro i;rw[mw,ag.i8,ag.cA];(have e1:ag.mono (aA p).aT ((aA p).size-(aA (aV q)).size)=aA (aQ ((aA p).size-1-((aA q).size-1)) 0++[bm p]):=by rw[pK,dz,hsz];congr 1;lia);rw[e1,<-mv,dz];split;(·rw[gX];rfl);rename_i hi;rw[gn p i ⋯,mv];(have h7:(aA (aQ ((aA p).size-1-((aA q).size-1)) 0++[bm p])*aA (aV q)).Lt p.length:=by rw[pK];exact(ag.Lt.xc _ _).mul (aA (aV q)).b_ ⋯);rw[h7 i ⋯];lia);(have hlt:(aA N).size<(aA p).size:=by have:=ag.dS (JS (a:=(aA (aV q)).aT) (b:=(aA p).aT) hp h2.ne ⋯ (by rw[gX]));rw[hNP];lia);have hsN:=jD N;have:=ih (aV N) (aV q) (.inr h2.ne) (by rw[hsN,hsz];split<;>lia);refine⟨?_,this.2⟩;have g1:=this.1;generalize ow n (aV N) (aV q)=D at*;(have g2:Af (aA D) (aA N) (aA (aV q)):=by by_cases hN0:aA N=0;(·rw[pP hN0]at g1;rw[hN0];have:=(bP fc.nil).mpr rfl;rwa[this]at g1);obtain⟨b,hb,eb,_⟩:=eh hN0;exact(g1.symm.scale hb eb).symm);have Cb:=ag.fS h2.ne;obtain⟨b,u,v,hb,k⟩:=g2.Ih;(have g3:Af (aA D) (aA p) (aA (aV q)):=by refine⟨g2.prim,g2.aT,?_,g2.dq,b,u*ag.C (aA (aV q)).aT,v-u*ag.mono (aA p).aT ((aA p).size-(aA (aV q)).size),hb,?_⟩;(·obtain⟨x,hx⟩:=g2.dp;obtain⟨y,hy⟩:=g2.dq;(have k2:ag.C (aA (aV q)).aT*aA p=aA D*(x+ag.mono (aA p).aT ((aA p).size-(aA (aV q)).size)*y):=by generalize ag.mono (aA p).aT ((aA p).size-(aA (aV q)).size)=m at*;generalize (ag.C (aA (aV q)).aT)=cc at*;grind);obtain⟨z,_,hz⟩:=g2.prim.et Cb k2;exact⟨z,hz⟩);generalize ag.mono (aA p).aT ((aA p).size-(aA (aV q)).size)=m at*;generalize (ag.C (aA (aV q)).aT)=cc at*;grind);exact g3.scale hc e
theorem Pe(hq:fc q)(hs:(aA q).kX):∀n e p b,(aA p).size<40->aA p=aA q^e*b->¬Dv (aA q) b->e<n->gC p q n=e:=by
 intro n;induction n with
  |zero=>intro e p b _ _ _ h;lia
  |succ n ih=>
   intro e p b h1 h2 h3 h4;cases e with
    |zero=>have hn:=(BQ hq hs.ne h1).mpr (by rw[h2,aL,show(1:ag Int)*b=b by grind];exact h3);unfold gC;rw[hn]
    |succ e=>obtain⟨r,hr,hre⟩:=o6 hq hs.ne h1 (h:=aA q^e*b) (by rw[h2,ay];grind);(have wA:aA q^e*b≠0:=by refine iC.jm (iC.md hs.ne e) ?_;rintro rfl;exact h3 (Dv.zero _));(have hsz:(aA r).size<=(aA p).size:=by rw[hre];refine ag.fm ⟨aA q,by rw[h2,ay];grind⟩ ?_;rw[h2];refine iC.jm (iC.md hs.ne _) ?_;rintro rfl;exact h3 (Dv.zero _));unfold gC;rw[hr];show gC (aN r) q n+1=e+1;rw[ih e (aN r) b (by rw[cQ];lia) (by rw[cQ,hre]) h3 ⋯]
end Tk
end
section
namespace Tk
open Lean.Grind
noncomputable def zm(b:Nat)(n:Nat):Zp b:=cp.mk _ (n:Int)
theorem Hn(b m n:Nat):zm b (m+n)=zm b m+zm b n:=by unfold zm;rw[fT];rfl
theorem ub(b m n:Nat):zm b (m*n)=zm b m*zm b n:=by unfold zm;rw[cg];rfl
theorem CP(b:Nat):zm b 0=0:=rfl
theorem ua(b:Nat):zm b 1=1:=rfl
theorem oW(b n:Nat):zm b (n%b)=zm b n:=by
 unfold zm;rw[cp.g8];refine⟨-((n/b:Nat):Int),?_⟩;have:=nB n b;have h2:(n:Int)=(b:Int)*((n/b:Nat):Int)+((n%b:Nat):Int):=by exact_mod_cast this.symm
 rw[h2];grind
theorem JG(b:Nat):zm b b=0:=cp.dh.mpr (Dv.refl _)
theorem yM(h:n<b):zm b n=0↔n=0:=by
 constructor;.intro e;exact Hm h ⋯ (show zm b n=zm b 0 from e)
 rintro rfl;rfl
theorem NX(hm:m<b)(hn:n<b)(h:zm b m=zm b n):m=n:=Hm hm hn h
theorem NV(h:n<=b):zm b (b-n)=-zm b n:=by
 have:zm b (b-n+n)=0:=by rw[show b-n+n=b by lia,JG]
 rw[Hn]at this;grind
theorem NW(b n:Nat):zm b n=ag.cw n:=rfl
noncomputable def cZ(b:Nat)(l:List Nat):ag (Zp b):=⟨λi=>zm b (l.getD i 0),l.length,λi hi=>by simp[aD,aG hi,CP]⟩
theorem xw(b:Nat)(l:List Nat)(i:Nat):(cZ b l).c i=zm b (l.getD i 0):=rfl
theorem yT(b:Nat)(l:List Nat):(cZ b l).Lt l.length:=λi hi=>by rw[xw,aD,aG hi];rfl
theorem jK(b:Nat):cZ b []=0:=ag.ext λi=>by rw[ag.dj];rfl
theorem iE(b a:Nat)(l:List Nat):cZ b (a::l)=ag.C (zm b a)+ag.X*cZ b l:=ag.ext λi=>by
 rw[ag.g9];cases i with
  |zero=>rw[ag.z6,ag.mE,xw];simp only[List.getD_cons_zero];grind
  |succ i=>rw[ag.IU,ag.ng,xw,xw];simp only[List.getD_cons_succ];grind
def yE(b:Nat)(l:List Nat):Prop:=∀x,x∈l->x<b
structure sW(b:Nat)(l:List Nat):Prop where
 Ej:yE b l
 last:∀h:l≠[],l.getLast h≠0
theorem sW.nil(b:Nat):sW b []:=⟨λx hx=>ap hx jg,λh=>ap rfl h⟩
theorem sW.size(h:sW b l):(cZ b l).size=l.length:=by
 by_cases e:l=[];.subst e;rw[jK,ag.ff];rfl
 have hl:=bL.mpr e;have h1:=ag.jb (p:=cZ b l) (n:=l.length-1) (by rw[show l.length-1+1=l.length by lia];exact yT b l) (by rw[xw];have h2:=h.last e;have h3:=h.Ej _ (cC e);rw[dH]at h2 h3;simp only[aD,aa (show l.length-1<l.length by lia)];intro hz;exact h2 ((yM h3).mp hz));lia
theorem yP(l:List Nat)(a:Nat):i9 (l++[a])=if a=0 then i9 l else l++[a]:=by
 unfold i9;rw[Jx];simp only[lU,NO,gE,rG,JA];by_cases h:a=0;.simp[h]
 simp[h]
theorem Bx{α:Type}{P:List α->Prop}(h0:P [])(hs:∀l a,P l->P (l++[a]))(l:List α):P l:=by
 have:∀n l,l.length=n->P l:=by
  intro n;induction n with
   |zero=>intro l hl;rw[b5 hl];exact h0
   |succ n ih=>intro l hl;(have hne:l≠[]:=by rintro rfl;simp at hl);rw[<-jG hne];exact hs _ _ (ih _ (by simp[hl]))
 exact this _ l rfl
theorem pM(b:Nat)(l:List Nat):cZ b (i9 l)=cZ b l:=by
 refine Bx (P:=λl=>cZ b (i9 l)=cZ b l) rfl ?_ l;intro l a ih;rw[yP];by_cases h:a=0
 .rw[aj h,ih];apply ag.ext;intro i;simp only[xw,aD];by_cases hi:i<l.length;(·rw[bA hi]);rw[bK ⋯,aG (show l.length<=i by lia)];cases hk:i-l.length with
   |zero=>simp[h]
   |succ k=>simp
 rw[ah h]
theorem rP(h:yE b l):sW b (i9 l):=by
 revert h;refine Bx (P:=λl=>yE b l->sW b (i9 l)) ?_ ?_ l;.intro _;exact sW.nil b
 intro l a ih h;rw[yP];by_cases e:a=0;.rw[aj e];exact ih λx hx=>h x (bq _ hx)
 rw[ah e];exact⟨h,λ_=>by simp[e]⟩
theorem z9(hb:0<b):∀{p q:List Nat},yE b p->yE b q->yE b (lB b p q)
 |[],q,_,hq=>by simpa[lB]using hq
 |x::p,[],hp,_=>by simpa[lB]using hp
 |x::p,y::q,hp,hq=>by simp only[lB];intro z hz;rcases bi.mp hz with rfl|hz;(·exact ja _ hb);exact z9 hb (λw hw=>hp w (al _ hw)) (λw hw=>hq w (al _ hw)) z hz
theorem yU(b:Nat):∀p q,cZ b (lB b p q)=cZ b p+cZ b q
 |[],q=>by simp only[lB,jK];grind
 |x::p,[]=>by simp only[lB,jK];grind
 |x::p,y::q=>by simp only[lB,iE,yU b p q,oW,Hn,ag.Cv];grind
theorem CS(b:Nat)(l:List Nat)(f:Nat->Nat)(k:Zp b)(h:∀x,x∈l->zm b (f x)=k*zm b x):cZ b (l.map f)=ag.C k*cZ b l:=by
 induction l with
  |nil=>simp only[cK,jK];grind
  |cons a l ih=>simp only[aR,iE];rw[h a aq,ih λx hx=>h x (al _ hx),ag.dw];grind
theorem Fj(hb:0<b)(q:List Nat):∀p,yE b (p.foldr (λc r=>lB b (q.map λx=>c*x%b) (0::r)) [])/\cZ b (p.foldr (λc r=>lB b (q.map λx=>c*x%b) (0::r)) [])=cZ b p*cZ b q:=by
 intro p;induction p with
  |nil=>refine⟨λx hx=>by simp at hx,?_⟩;simp only[List.foldr_nil,jK];grind
  |cons c p ih=>rw[RF];constructor;(·apply z9 hb;(·intro x hx;obtain⟨y,_,rfl⟩:=ao.mp hx;exact ja _ hb);intro x hx;rcases bi.mp hx with rfl|hx;(·exact hb);exact ih.1 x hx);rw[yU,CS b q _ (zm b c) (λx _=>by rw[oW,ub]),iE,ih.2,iE,CP,ag.jI];grind
theorem Dm(hb:0<b)(p q:List Nat):sW b (jf b p q):=rP (Fj hb q p).1
theorem yR(hb:0<b)(p q:List Nat):cZ b (jf b p q)=cZ b p*cZ b q:=by unfold jf;rw[pM,(Fj hb q p).2]
theorem BW(hb:0<b)(hp:yE b p):sW b (m7 b p q):=rP (z9 hb hp (λx hx=>by obtain⟨y,_,rfl⟩:=ao.mp hx;exact ja _ hb))
theorem yS(hb:0<b)(hq:yE b q):cZ b (m7 b p q)=cZ b p-cZ b q:=by unfold m7;rw[pM,yU,CS b q _ (-1) (λx hx=>by rw[oW,NV (by have:=hq x hx;lia)];grind),ag.Rr,ag.eC];grind
noncomputable def hv(b:Nat)(p:List Nat):ag (Zp b):=cZ b p.reverse
theorem EL(b:Nat)(l:List Nat)(a:Nat):cZ b (l++[a])=cZ b l+ag.C (zm b a)*ag.X^l.length:=by
 induction l with
  |nil=>simp only[gE,iE,jK,cV,aL];grind
  |cons c l ih=>rw[kF,iE,ih,iE,a7,ay];grind
theorem vd(b a:Nat)(l:List Nat):hv b (a::l)=ag.C (zm b a)*ag.X^l.length+hv b l:=by unfold hv;rw[lU,EL,kM];grind
theorem sN(b c:Nat):∀p f,(ic b c p f).length=p.length
 |p,[]=>by cases p<;>simp[ic]
 |[],_::_=>by simp[ic]
 |x::p,y::f=>by simp[ic,sN b c p f]
theorem BY(hb:0<b)(c:Nat):∀{p f:List Nat},yE b p->yE b (ic b c p f)
 |p,[],h=>by cases p<;>simpa[ic]using h
 |[],_::_,h=>by simpa[ic]using h
 |x::p,y::f,h=>by simp only[ic];intro z hz;rcases bi.mp hz with rfl|hz;(·exact ja _ hb);exact BY hb c (λw hw=>h w (al _ hw)) z hz
theorem FD(hb:0<b)(c:Nat):∀p f,f.length<=p.length->hv b (ic b c p f)=hv b p-ag.C (zm b c)*ag.X^(p.length-f.length)*hv b f
 |p,[],_=>by(have:ic b c p []=p:=by cases p<;>simp[ic]);have e:hv b []=0:=jK b;rw[this,e];grind
 |[],_::_,h=>by simp at h
 |x::p,y::f,h=>by simp only[a7]at h;simp only[ic];(have hm:zm b ((x+(b-c*y%b))%b)=zm b x-zm b c*zm b y:=by have:=ja (c*y) hb;rw[oW,Hn,NV ⋯,oW,ub];grind);rw[vd,vd,vd,sN,FD hb c p f ⋯,hm,ag.Rp,ag.dw];simp only[a7];(have e:(ag.X:ag (Zp b))^p.length=ag.X^(p.length-f.length)*ag.X^f.length:=by rw[<-iJ];congr 1;lia);rw[show p.length+1-(f.length+1)=p.length-f.length by lia,e];grind
theorem DG(hb:0<b)(hf:f.length=n):∀k q p,yE b q->yE b p->p.length<=n+k->∃q' p',Rc37.divideM b f n k q p=(q',p')/\yE b q'/\yE b p'/\p'.length<=n/\(ag.X^n+hv b f)*(ag.X^(p.length-n)*cZ b q)+hv b p=(ag.X^n+hv b f)*cZ b q'+hv b p':=by
 intro k;induction k with
  |zero=>intro q p hq hp hl;refine⟨q,p,rfl,hq,hp,⋯,?_⟩;rw[show p.length-n=0 by lia,aL];grind
  |succ k ih=>
   intro q p hq hp hl;unfold Rc37.divideM;by_cases h:p.length<=n;(·rw[aj h];refine⟨q,p,rfl,hq,hp,h,?_⟩;rw[show p.length-n=0 by lia,aL];grind);rw[ah h];cases p with
    |nil=>simp at h
    |cons c r=>simp only[a7]at h hl;obtain⟨q',p',h1,h2,h3,h4,h5⟩:=ih (c::q) (ic b c r f) (λx hx=>by rcases bi.mp hx with rfl|hx;(·exact hp x aq);exact hq x hx) (BY hb c λx hx=>hp x (al _ hx)) (by rw[sN];lia);refine⟨q',p',h1,h2,h3,h4,?_⟩;rw[<-h5,sN,FD hb c r f ⋯,vd,iE,a7,hf];(have e1:(ag.X:ag (Zp b))^(r.length+1-n)=ag.X^(r.length-n)*ag.X:=by rw[show r.length+1-n=(r.length-n)+1 by lia,ay]);(have e2:(ag.X:ag (Zp b))^r.length=ag.X^(r.length-n)*ag.X^n:=by rw[<-iJ];congr 1;lia);rw[e1,e2];grind
theorem z7(hb:0<b)(hf:sW b f)(hm:(cZ b f).bD n)(h1:(1:Zp b)≠0)(hp:yE b p):sW b (ga b f p).1/\sW b (ga b f p).2/\(cZ b (ga b f p).2).Lt n/\cZ b p=cZ b f*cZ b (ga b f p).1+cZ b (ga b f p).2:=by
 have hs:=ag.jb hm.lt (by rw[hm.one];exact h1);have hl:f.length=n+1:=by rw[<-hf.size,hs]
 have rE:1<b:=by apply ae;intro hc;apply h1;have:b=1:=⋯;subst this;exact JG 1
 obtain⟨g,hg⟩:∃g,f.reverse=1::g:=by
  cases hr:f.reverse with
   |nil=>have:=aK fR hr;simp only[kM,cV]at this;lia
   |cons a g=>refine⟨g,?_⟩;(have A1:f=g.reverse++[a]:=by have:=aK List.reverse hr;simpa using this);(have hlen:g.length=n:=by have:=aK fR hr;simp at this;lia);have hc:=hm.one;rw[A1,EL,ag.g9,(yT b g.reverse) n (by simp[hlen]),ag.cA,ag.wI,aj (by simp[hlen])]at hc;have ha:=hf.Ej a (by rw[A1];simp);have:=NX ha rE (by rw[ua];grind);rw[this]
 have Iv:g.length=n:=by have:=aK fR hg;simp at this;lia
 have hF:cZ b f=ag.X^n+hv b g:=by(have:cZ b f=hv b (1::g):=by unfold hv;rw[<-hg,Hf]);rw[this,vd,Iv,ua,ag.eC];grind
 obtain⟨q',p',e1,e2,e3,e4,e5⟩:=DG hb Iv p.length [] p.reverse (λx hx=>by simp at hx) (λx hx=>hp x (jh.mp hx)) (by simp);have e6:ga b f p=(i9 q',i9 p'.reverse):=by unfold ga;simp only[hg,List.drop_one,List.tail_cons,hl,lD,e1]
 rw[e6];refine⟨rP e2,rP λx hx=>e3 x (jh.mp hx),?_,?_⟩;.show(cZ b (i9 p'.reverse)).Lt n;rw[pM];exact(yT b _).mono (by simp;exact e4)
 show cZ b p=cZ b f*cZ b (i9 q')+cZ b (i9 p'.reverse);rw[pM,pM,hF];have:hv b p.reverse=cZ b p:=by unfold hv;rw[Hf]
 rw[this,jK]at e5;have h2:(ag.X^n+hv b g)*(ag.X^(p.reverse.length-n)*0)+cZ b p=cZ b p:=by grind
 rwa[h2]at e5
end Tk
end
section
namespace Tk
open Lean.Grind
theorem E6{A:Type}[bI A](x:A)(e:Nat):x^e=if e%2=1 then x^(e/2)*x^(e/2)*x else x^(e/2)*x^(e/2):=by
 split;.rw[<-iJ,<-ay];congr 1;lia
 rw[<-iJ];congr 1;lia
theorem LW(hb:1<b)(a:Nat):∀k e,e<2^k->zm b (D7 b k e a)=zm b a^e/\D7 b k e a<b:=by
 intro k;induction k with
  |zero=>intro e he;(have:e=0:=by simp at he;exact he);subst this;exact⟨by rw[aL];rfl,hb⟩
  |succ k ih=>intro e he;unfold D7;by_cases h0:e=0;(·rw[aj h0];subst h0;exact⟨by rw[aL];rfl,hb⟩);rw[ah h0];obtain⟨h1,h2⟩:=ih (e/2) (by rw[cv]at he;lia);have h3:=E6 (zm b a) e;dsimp only;by_cases ho:e%2=1;(·rw[aj ho]at h3 ⊢;refine⟨?_,ja _ ⋯⟩;rw[oW,ub,oW,ub,h1,h3]);rw[ah ho]at h3 ⊢;refine⟨?_,ja _ ⋯⟩;rw[oW,ub,h1,h3]
structure El(b:Nat):Prop where
 pr:Pr b
 lt:b<2^2300
theorem El.pos(h:El b):0<b:=by have:=h.pr.1;lia
theorem uh(hb:El b)(hp:sW b p)(h0:p≠[]):sW b (kg b p)/\(cZ b (kg b p)).bD (p.length-1)/\∃c,c≠0/\cZ b (kg b p)=ag.C c*cZ b p:=by
 have:=cn hb.pr;have hb2:=hb.pr.1;have vf:p.getLastD 1=p.getLast h0:=by rw[List.getLastD_eq_getLast?,List.getLast?_eq_some_getLast h0];rfl
 have hl:=bL.mpr h0;generalize ha:p.getLastD 1=a at*;have hal:a≠0:=by rw[vf];exact hp.last h0
 have pW:a<b:=by rw[vf];exact hp.Ej _ (cC h0)
 have hz:zm b a≠0:=λe=>hal ((yM pW).mp e);obtain⟨h1,h2⟩:=LW (b:=b) ⋯ a 2300 (b-2) (by have:=hb.lt;lia);generalize hc:D7 b 2300 (b-2) a=c at*;have Iu:zm b c*zm b a=1:=by have h3:=wD hb.pr (zm b a);rw[h1];apply iC.et hz;(have e:zm b a^b=zm b a^(b-2)*zm b a*zm b a:=by rw[<-ay,<-ay];congr 1;lia);rw[e]at h3;grind
 have he:kg b p=p.map λx=>c*x%b:=by unfold kg;simp only[ha,hc]
 have hM:cZ b (kg b p)=ag.C (zm b c)*cZ b p:=by rw[he];exact CS b p _ (zm b c) λx _=>by rw[oW,ub]
 have xk:zm b c≠0:=by intro e;apply nU.ej (R:=Zp b);rw[<-Iu,e];grind
 have hca:c*a%b=1:=by apply NX (ja _ ⋯) (by lia:1<b);rw[oW,ub,Iu,ua]
 refine⟨⟨?_,?_⟩,⟨?_,?_⟩,zm b c,xk,hM⟩;.rw[he];intro x hx;obtain⟨y,_,rfl⟩:=ao.mp hx;exact ja _ ⋯
 .rw[he];intro h;rw[xF,<-vf,hca];decide
 .rw[hM];exact(ag.Lt.z4 _ (yT b p)).mono ⋯
 rw[hM,ag.cA,xw];have:p.getD (p.length-1) 0=a:=by rw[vf,dH];simp only[aD,aa (show p.length-1<p.length by lia)];rfl
 rw[this,Iu]
structure Jg{K:Type}[bI K](d p q:ag K):Prop where
 mon:∃n,d.bD n
 dp:Dv d p
 dq:Dv d q
 Ih:∃u v,d=u*p+v*q
theorem l_(hb:El b)(hf:sW b f)(hm:(cZ b f).bD n)(hp:yE b p):sW b (jp b f p)/\(cZ b (jp b f p)).Lt n/\∃q,cZ b p=cZ b f*q+cZ b (jp b f p):=by have:=cn hb.pr;obtain⟨h1,h2,h3,h4⟩:=z7 hb.pos hf hm nU.ej hp;exact⟨h2,h3,_,h4⟩
theorem Cf(hb:El b):∀k p q,sW b p->sW b q->(p≠[]\/q≠[])->q.length<k->sW b (jJ b k p q)/\Jg (cZ b (jJ b k p q)) (cZ b p) (cZ b q):=by
 have:=cn hb.pr;intro k;induction k with
  |zero=>intro p q _ _ _ h;lia
  |succ k ih=>intro p q hp hq h0 hl;unfold jJ;by_cases he:q.isEmpty=true;(·rw[aj he];rw[xE]at he;subst he;(have kd:p≠[]:=by rcases h0 with h|h;(·exact h);exact ap rfl h);obtain⟨h1,h2,c,hc,h3⟩:=uh hb hp kd;refine⟨h1,⟨_,h2⟩,?_,by rw[jK];exact Dv.zero _,ag.C c,0,by rw[h3];grind⟩;obtain⟨d,_,hd⟩:=ag.lO hc;exact⟨ag.C d,by rw[h3];grind⟩);rw[ah he];have nS:q≠[]:=λe=>he (by rw[e];rfl);obtain⟨h1,h2,c,hc,h3⟩:=uh hb hq nS;obtain⟨h4,h5,x,h6⟩:=l_ hb h1 h2 hp.Ej;(have hlen:(jp b (kg b q) p).length<q.length:=by have:=ag.dS h5;rw[h4.size]at this;have:=bL.mpr nS;lia);obtain⟨g1,g2⟩:=ih q (jp b (kg b q) p) hq h4 (.inl nS) ⋯;refine⟨g1,g2.mon,?_,g2.dp,?_⟩;(·rw[h6,h3];exact((g2.dp.mul_left _).mul_right _).add g2.dq);obtain⟨u,v,e⟩:=g2.Ih;refine⟨v,u-v*ag.C c*x,?_⟩;rw[h3]at h6;grind
theorem BL(hb:El b)(hf:sW b f)(hm:(cZ b f).bD n)(hn:1<=n)(ha:yE b a):∀k e,e<2^k->sW b (qm b f k e a)/\(cZ b (qm b f k e a)).Lt n/\cp.mk (cZ b f) (cZ b (qm b f k e a))=cp.mk (cZ b f) (cZ b a)^e:=by
 have:=cn hb.pr;have hb2:=hb.pr.1;have h1:sW b [1]/\(cZ b [1]).Lt n/\cp.mk (cZ b f) (cZ b [1])=cp.mk (cZ b f) (cZ b a)^0:=by refine⟨⟨λx hx=>by simp at hx;lia,λ_=>by simp⟩,(yT b [1]).mono (by simpa using hn),?_⟩;rw[aL,iE,jK,ua,ag.eC];(have:(1:ag (Zp b))+ag.X*0=1:=by grind);rw[this];rfl
 have rest:∀p,yE b p->cp.mk (cZ b f) (cZ b (jp b f p))=cp.mk (cZ b f) (cZ b p):=by intro p hp;obtain⟨_,_,q,hq⟩:=l_ hb hf hm hp;rw[cp.g8];exact⟨-q,by grind⟩
 intro k;induction k with
  |zero=>intro e he;(have:e=0:=by simp at he;exact he);subst this;exact h1
  |succ k ih=>intro e he;unfold qm;by_cases h0:e=0;(·rw[aj h0];subst h0;exact h1);rw[ah h0];obtain⟨i1,i2,i3⟩:=ih (e/2) (by rw[cv]at he;lia);have h3:=E6 (cp.mk (cZ b f) (cZ b a)) e;dsimp only;generalize qm b f k (e/2) a=h at*;have j1:=Dm hb.pos h h;have j2:=l_ hb hf hm j1.Ej;have j3:=rest _ j1.Ej;rw[yR hb.pos,cp.o8,i3]at j3;by_cases ho:e%2=1;(·rw[aj ho]at h3 ⊢;have k1:=Dm hb.pos (jp b f (jf b h h)) a;have k2:=l_ hb hf hm k1.Ej;have k3:=rest _ k1.Ej;rw[yR hb.pos,cp.o8,j3]at k3;exact⟨k2.1,k2.2.1,by rw[k3,h3]⟩);rw[ah ho]at h3 ⊢;exact⟨j2.1,j2.2.1,by rw[j3,h3]⟩
end Tk
end
section
namespace Tk
open Lean.Grind
open ag (ir jn pC prod)
structure Good(b:Nat)(f:List Nat):Prop where
 ok:sW b f
 mon:(cZ b f).bD (f.length-1)
 Sn:(cZ b f).pC
 len:f.length<=17
 pos:1<=f.length
theorem Good.of(hb:El b)(h1:sW b f)(h2:(cZ b f).bD n)(h3:(cZ b f).pC)(h4:f.length<=17):Good b f:=by have:=cn hb.pr;have:=h2.size;rw[h1.size]at this;exact⟨h1,by rw[this];exact h2,h3,h4,⋯⟩
theorem okX(hb:El b):sW b [0,1]/\cZ b [0,1]=ag.X:=by have:=hb.pr.1;refine⟨⟨λx hx=>by simp at hx;lia,λ_=>by simp⟩,?_⟩;rw[iE,iE,jK,CP,ua,ag.jI,ag.eC];grind
theorem Cg(hb:El b)(hf:Good b f)(ht:sW b t)(hl:t.length<40):Good b (jJ b 40 f t)/\Jg (cZ b (jJ b 40 f t)) (cZ b f) (cZ b t):=by
 have:=cn hb.pr;have Dx:f≠[]:=by intro e;have:=hf.pos;rw[e]at this;simp at this
 obtain⟨h1,h2⟩:=Cf hb 40 f t hf.ok ht (.inl Dx) hl;obtain⟨n,hn⟩:=h2.mon;have hs:=ag.fm h2.dp hf.mon.ne;rw[h1.size,hf.ok.size]at hs;exact⟨Good.of hb h1 hn (hf.Sn.jt h2.dp) (by have:=hf.len;lia),h2⟩
theorem E5(hb:El b)(hf:Good b f)(hg:Good b g)(hd:Dv (cZ b g) (cZ b f)):Good b (ga b g f).1/\cZ b f=cZ b g*cZ b (ga b g f).1:=by
 have:=cn hb.pr;obtain⟨h1,h2,h3,h4⟩:=z7 hb.pos hg.ok hg.mon nU.ej hf.ok.Ej;obtain⟨q,hq⟩:=hd;have h5:cZ b g*(q-cZ b (ga b g f).1)=cZ b (ga b g f).2:=by grind
 have h6:=hg.mon.o7 (by rw[h5];exact h3);have e:cZ b f=cZ b g*cZ b (ga b g f).1:=by rw[h6]at h5;rw[h4,<-h5];grind
 have hm:=jn.Pg hg.mon.mon (by rw[<-e];exact hf.mon.mon);have hs:=ag.fm ⟨cZ b g,by rw[e];grind⟩ hf.mon.ne (p:=cZ b (ga b g f).1);rw[h1.size,hf.ok.size]at hs;exact⟨Good.of hb h1 hm (hf.Sn.jt ⟨cZ b g,by rw[e];grind⟩) (by have:=hf.len;lia),e⟩
theorem rZ{K:Type}[bI K][nU K]{f g h P:ag K}(hs:f.pC)(e:f=g*h)(hP:P.ir)(h1:Dv P g)(h2:Dv P h):False:=by apply hs P hP;rw[e];exact h1.mul h2
theorem len_one(hb:El b)(hg:Good b g)(h:g.length<=1):cZ b g=1:=by have h1:=hg.mon;have h2:=hg.pos;rw[show g.length-1=0 by lia]at h1;exact h1.zero_eq
structure D0(b:Nat)(f:List Nat)(d:Nat):Prop where
 eq:∀P:ag (Zp b),P.ir->P.jn->Dv P (cZ b f)->P.bD d
theorem A6(hb:El b):∀k d h f,Good b f->yE b h->1<=d->d+k<=60->1<=k->f.length-1<2*(d+k-1)->(∀P,P.ir->P.jn->Dv P (cZ b f)->d+1<=P.size)->cp.mk (cZ b f) (cZ b h)=cp.mk (cZ b f) (ag.X^(b^(d-1)))->prod ((ux b k d h f).map λx=>cZ b x.1)=cZ b f/\∀x,x∈ux b k d h f->Good b x.1/\1<x.1.length/\1<=x.2/\D0 b x.1 x.2:=by
 have mj:=cn hb.pr;intro k;induction k with
  |zero=>intro d h f _ _ _ _ hk;lia
  |succ k ih=>intro d h f hf hh hd hdk _ hlen A2 hx;unfold ux;by_cases h1:f.length<=1;(·rw[aj h1];refine⟨?_,λx hx=>by cases hx⟩;rw[len_one hb hf h1];rfl);rw[ah h1];by_cases h2:f.length-1<2*d;(·rw[aj h2];have hsz:=hf.ok.size;(have hfi:(cZ b f).ir:=by refine⟨⋯,λx y Im=>?_⟩;apply ae;intro hc;have Dx:=hf.mon.ne;(have tm:x≠0:=by rintro rfl;apply Dx;rw[Im];grind);(have Mj:y≠0:=by rintro rfl;apply Dx;rw[Im];grind);have hxs:=ag.aS.mpr tm;have hys:=ag.aS.mpr Mj;have hm:=ag.bM tm Mj;rw[<-Im]at hm;obtain⟨P,hP,mP,dP⟩:=ag.kQ (f:=x) ⋯;obtain⟨Q,hQ,mQ,dQ⟩:=ag.kQ (f:=y) ⋯;have e1:=A2 P hP mP (by rw[Im];exact dP.mul_right _);have e2:=A2 Q hQ mQ (by rw[Im];exact dQ.mul_left _);have e3:=ag.fm dP tm;have e4:=ag.fm dQ Mj;lia);refine⟨by simp only[aR,cK,prod];grind,?_⟩;intro x hx;simp only[a6]at hx;subst hx;refine⟨hf,by show 1<f.length;lia,by show 1<=f.length-1;lia,⟨λP hP mP dP=>?_⟩⟩;rw[hP.eq hfi mP hf.mon.mon dP];exact hf.mon);rw[ah h2];have hn:1<=f.length-1:=⋯;obtain⟨r1,r2,r3,r4⟩:=l_ hb hf.ok hf.mon hh;(have hr:cp.mk (cZ b f) (cZ b (jp b f h))=cp.mk (cZ b f) (cZ b h):=by rw[cp.g8];exact⟨-r3,by grind⟩);obtain⟨p1,p2,p3⟩:=BL hb hf.ok hf.mon hn r1.Ej 2300 b hb.lt;dsimp only;generalize hH:qm b f 2300 b (jp b f h)=H at*;(have hHX:cp.mk (cZ b f) (cZ b H)=cp.mk (cZ b f) (ag.X^(b^d)):=by rw[p3,hr,hx,<-cp.mh,<-iI,<-cv];congr 3;lia);obtain⟨oX,eX⟩:=okX hb;have t1:=BW hb.pos (q:=[0,1]) p1.Ej;(have t2:cZ b (m7 b H [0,1])=cZ b H-ag.X:=by rw[yS hb.pos oX.Ej,eX]);generalize hT:m7 b H [0,1]=T at*;(have tl:T.length<40:=by(have hlt:(cZ b T).Lt 18:=by rw[t2];exact(p2.mono (by have:=hf.len;lia)).sub (ag.Lt.X.mono ⋯));have:=ag.dS hlt;rw[t1.size]at this;lia);obtain⟨gg,gI⟩:=Cg hb hf t1 tl;generalize hG:jJ b 40 f T=g at*;(have tz:∀P,P.ir->P.jn->Dv P (cZ b f)->(Dv P (cZ b T)↔P.bD d):=by intro P hP mP dP;have hsz:=A2 P hP mP dP;(have e1:Dv P (cZ b T)↔Dv P (ag.X^(b^d)-ag.X):=by have e2:=dP.trans (cp.g8.mp hHX);constructor;(·intro k;(have:ag.X^(b^d)-ag.X=cZ b T-(cZ b H-ag.X^(b^d)):=by rw[t2];grind);rw[this];exact k.sub e2);intro k;(have:cZ b T=(ag.X^(b^d)-ag.X)+(cZ b H-ag.X^(b^d)):=by rw[t2];grind);rw[this];exact k.add e2);rw[e1];constructor;(·intro k;rcases ag.Fv hb.pr hP mP k with e|e;(·have:P.size-1=d:=⋯;have hm:=mP;unfold ag.jn at hm;rwa[this]at hm);lia);intro k;have:=ag.SF hb.pr hP k (cp.mk P ag.X);rwa[<-cp.mh,cp.g8]at this);(have yu:∀P,P.ir->P.jn->Dv P (cZ b f)->(Dv P (cZ b g)↔P.bD d):=by intro P hP mP dP;rw[<-tz P hP mP dP];constructor;(·intro k;exact k.trans gI.dq);intro k;obtain⟨u,v,w⟩:=gI.Ih;rw[w];exact(dP.mul_left _).add (k.mul_left _));by_cases h3:g.length<=1;(·rw[aj h3];have g1:=len_one hb gg h3;apply ih (d+1) H f hf p1.Ej ⋯ ⋯ ⋯ ⋯;(·intro P hP mP dP;have e1:=A2 P hP mP dP;apply ae;intro hc;(have e2:P.bD d:=by have hm:=mP;unfold ag.jn at hm;rwa[show P.size-1=d by lia]at hm);have e3:=(yu P hP mP dP).mpr e2;rw[g1]at e3;exact hP.oN e3);rw[hHX];rfl);rw[ah h3];obtain⟨q1,q2⟩:=E5 hb hf gg gI.dp;generalize hQ:(ga b g f).1=Q at*;(have RO:Q.length<=f.length:=by have:=ag.fm ⟨cZ b g,by rw[q2];grind⟩ hf.mon.ne (p:=cZ b Q);rwa[q1.ok.size,hf.ok.size]at this);obtain⟨i1,i2⟩:=ih (d+1) H Q q1 p1.Ej ⋯ ⋯ ⋯ ⋯ (by intro P hP mP dP;(have dPf:Dv P (cZ b f):=by rw[q2];exact dP.mul_left _);have e1:=A2 P hP mP dPf;apply ae;intro hc;(have e2:P.bD d:=by have hm:=mP;unfold ag.jn at hm;rwa[show P.size-1=d by lia]at hm);exact rZ hf.Sn q2 hP ((yu P hP mP dPf).mpr e2) dP) (by rw[cp.g8];have:=cp.g8.mp hHX;refine Dv.trans ⟨cZ b g,?_⟩ this;rw[q2];grind);constructor;(·rw[aR,prod,i1,q2]);intro x hx;rcases bi.mp hx with rfl|hx;(·refine⟨gg,by show 1<g.length;lia,hd,⟨λP hP mP dP=>?_⟩⟩;exact(yu P hP mP (dP.trans gI.dp)).mp dP);exact i2 x hx
def Sq(b d:Nat)(P:ag (Zp b))(a:Nat):Prop:=Dv P ((ag.X+ag.C (ag.cw a))^((b^d-1)/2)-1)
theorem half_lt(hb:El b)(hd:d<=16):(b^d-1)/2<2^40000:=by
 have h1:=nX (bV hb.lt) d;have h2:(2^2300)^d<=2^40000:=by rw[<-Nat.pow_mul];exact bg ∅ ⋯
 have h3:0<2^40000:=kr ∅;generalize 2^40000=X at*;lia
theorem Fb(hb:El b)(hf:Good b f)(hl:1<f.length)(iV:D0 b f d)(abL:∀P Q,P.ir->P.jn->Dv P (cZ b f)->Q.ir->Q.jn->Dv Q (cZ b f)->P=Q):(cZ b f).ir:=by
 have mj:=cn hb.pr;obtain⟨l,h1,h2⟩:=ag.Dz hf.mon.mon;have hn:=pC.nodup h1 (by rw[<-h2];exact hf.Sn);cases l with
  |nil=>exfalso;have:=hf.ok.size;rw[h2]at this;have e:(prod ([]:List (ag (Zp b)))).size=1:=ag.fP nU.ej;lia
  |cons P l=>
   cases l with
    |nil=>rw[h2];(have:prod [P]=P:=by simp only[prod];grind);rw[this];exact(h1 P aq).1
    |cons Q l=>exfalso;have hP:=h1 P aq;have hQ:=h1 Q (al _ aq);have:=abL P Q hP.1 hP.2 (by rw[h2];exact ag.gy aq) hQ.1 hQ.2 (by rw[h2];exact ag.gy (al _ aq));rw[bO]at hn;exact hn.1 (by rw[this];exact aq)
theorem AS(hb:El b)(ho:b%2=1)(tD:5000<b)(hd:1<=d):∀k a f,Good b f->1<f.length->D0 b f d->a+k=b->(∀P Q,P.ir->P.jn->Dv P (cZ b f)->Q.ir->Q.jn->Dv Q (cZ b f)->∀a',a'<a->(Sq b d P a'↔Sq b d Q a'))->prod ((mS b d k a f).map (cZ b))=cZ b f/\∀x,x∈mS b d k a f->sW b x/\(cZ b x).ir/\(cZ b x).jn:=by
 have mj:=cn hb.pr;intro k;induction k with
  |zero=>intro a f hf hl iV pW Ca;(have hi:(cZ b f).ir:=by apply Fb hb hf hl iV;intro P Q hP mP dP hQ mQ dQ;apply ae;intro hne;have hPd:=iV.eq P hP mP dP;have hQd:=iV.eq Q hQ mQ dQ;(have h8:d<=8:=by have:=ag.fm ((hP.wE hQ mP mQ hne).HX dP dQ) hf.mon.ne;rw[hf.ok.size,(hPd.mul hQd).size]at this;have:=hf.len;lia);obtain⟨n,hn,hnot⟩:=ag.Hu hb.pr ho tD hd h8 hP hQ hPd hQd hne;exact hnot (Ca P Q hP mP dP hQ mQ dQ n ⋯));unfold mS;refine⟨by simp only[aR,cK,prod];grind,?_⟩;intro x hx;simp only[a6]at hx;subst hx;exact⟨hf.ok,hi,hf.mon.mon⟩
  |succ k ih=>intro a f hf hl iV pW Ca;unfold mS;by_cases h1:f.length<=d+1;(·rw[aj h1,ah ⋯];(have hi:(cZ b f).ir:=by apply Fb hb hf hl iV;intro P Q hP mP dP hQ mQ dQ;have hPd:=iV.eq P hP mP dP;have hQd:=iV.eq Q hQ mQ dQ;have e1:=ag.vp mP hf.mon.mon dP (by rw[hf.ok.size,hPd.size];exact h1);have e2:=ag.vp mQ hf.mon.mon dQ (by rw[hf.ok.size,hQd.size];exact h1);rw[e1,e2]);refine⟨by simp only[aR,cK,prod];grind,?_⟩;intro x hx;simp only[a6]at hx;subst hx;exact⟨hf.ok,hi,hf.mon.mon⟩);rw[ah h1];have hn:1<=f.length-1:=⋯;(have hA:yE b [a,1]:=λx hx=>by simp at hx;lia);obtain⟨r1,r2,r3,r4⟩:=l_ hb hf.ok hf.mon hA;(have agp:d<=16:=by have:=hf.len;lia);obtain⟨p1,p2,p3⟩:=BL hb hf.ok hf.mon hn r1.Ej 40000 ((b^d-1)/2) (half_lt hb agp);(have eA:cZ b [a,1]=ag.X+ag.C (ag.cw a):=by rw[iE,iE,jK,ua,ag.eC,NW];grind);(have hr:cp.mk (cZ b f) (cZ b (jp b f [a,1]))=cp.mk (cZ b f) (ag.X+ag.C (ag.cw a)):=by rw[<-eA,cp.g8];exact⟨-r3,by grind⟩);dsimp only;generalize hH:qm b f 40000 ((b^d-1)/2) (jp b f [a,1])=H at*;rw[hr,<-cp.mh]at p3;(have o1:yE b [1]:=λx hx=>by simp at hx;lia);(have e1:cZ b [1]=1:=by rw[iE,jK,ua,ag.eC];grind);have t1:=BW hb.pos (q:=[1]) p1.Ej;(have t2:cZ b (m7 b H [1])=cZ b H-1:=by rw[yS hb.pos o1,e1]);generalize hT:m7 b H [1]=T at*;(have tl:T.length<40:=by(have hlt:(cZ b T).Lt 18:=by rw[t2];exact(p2.mono (by have:=hf.len;lia)).sub (ag.Lt.one.mono ⋯));have:=ag.dS hlt;rw[t1.size]at this;lia);obtain⟨gg,gI⟩:=Cg hb hf t1 tl;generalize hG:jJ b 40 f T=g at*;(have tz:∀P,Dv P (cZ b f)->(Dv P (cZ b T)↔Sq b d P a):=by intro P dP;have e2:=dP.trans (cp.g8.mp p3);unfold Sq;generalize (ag.X+ag.C (ag.cw a):ag (Zp b))^((b^d-1)/2)=W at*;constructor;(·intro k;(have:W-1=cZ b T-(cZ b H-W):=by rw[t2];grind);rw[this];exact k.sub e2);intro k;(have:cZ b T=(W-1)+(cZ b H-W):=by rw[t2];grind);rw[this];exact k.add e2);(have yu:∀P,Dv P (cZ b f)->(Dv P (cZ b g)↔Sq b d P a):=by intro P dP;rw[<-tz P dP];constructor;(·intro k;exact k.trans gI.dq);intro k;obtain⟨u,v,w⟩:=gI.Ih;rw[w];exact(dP.mul_left _).add (k.mul_left _));(have Iv:g.length<=f.length:=by have:=ag.fm gI.dp hf.mon.ne;rwa[gg.ok.size,hf.ok.size]at this);(have more:∀F,(∀P,P.ir->P.jn->Dv P (cZ b F)->Dv P (cZ b f))->(∀P Q,P.ir->P.jn->Dv P (cZ b F)->Q.ir->Q.jn->Dv Q (cZ b F)->(Sq b d P a↔Sq b d Q a))->∀P Q,P.ir->P.jn->Dv P (cZ b F)->Q.ir->Q.jn->Dv Q (cZ b F)->∀a',a'<a+1->(Sq b d P a'↔Sq b d Q a'):=by intro F hF afG P Q hP mP dP hQ mQ dQ a' ha';by_cases e:a'=a;(·subst e;exact afG P Q hP mP dP hQ mQ dQ);exact Ca P Q hP mP (hF P hP mP dP) hQ mQ (hF Q hQ mQ dQ) a' ⋯);by_cases h3:g.length<=1\/f.length<=g.length;(·rw[aj h3];apply ih (a+1) f hf hl iV ⋯;apply more f (λP _ _ h=>h);intro P Q hP mP dP hQ mQ dQ;rw[<-yu P dP,<-yu Q dQ];rcases h3 with h3|h3;(·have g1:=len_one hb gg h3;rw[g1];exact⟨λk=>ap k hP.oN,λk=>ap k hQ.oN⟩);have:=ag.vp gg.mon.mon hf.mon.mon gI.dp (by rw[gg.ok.size,hf.ok.size];exact h3);rw[this];exact⟨λ_=>dQ,λ_=>dP⟩);rw[ah h3];obtain⟨q1,q2⟩:=E5 hb hf gg gI.dp;generalize hQ:(ga b g f).1=Q at*;(have RO:1<Q.length:=by have:=ag.bM gg.mon.ne q1.mon.ne;rw[<-q2,hf.ok.size,gg.ok.size,q1.ok.size]at this;lia);(have dQf:∀P,Dv P (cZ b Q)->Dv P (cZ b f):=λP k=>by rw[q2];exact k.mul_left _);obtain⟨i1,i2⟩:=ih (a+1) g gg ⋯ ⟨λP hP mP dP=>iV.eq P hP mP (dP.trans gI.dp)⟩ ⋯ (more g (λP _ _ h=>h.trans gI.dp) λP Q hP mP dP hQ mQ dQ=>by rw[<-yu P (dP.trans gI.dp),<-yu Q (dQ.trans gI.dp)];exact⟨λ_=>dQ,λ_=>dP⟩);obtain⟨j1,j2⟩:=ih (a+1) Q q1 RO ⟨λP hP mP dP=>iV.eq P hP mP (dQf P dP)⟩ ⋯ (more Q (λP _ _ h=>dQf P h) λP R hP mP dP hR mR dR=>by rw[<-yu P (dQf P dP),<-yu R (dQf R dR)];exact⟨λk=>(rZ hf.Sn q2 hP k dP).elim,λk=>(rZ hf.Sn q2 hR k dR).elim⟩);constructor;(·rw[aF,ag.fg,i1,j1,q2]);intro x hx;rcases aO.mp hx with hx|hx;(·exact i2 x hx);exact j2 x hx
theorem AU(hb:El b)(ho:b%2=1)(tD:5000<b)(hf:Good b f):prod ((uw b f).map (cZ b))=cZ b f/\∀x,x∈uw b f->sW b x/\(cZ b x).ir/\(cZ b x).jn:=by
 obtain⟨oX,eX⟩:=okX hb;obtain⟨h1,h2⟩:=A6 hb 40 1 [0,1] f hf oX.Ej ⋯ ⋯ ⋯ (by have:=hf.len;lia) (λP hP _ _=>by have:=hP.pos;lia) (by rw[eX,kH,gu];congr 1;rw[ay,aL];grind);unfold uw;generalize ux b 40 1 [0,1] f=L at*;have:∀L:List (List Nat×Nat),(∀x,x∈L->Good b x.1/\1<x.1.length/\1<=x.2/\D0 b x.1 x.2)->prod ((L.flatMap λ(x:List Nat×Nat)=>mS b x.2 b 0 x.1).map (cZ b))=prod (L.map λx=>cZ b x.1)/\∀x,x∈(L.flatMap λ(x:List Nat×Nat)=>mS b x.2 b 0 x.1)->sW b x/\(cZ b x).ir/\(cZ b x).jn:=by
  intro L;induction L with
   |nil=>intro _;exact⟨rfl,λx hx=>by simp at hx⟩
   |cons y L ih=>intro h;obtain⟨i1,i2⟩:=ih λx hx=>h x (al _ hx);obtain⟨g1,g2,g3,g4⟩:=h y aq;obtain⟨j1,j2⟩:=AS hb ho tD g3 b 0 y.1 g1 g2 g4 ⋯ (λ_ _ _ _ _ _ _ _ a' ha'=>by lia);constructor;(·rw[pB,aF,ag.fg,i1,j1];rfl);intro x hx;rw[pB]at hx;rcases aO.mp hx with hx|hx;(·exact j2 x hx);exact i2 x hx
 obtain⟨k1,k2⟩:=this L h2;exact⟨k1.trans h1,k2⟩
end Tk
end
section
namespace Tk
open Lean.Grind
open ag (ir jn pC prod)
noncomputable def fD{p M:Nat}(h:p∣M):gJ (Zp M) (Zp p) where
 f:=Nh (λa=>cp.mk (p:Int) a) (λa b k=>by
  rw[cp.g8]
  obtain⟨c,hc⟩:=k
  obtain⟨d,hd⟩:=h
  refine⟨d*c,?_⟩
  rw[hc,hd,cg];grind)
 add x y:=by
  obtain⟨a,rfl⟩:=cp.rep x
  obtain⟨b,rfl⟩:=cp.rep y
  rfl
 mul x y:=by
  obtain⟨a,rfl⟩:=cp.rep x
  obtain⟨b,rfl⟩:=cp.rep y
  rfl
 one:=rfl
theorem sH(h:p∣M)(a:Int):(fD h).f ((red M).f a)=(red p).f a:=rfl
theorem sM(h:p∣M)(f:ag Int):(f.map (red M)).map (fD h)=f.map (red p):=rfl
theorem HN(h:p∣p)(x:Zp p):(fD h).f x=x:=by obtain⟨a,rfl⟩:=cp.rep x;rfl
theorem zz(h:p∣p)(f:ag (Zp p)):f.map (fD h)=f:=ag.ext λi=>HN h _
noncomputable abbrev Pair(p M:Nat):=ag (Zp p)×ag (Zp M)
theorem y3{α:Type}(P:α->Prop)(l:List α):∃s t:List α,(s++t).Perm l/\(∀x,x∈s->P x)/\∀x,x∈t->¬P x:=by
 induction l with
  |nil=>exact⟨[],[],Lo,λx hx=>ap hx jg,λx hx=>ap hx jg⟩
  |cons a l ih=>obtain⟨s,t,h1,h2,h3⟩:=ih;by_cases e:P a;(·refine⟨a::s,t,gO a h1,λx hx=>?_,h3⟩;rcases bi.mp hx with rfl|hx;(·exact e);exact h2 x hx);refine⟨s,a::t,kG c_ (gO a h1),h2,λx hx=>?_⟩;rcases bi.mp hx with rfl|hx;(·exact e);exact h3 x hx
structure Gr{p M:Nat}(g:ag Int)(s t:List (Pair p M)):Prop where
 yes:∀x,x∈s->Dv x.1 (g.map (red p))
 no:∀x,x∈t->¬Dv x.1 (g.map (red p))
structure fE(p M:Nat)(iQ:p∣M)(f:ag Int)(l:List (Pair p M)):Prop where
 prim:f.e9
 aT:0<f.aT
 unit:∃w:Zp M,(red M).f f.aT*w=1
 Ay:∀x,x∈l->x.1.ir/\x.1.jn/\(∃n,x.2.bD n)/\x.2.map (fD iQ)=x.1
 nodup:(l.map cy).Nodup
 fac:f.map (red p)=ag.C ((red p).f f.aT)*prod (l.map cy)
 key:∀g,Dv g f->∀s t,(s++t).Perm l->Gr g s t->g.map (red M)=ag.C ((red M).f g.aT)*prod (s.map dt)
 bound:∀g h,f=g*h->∀i,2*(h.aT*g.c i).natAbs<M
section
variable {p M:Nat}{iQ:p∣M}(hp:Pr p)
include hp
theorem fE.Fu{l:List (Pair p M)}(h:fE p M iQ f l):(red p).f f.aT≠0:=by have:=cn hp;obtain⟨w,hw⟩:=h.unit;intro e;have h1:=aK (fD iQ).f hw;rw[gJ.mul,sH,e,gJ.one]at h1;apply nU.ej (R:=Zp p);rw[<-h1];grind
theorem fE.Sn{l:List (Pair p M)}(h:fE p M iQ f l):(f.map (red p)).pC:=by have:=cn hp;have h1:=ag.uL (λq hq=>by obtain⟨x,hx,rfl⟩:=ao.mp hq;exact⟨(h.Ay x hx).1,(h.Ay x hx).2.1⟩) h.nodup;intro P hP hd;apply h1 P hP;rw[h.fac]at hd;obtain⟨v,hv,re⟩:=ag.lO (h.Fu hp);obtain⟨y,hy⟩:=hd;exact⟨ag.C v*y,by grind⟩
theorem fE.XD{l:List (Pair p M)}(h:fE p M iQ f l)(hg:Dv g f){s t:List (Pair p M)}(i5:(s++t).Perm l)(hs:Gr g s t):g.map (red p)=ag.C ((red p).f g.aT)*prod (s.map cy):=by have h1:=aK (λq=>q.map (fD iQ)) (h.key g hg s t i5 hs);simp only[sM,ag.cj,ag.np,sH]at h1;rw[h1];congr 1;have h2:=ag.qy (ag.jZ (fD iQ)) (s.map dt);have h3:(prod (s.map dt)).map (fD iQ)=prod ((s.map dt).map (ag.jZ (fD iQ)).f):=h2;rw[h3,be];congr 1;apply cY;intro x hx;exact(h.Ay x (i5.mem_iff.mp (bq _ hx))).2.2.2
theorem fE.split{l:List (Pair p M)}(h:fE p M iQ f l)(e:f=a*b){s t:List (Pair p M)}(i5:(s++t).Perm l)(hs:Gr a s t):Gr b t s:=by
 have:=cn hp;constructor;.intro x hx;have xI:=i5.mem_iff.mp (bF _ hx);(have hd:Dv x.1 (f.map (red p)):=by rw[h.fac];exact(ag.gy (dE xI)).mul_left _);rw[e,ag.cj]at hd;rcases(h.Ay x xI).1.prime hd with k|k;(·exact ap k (hs.no x hx));exact k
 intro x hx k;have xI:=i5.mem_iff.mp (bq _ hx);exact rZ (h.Sn hp) (by rw[e,ag.cj]) (h.Ay x xI).1 (hs.yes x hx) k
theorem oO{s:List (Pair p M)}(h:∀x,x∈s->∃n,x.2.bD n):∃n,(prod (s.map dt)).bD n:=by
 induction s with
  |nil=>exact⟨0,ag.bD.unit⟩
  |cons a s ih=>obtain⟨n,hn⟩:=ih λx hx=>h x (al _ hx);obtain⟨m,hm⟩:=h a aq;exact⟨m+n,hm.mul hn⟩
theorem SR(iQ:p∣M):(1:Zp M)≠0:=by have:=cn hp;intro e;have h1:=aK (fD iQ).f e;rw[gJ.one,gJ.zero]at h1;exact nU.ej h1
omit hp in
theorem Pq{R:Type}[bI R](h1:(1:R)≠0){A B:ag R}(hA:A.bD m)(hB:B.bD n){u v w:R}(hv:v*w=1)(e:ag.C u*A=ag.C v*B):A=B:=by
 have Vp:v≠0:=by rintro rfl;apply h1;grind
 have c1:∀i,u*A.c i=v*B.c i:=λi=>by have:=aK (λq=>q.c i) e;simpa only[ag.cA]using this
 have hmn:m=n:=by rcases fM m n with h|h|h;(·exfalso;have:=c1 n;rw[hA.lt n ⋯,hB.one]at this;apply Vp;grind);(·exact h);exfalso;have:=c1 m;rw[hB.lt m ⋯,hA.one]at this;(have hu:u=0:=by grind);have h2:=c1 n;rw[hu,hB.one]at h2;apply Vp;grind
 subst hmn;have re:u=v:=by have:=c1 m;rw[hA.one,hB.one]at this;grind
 apply ag.ext;intro i;have:=c1 i;rw[re]at this;have h3:w*(v*A.c i)=w*(v*B.c i):=by rw[this]
 grind
theorem fE.found{l:List (Pair p M)}(h:fE p M iQ f l){s t:List (Pair p M)}(i5:(s++t).Perm l)(hq:q.e9)(lq:0<q.aT)(e:f=q*r)(hc:(ag.C c*q).map (red M)=ag.C ((red M).f f.aT)*prod (s.map dt)):Gr q s t/\fE p M iQ r t:=by
 have mj:=cn hp;have hdq:Dv q f:=⟨r,e⟩;obtain⟨s',t',XY,hy,hn⟩:=y3 (λx:Pair p M=>Dv x.1 (q.map (red p))) l;have zH:Gr q s' t':=⟨hy,hn⟩;have hk:=h.key q hdq s' t' XY zH;have Ky:∀x,x∈s'->x∈l:=λx hx=>XY.mem_iff.mp (bq _ hx);have hmem:∀x,x∈s->x∈l:=λx hx=>i5.mem_iff.mp (bq _ hx);obtain⟨m,hm⟩:=oO hp (s:=s') λx hx=>(h.Ay x (Ky x hx)).2.2.1;obtain⟨n,hn2⟩:=oO hp (s:=s) λx hx=>(h.Ay x (hmem x hx)).2.2.1;obtain⟨w,hw⟩:=h.unit;have heq:prod (s'.map dt)=prod (s.map dt):=by apply Pq (SR hp iQ) hm hn2 hw (u:=(red M).f c*(red M).f q.aT);rw[<-hc,ag.cj,ag.np,hk,ag.dw];grind
 have tx:∀s0:List (Pair p M),(∀x,x∈s0->x∈l)->(prod (s0.map dt)).map (fD iQ)=prod (s0.map cy):=by intro s0 h0;have h3:(prod (s0.map dt)).map (fD iQ)=prod ((s0.map dt).map (ag.jZ (fD iQ)).f):=ag.qy (ag.jZ (fD iQ)) (s0.map dt);rw[h3,be];congr 1;apply cY;intro x hx;exact(h.Ay x (h0 x hx)).2.2.2
 have agi:prod (s'.map cy)=prod (s.map cy):=by rw[<-tx s' Ky,<-tx s hmem,heq]
 have gq:(s'.map cy).Perm (s.map cy):=ag.Dy (λq hq=>by obtain⟨x,hx,rfl⟩:=ao.mp hq;exact⟨(h.Ay x (Ky x hx)).1,(h.Ay x (Ky x hx)).2.1⟩) (λq hq=>by obtain⟨x,hx,rfl⟩:=ao.mp hq;exact⟨(h.Ay x (hmem x hx)).1,(h.Ay x (hmem x hx)).2.1⟩) agi;have Mr:((s++t).map cy).Nodup:=(i5.map cy).nodup_iff.mpr h.nodup;rw[aF,jP]at Mr;have hS:Gr q s t:=by constructor;(·intro x hx;have:x.1∈s'.map cy:=gq.mem_iff.mpr (dE hx);obtain⟨y,hy',he⟩:=ao.mp this;rw[<-he];exact hy y hy');intro x hx k;have xI:=i5.mem_iff.mp (bF _ hx);rcases aO.mp (XY.mem_iff.mpr xI)with h1|h1;(·have:x.1∈s.map cy:=gq.mem_iff.mp (dE h1);exact Mr.2.2 x.1 this x.1 (dE hx) rfl);exact hn x h1 k
 refine⟨hS,?_⟩;have hR:=h.split hp e i5 hS;have fV:f.aT=q.aT*r.aT:=by rw[e,ag.df]
 have Dx:=h.aT;have hrl:0<r.aT:=by apply ae;intro hc;have:q.aT*r.aT<=0:=d9 ⋯ ⋯;lia
 have TD:∀x,x∈t->x∈l:=λx hx=>i5.mem_iff.mp (bF _ hx);refine⟨h.prim.jt ⟨q,by rw[e];grind⟩,hrl,⟨(red M).f q.aT*w,by rw[fV,gJ.mul]at hw;grind⟩,λx hx=>h.Ay x (TD x hx),Mr.2.1,?_,?_,?_⟩;.have X5:(t++s).Perm l:=kG jN i5;exact h.XD hp ⟨q,by rw[e];grind⟩ X5 hR
 .intro g hg s2 t2 XW hs2;have hgf:Dv g f:=hg.trans ⟨q,by rw[e];grind⟩;apply h.key g hgf s2 (t2++s);(·(have:(s2++(t2++s)).Perm ((s2++t2)++s):=by rw[iU]);exact this.trans ((XW.append_right s).trans (jN.trans i5)));refine⟨hs2.yes,λx hx k=>?_⟩;rcases aO.mp hx with hx|hx;(·exact hs2.no x hx k);refine hR.no x hx (k.trans ?_);exact(ag.jZ (red p)).dv hg
 intro g k hgk i;have:=h.bound g (q*k) (by rw[e,hgk];grind) i;rw[ag.df]at this;have h2:(k.aT*g.c i).natAbs<=(q.aT*k.aT*g.c i).natAbs:=by rw[Int.mul_assoc,cP q.aT];have:1<=q.aT.natAbs:=⋯;have:=bu (k.aT*g.c i).natAbs this;lia
 lia
def vN(k:Nat)(f:ag Int)(l:List (Pair p M)):Prop:=∀g h,f=g*h->0<g.aT->1<g.size->1<h.size->∀s t,(s++t).Perm l->Gr g s t->k<=s.length
theorem fE.size{l:List (Pair p M)}(h:fE p M iQ f l)(hg:Dv g f):(g.map (red p)).size=g.size:=by
 obtain⟨r,e⟩:=hg;have AA:g≠0:=by rintro rfl;apply h.prim.ne;rw[e];grind
 have hgs:=ag.aS.mpr AA;have hl:(red p).f g.aT≠0:=by intro k;apply h.Fu hp;rw[e,ag.df,gJ.mul,k];grind
 have:=ag.jb (p:=g.map (red p)) (n:=g.size-1) ((g.b_.map _).mono ⋯) hl;lia
theorem fE.BU{l:List (Pair p M)}(h:fE p M iQ f l):vN 1 f l:=by
 intro g k e lg hg hk s t i5 hs;have h1:=h.XD hp ⟨k,e⟩ i5 hs;cases s with
  |nil=>exfalso;have h2:=h.size hp ⟨k,e⟩;rw[h1]at h2;(have:ag.C ((red p).f g.aT)*prod (([]:List (Pair p M)).map cy)=ag.C ((red p).f g.aT):=by simp only[cK,prod];grind);rw[this]at h2;have:=ag.wm ((red p).f g.aT);lia
  |cons a s=>simp
theorem E7{a b f:ag Int}(e:f=a*b)(hf:0<f.aT):∃a' b',f=a'*b'/\0<a'.aT/\a'.size=a.size/\b'.size=b.size:=by
 by_cases h:0<a.aT;.exact⟨a,b,e,h,rfl,rfl⟩
 have h1:f.aT=a.aT*b.aT:=by rw[e,ag.df]
 have ha:a.aT≠0:=by intro k;rw[k]at h1;lia
 have hb:b.aT≠0:=by intro k;rw[k]at h1;lia
 have vX:a≠0:=by rintro rfl;apply ha;unfold ag.aT;rw[ag.dj]
 have wA:b≠0:=by rintro rfl;apply hb;unfold ag.aT;rw[ag.dj]
 have hm:(ag.C (-1):ag Int)*ag.C (-1)=1:=by rw[<-ag.dw];rfl
 have hm0:(ag.C (-1):ag Int)≠0:=λe=>(by decide:(-1:Int)≠0) (ag.iu (b:=0) e);have s1:=ag.bM hm0 vX;have s2:=ag.bM hm0 wA;rw[ag.fP ∅]at s1 s2;refine⟨ag.C (-1)*a,ag.C (-1)*b,by rw[e];grind,?_,⋯,⋯⟩;rw[ag.df,ag.j4];lia
theorem fE.JW{f:ag Int}{l:List (Pair p M)}(h:fE p M iQ f l){k:Nat}(hk:vN k f l)(hl:l.length<2*k)(hs:1<f.size):f.kX:=by
 refine⟨hs,h.prim,h.aT,λa b e=>?_⟩;apply ae;intro hc;obtain⟨a',b',e',la,sa,sb⟩:=E7 hp e h.aT;have TR:0<b'.aT:=by(have h1:f.aT=a'.aT*b'.aT:=by rw[e',ag.df]);have:=h.aT;apply ae;intro hc;have:a'.aT*b'.aT<=0:=d9 ⋯ ⋯;lia
 obtain⟨s,t,i5,hy,hn⟩:=y3 (λx:Pair p M=>Dv x.1 (a'.map (red p))) l;have h1:=hk a' b' e' la ⋯ ⋯ s t i5 ⟨hy,hn⟩;have h2:=hk b' a' (by rw[e'];grind) TR ⋯ ⋯ t s (kG jN i5) (h.split hp e' i5 ⟨hy,hn⟩);have:=i5.length_eq;rw[bw]at this;lia
theorem fE.BB{f:ag Int}{l:List (Pair p M)}(h:fE p M iQ f l){k:Nat}(hk1:1<=k)(hk:vN k f l){s t:List (Pair p M)}(i5:(s++t).Perm l)(hsk:s.length=k){q r:ag Int}(hq:q.e9)(lq:0<q.aT)(e:f=q*r)(hS:Gr q s t):q.kX/\vN k r t:=by
 have mj:=cn hp;have hR:=h.split hp e i5 hS;constructor
 .have TJ:1<q.size:=by
   have h1:=h.XD hp ⟨r,e⟩ i5 hS;have h2:=h.size hp ⟨r,e⟩;(have hm:=jn.prod λP hP=>by obtain⟨x,hx,rfl⟩:=ao.mp hP;exact(h.Ay x (i5.mem_iff.mp (bq _ hx))).2.1);cases s with
    |nil=>simp at hsk;lia
    |cons x s=>have hx:=h.Ay x (i5.mem_iff.mp (bq _ aq));have h3:=ag.fm (hS.yes x aq) (ag.aS.mp (by rw[h2];exact ag.aS.mpr hq.ne));have:=hx.1.pos;lia
  refine⟨TJ,hq,lq,λa b eab=>?_⟩;apply ae;intro hc;obtain⟨a',b',e',la,sa,sb⟩:=E7 hp eab lq;(have TR:0<b'.aT:=by(have h1:q.aT=a'.aT*b'.aT:=by rw[e',ag.df]);apply ae;intro hc;have:a'.aT*b'.aT<=0:=d9 ⋯ ⋯;lia);obtain⟨s1,s2,Mm,hy,hn⟩:=y3 (λx:Pair p M=>Dv x.1 (a'.map (red p))) s;(have hr0:r≠0:=by rintro rfl;apply h.prim.ne;rw[e];grind);have vX:a'≠0:=ag.aS.mp ⋯;have wA:b'≠0:=ag.aS.mp ⋯;have z1:=ag.bM wA hr0;have z2:=ag.bM vX hr0;have z3:=ag.aS.mpr hr0;(have rD:(s1++(s2++t)).Perm l:=by rw[<-iU];exact(Mm.append_right t).trans i5);have hq1:Dv a' q:=⟨b',e'⟩;have xJ:Dv b' q:=⟨a',by rw[e'];grind⟩;have hsa:Gr a' s1 (s2++t):=⟨hy,λx hx k=>by rcases aO.mp hx with hx|hx;(·exact hn x hx k);exact hS.no x hx (k.trans ((ag.jZ (red p)).dv hq1))⟩;have c1:=hk a' (b'*r) (by rw[e,e'];grind) la ⋯ ⋯ s1 (s2++t) rD hsa;(have hsb:Gr b' s2 (s1++t):=by constructor;(·intro x hx;have h1:=hS.yes x (Mm.mem_iff.mp (bF _ hx));rw[e',ag.cj]at h1;have xI:=i5.mem_iff.mp (bq _ (Mm.mem_iff.mp (bF _ hx)));rcases(h.Ay x xI).1.prime h1 with k|k;(·exact ap k (hn x hx));exact k);intro x hx k;rcases aO.mp hx with hx|hx;(·have xI:=i5.mem_iff.mp (bq _ (Mm.mem_iff.mp (bq _ hx)));exact rZ ((h.Sn hp).jt ((ag.jZ (red p)).dv ⟨r,e⟩)) (show q.map (red p)=a'.map (red p)*b'.map (red p) by rw[e',ag.cj]) (h.Ay x xI).1 (hy x hx) k);exact hS.no x hx (k.trans ((ag.jZ (red p)).dv xJ)));(have hp2:(s2++(s1++t)).Perm l:=by rw[<-iU];exact((jN.trans Mm).append_right t).trans i5);have c2:=hk b' (a'*r) (by rw[e,e'];grind) TR ⋯ ⋯ s2 (s1++t) hp2 hsb;have:=Mm.length_eq;rw[bw]at this;lia
 intro g k' e' lg hg Iq s2 t2 XW hs2;have hk0:k'≠0:=ag.aS.mp ⋯;have z1:=ag.bM hq.ne hk0;have z2:=ag.aS.mpr hq.ne;refine hk g (q*k') (by rw[e,e'];grind) lg hg ⋯ s2 (t2++s) ?_ ?_;·(have:(s2++(t2++s)).Perm ((s2++t2)++s):=by rw[iU]);exact this.trans ((XW.append_right s).trans (jN.trans i5))
 refine⟨hs2.yes,λx hx kk=>?_⟩;rcases aO.mp hx with hx|hx;.exact hs2.no x hx kk
 exact hR.no x hx (kk.trans ((ag.jZ (red p)).dv ⟨k',e'⟩))
omit hp in
theorem Ke(hd:(M:Int)∣x-y)(h1:2*x.natAbs<=M)(h2:2*y.natAbs<M):x=y:=by have h3:=NS x y;have h4:=Hj.mpr hd;rw[il]at h4;refine Int.sub_eq_zero.mp (Int.natAbs_eq_zero.mp (Nat.eq_zero_of_dvd_of_lt h4 ?_));generalize x.natAbs=u,y.natAbs=v,(x-y).natAbs=w at*;lia
omit hp in
theorem Fs{A B:ag Int}(h:A.map (red M)=B.map (red M))(hA:∀i,2*(A.c i).natAbs<M)(hB:∀i,2*(B.c i).natAbs<=M):A=B:=by apply ag.ext;intro i;have h1:=aK (λq=>q.c i) h;simp only[ag.mM]at h1;exact(Ke (gr.mp (cp.g8.mp (show cp.mk (M:Int) (B.c i)=cp.mk _ (A.c i)from h1.symm))) (hB i) (hA i)).symm
theorem fE.cand{f:ag Int}{l:List (Pair p M)}(h:fE p M iQ f l){g k:ag Int}(e:f=g*k){s t:List (Pair p M)}(i5:(s++t).Perm l)(hs:Gr g s t){B:ag Int}(hB:B.map (red M)=ag.C ((red M).f f.aT)*prod (s.map dt))(hb:∀i,2*(B.c i).natAbs<=M):B=ag.C k.aT*g:=by
 symm;apply Fs (M:=M);.rw[hB,ag.cj,ag.np,h.key g ⟨k,e⟩ s t i5 hs,e,ag.df,gJ.mul,ag.dw];grind
 .intro i;rw[ag.cA];exact h.bound g k e i
 exact hb
end
end Tk
end
section
namespace Tk
open Lean.Grind
open ag (ir jn pC prod)
theorem YH{K:Type}[bI K][nU K]{l:List (ag K)}(hl:∀p,p∈l->p.ir/\p.jn)(hn:l.Nodup){G:ag K}(hG:G.jn)(hd:Dv G (prod l)){s t:List (ag K)}(i5:(s++t).Perm l)(hy:∀x,x∈s->Dv x G)(uE:∀x,x∈t->¬Dv x G):G=prod s:=by
 obtain⟨m,hm,e⟩:=ag.Dz hG;have tq:=(ag.uL hl hn).jt hd;have hmn:=pC.nodup hm (by rw[<-e];exact tq);have hsn:=(jP.mp (i5.nodup_iff.mpr hn)).1;have Zt:∀x,x∈s->x∈l:=λx hx=>i5.mem_iff.mp (bq _ hx);have gq:m.Perm s:=by apply(oz hmn hsn).mpr;intro x;constructor;(·intro hx;(have hxG:Dv x G:=by rw[e];exact ag.gy hx);have xI:=(hm x hx).1.mem (hm x hx).2 hl (hxG.trans hd);rcases aO.mp (i5.mem_iff.mpr xI)with h|h;(·exact h);exact ap hxG (uE x h));intro hx;have xI:=hl x (Zt x hx);exact xI.1.mem xI.2 hm (by rw[<-e];exact hy x hx)
 rw[e,ag.jE gq]
theorem B8{b:Nat}(hb:Pr b){f:ag Int}(hu:(red b).f f.aT≠0){l:List (ag (Zp b))}(hl:∀p,p∈l->p.ir/\p.jn)(hn:l.Nodup)(hf:f.map (red b)=ag.C ((red b).f f.aT)*prod l){g:ag Int}(hg:Dv g f){s t:List (ag (Zp b))}(i5:(s++t).Perm l)(hy:∀x,x∈s->Dv x (g.map (red b)))(uE:∀x,x∈t->¬Dv x (g.map (red b))):g.map (red b)=ag.C ((red b).f g.aT)*prod s:=by
 have mj:=cn hb;obtain⟨r,e⟩:=hg;have Dx:f≠0:=by rintro rfl;apply hu;unfold ag.aT;rw[ag.dj,gJ.zero]
 have AA:g≠0:=by rintro rfl;apply Dx;rw[e];grind
 have Iv:(red b).f g.aT≠0:=by intro k;apply hu;rw[e,ag.df,gJ.mul,k];grind
 have hgs:=ag.aS.mpr AA;obtain⟨v,hv⟩:=nU.inv _ Iv;have hM:(ag.C v*g.map (red b)).bD (g.size-1):=by refine⟨ag.Lt.z4 _ ((g.b_.map _).mono ⋯),?_⟩;rw[ag.cA];show v*(red b).f g.aT=1;grind
 have hCC:(ag.C v:ag (Zp b))*ag.C ((red b).f g.aT)=1:=by rw[<-ag.dw,show v*(red b).f g.aT=1 by grind,ag.eC]
 have hd:Dv (ag.C v*g.map (red b)) (prod l):=by obtain⟨w,hw⟩:=nU.inv _ hu;(have hww:(ag.C w:ag (Zp b))*ag.C ((red b).f f.aT)=1:=by rw[<-ag.dw,show w*(red b).f f.aT=1 by grind,ag.eC]);refine⟨ag.C ((red b).f g.aT)*r.map (red b)*ag.C w,?_⟩;(have:prod l=ag.C w*(g.map (red b)*r.map (red b)):=by rw[<-ag.cj,<-e,hf];grind);rw[this];grind
 have AZ:∀x,Dv x (ag.C v*g.map (red b))↔Dv x (g.map (red b)):=by intro x;constructor;(·rintro⟨y,hy⟩;exact⟨ag.C ((red b).f g.aT)*y,by grind⟩);intro h;exact h.mul_left _
 have:=YH hl hn hM.mon hd i5 (λx hx=>(AZ x).mpr (hy x hx)) (λx hx k=>uE x hx ((AZ x).mp k));rw[<-this];grind
theorem Fp{α:Type}:∀(k:Nat) (l:List α) (x:List α×List α),x∈gS k l->(x.1++x.2).Perm l/\x.1.length=k:=by
 intro k;induction k with
  |zero=>intro l x hx;simp only[gS,a6]at hx;subst hx;exact⟨ni _,rfl⟩
  |succ k ihk=>
   intro l;induction l with
    |nil=>intro x hx;simp only[gS]at hx;cases hx
    |cons a l ihl=>intro x hx;simp only[gS]at hx;rcases aO.mp hx with hx|hx;(·obtain⟨y,hy,rfl⟩:=ao.mp hx;obtain⟨h1,h2⟩:=ihk l y hy;exact⟨gO a h1,by simp[h2]⟩);obtain⟨y,hy,rfl⟩:=ao.mp hx;obtain⟨h1,h2⟩:=ihl y hy;exact⟨kG c_ (gO a h1),h2⟩
theorem Gc{α:Type}:∀(l s t:List α),(s++t).Perm l->∃x,x∈gS s.length l/\x.1.Perm s/\x.2.Perm t:=by
 intro l;induction l with
  |nil=>intro s t h;have:=h.length_eq;simp at this;obtain⟨rfl,rfl⟩:=this;exact⟨([],[]),by simp[gS],ni _,ni _⟩
  |cons a l ih=>
   intro s t h;have ha:a∈s++t:=h.mem_iff.mpr aq;by_cases hs:a∈s;(·obtain⟨u,v,rfl⟩:=d6 hs;have hp:(u++a::v).Perm (a::(u++v)):=c_;(have h2:((u++v)++t).Perm l:=by have:=(hp.append_right t).symm.trans h;exact nj this);obtain⟨x,hx,h3,h4⟩:=ih (u++v) t h2;refine⟨(a::x.1,x.2),?_,(gO a h3).trans hp.symm,h4⟩;rw[hp.length_eq,a7];simp only[gS];exact bq _ (ao.mpr ⟨x,hx,rfl⟩));(have ht:a∈t:=by rcases aO.mp ha with k|k;(·exact ap k hs);exact k);obtain⟨u,v,rfl⟩:=d6 ht;have hp:(u++a::v).Perm (a::(u++v)):=c_;(have h2:(s++(u++v)).Perm l:=by have h5:=(hp.append_left s).trans c_;exact nj (h5.symm.trans h));obtain⟨x,hx,h3,h4⟩:=ih s (u++v) h2;cases hk:s.length with
    |zero=>have:=b5 hk;subst this;exact⟨([],a::l),by simp[gS],ni _,by simpa using h.symm⟩
    |succ k=>rw[hk]at hx;refine⟨(x.1,a::x.2),?_,h3,(gO a h4).trans hp.symm⟩;simp only[gS];exact bF _ (ao.mpr ⟨x,hx,rfl⟩)
theorem Hv(x:Nat)(h:x<b):(red b).f (h_ b x)=zm b x/\2*(h_ b x).natAbs<=b:=by
 unfold h_;split;.exact⟨rfl,⋯⟩
 refine⟨?_,⋯⟩;show cp.mk (b:Int) _=cp.mk _ _;rw[cp.g8];exact⟨-1,⋯⟩
theorem Lw(hb:0<b)(hm:yE b m):(aA (m.map (h_ b))).map (red b)=cZ b m/\∀i,2*((aA (m.map (h_ b))).c i).natAbs<=b:=by
 have key:∀i,(red b).f ((aA (m.map (h_ b))).c i)=zm b (m.getD i 0)/\2*((aA (m.map (h_ b))).c i).natAbs<=b:=by intro i;rw[fb];simp only[aD,aE];by_cases hi:i<m.length;(·rw[aa hi];exact Hv _ (hm _ (ba hi)));rw[aG ⋯];exact⟨rfl,by simp⟩
 exact⟨ag.ext λi=>(key i).1,λi=>(key i).2⟩
theorem qL(hb:0<b)(p:List Int):sW b (dZ b p)/\cZ b (dZ b p)=(aA p).map (red b):=by
 have agA:yE b (p.map λx=>(x%(b:Int)).toNat):=by intro x hx;obtain⟨y,_,rfl⟩:=ao.mp hx;have:=cW y (show(0:Int)<b by lia);have:=dr y (show(b:Int)≠0 by lia);lia
 refine⟨rP agA,?_⟩;unfold dZ;rw[pM];apply ag.ext;intro i;rw[xw,ag.mM,fb];simp only[aD,aE];cases p[i]? with
  |none=>rfl
  |some a=>show cp.mk (b:Int) _=cp.mk _ _;rw[cp.g8];have:=dr a (show(b:Int)≠0 by lia);refine⟨-(a/b),?_⟩;have h2:=eD a b;simp only[xC,gT];rw[uB this];grind
theorem IE(hb:0<b):∀(l:List (List Nat)) (a:List Nat),sW b a->sW b (l.foldl (jf b) a)/\cZ b (l.foldl (jf b) a)=cZ b a*prod (l.map (cZ b)):=by
 intro l;induction l with
  |nil=>intro a ha;exact⟨ha,by simp only[List.foldl_nil,cK,prod];grind⟩
  |cons x l ih=>intro a ha;obtain⟨h1,h2⟩:=ih (jf b a x) (Dm hb a x);exact⟨h1,by rw[yH,h2,yR hb,aR,prod];grind⟩
noncomputable def prs(b:Nat)(l:List (List Nat)):List (Pair b b):=l.map λx=>(cZ b x,cZ b x)
theorem J6(b:Nat)(l:List (List Nat)):(prs b l).map cy=l.map (cZ b):=by unfold prs;rw[be];rfl
theorem J5(b:Nat)(l:List (List Nat)):(prs b l).map dt=l.map (cZ b):=by unfold prs;rw[be];rfl
theorem HQ(b:Nat)(l m:List (List Nat)):prs b (l++m)=prs b l++prs b m:=aF
theorem uQ(h:l.Perm m):(prs b l).Perm (prs b m):=h.map _
theorem BJ:∀{s t:List (Pair b b)},(s++t).Perm (prs b l)->∃s' t',(s'++t').Perm l/\s=prs b s'/\t=prs b t':=by
 intro s;induction s generalizing l with
  |nil=>
   intro t h;have:∀t l,t.Perm (prs b l)->∃t',t'.Perm l/\t=prs b t':=by
    intro t;induction t with
     |nil=>intro l h;have:=h.length_eq;unfold prs at this;simp at this;exact⟨[],by rw[b5 this.symm],rfl⟩
     |cons a t ih=>intro l h;have ha:=h.mem_iff.mp aq;obtain⟨y,hy,rfl⟩:=ao.mp ha;obtain⟨u,v,rfl⟩:=d6 hy;have hp:(u++y::v).Perm (y::(u++v)):=c_;have h2:=nj (h.trans (uQ hp));obtain⟨t',h3,rfl⟩:=ih (u++v) h2;exact⟨y::t',(gO y h3).trans hp.symm,rfl⟩
   obtain⟨t',h1,h2⟩:=this t l h;exact⟨[],t',h1,rfl,h2⟩
  |cons a s ih=>intro t h;have ha:=h.mem_iff.mp aq;obtain⟨y,hy,rfl⟩:=ao.mp ha;obtain⟨u,v,rfl⟩:=d6 hy;have hp:(u++y::v).Perm (y::(u++v)):=c_;have h2:=nj (h.trans (uQ hp));obtain⟨s',t',h3,rfl,rfl⟩:=ih h2;exact⟨y::s',t',(gO y h3).trans hp.symm,rfl,rfl⟩
theorem Fw(b f k:Nat)(p:List Int)(l:List (List Nat)):sX b (f+1) k p l=if l.length<2*k then[p]else match (gS k l).findSome? λx=>(tH p (aV ((x.1.foldl (jf b) (dZ b [bm p])).map (h_ b)))).map λr=>(aV ((x.1.foldl (jf b) (dZ b [bm p])).map (h_ b)),aN r,x.2)with
  |some (q,r,rest)=>q::(if dB r=0 then[]else sX b f k r rest)
  |none=>sX b f (k+1) p l:=rfl
theorem Cp(hb:Pr b)(h:fE b b (gv b) (aA p) (prs b l))(hx:∀y,y∈x->y∈l):∃c,c≠0/\∃q,aV ((x.foldl (jf b) (dZ b [bm p])).map (h_ b))=q/\fc q/\(aA q).e9/\0<(aA q).aT/\(ag.C c*aA q).map (red b)=ag.C ((red b).f (aA p).aT)*prod ((prs b x).map dt)/\∀i,2*((ag.C c*aA q).c i).natAbs<=b:=by
 have mj:=cn hb;have wA:0<b:=by have:=hb.1;lia
 obtain⟨a1,a2⟩:=qL wA [bm p];obtain⟨m1,m2⟩:=IE wA x _ a1;rw[a2,Br,ag.np]at m2;generalize x.foldl (jf b) (dZ b [bm p])=m at*;rw[dz]at m2;obtain⟨i1,i2⟩:=Lw wA m1.Ej;have hne:aA (m.map (h_ b))≠0:=by intro e;rw[e,ag.lL]at i1;rw[<-i1]at m2;(have hm:=jn.prod λP hP=>by obtain⟨y,hy,rfl⟩:=ao.mp hP;exact(h.Ay (cZ b y,cZ b y) (ao.mpr ⟨y,hx y hy,rfl⟩)).2.1);exact iC.jm (λe=>h.Fu hb (ag.iu (b:=0) e)) hm.ne m2.symm
 obtain⟨c,hc,e,h1,h2,h3,_⟩:=eh hne;refine⟨c,hc,_,rfl,h3,h1,h2,?_,?_⟩;.rw[<-e,i1,m2,J5]
 intro i;rw[<-e];exact i2 i
theorem Fy(hb:Pr b):∀MC k p l,fc p->(aA p).size<40->1<(aA p).size->fE b b (gv b) (aA p) (prs b l)->1<=k->vN k (aA p) (prs b l)->l.length+(l.length+1-k)<MC->prod ((sX b MC k p l).map aA)=aA p/\∀x,x∈sX b MC k p l->fc x/\(aA x).kX:=by
 intro MC;induction MC with
  |zero=>intro k p l _ _ _ _ _ _ h;lia
  |succ MC ih=>
   intro k p l hp h40 h1 hR hk hN hf;rw[Fw];by_cases hl:l.length<2*k;(·rw[aj hl];have:=hR.JW hb hN (by unfold prs;rw[ab];exact hl) h1;refine⟨by simp only[aR,cK,prod];grind,?_⟩;intro x hx;simp only[a6]at hx;subst hx;exact⟨hp,this⟩);rw[ah hl];generalize hF:(gS k l).findSome? (λx=>(tH p (aV ((x.1.foldl (jf b) (dZ b [bm p])).map (h_ b)))).map λr=>(aV ((x.1.foldl (jf b) (dZ b [bm p])).map (h_ b)),aN r,x.2))=F;cases F with
    |none=>simp only[];apply ih (k+1) p l hp h40 h1 hR ⋯ _ ⋯;rw[List.findSome?_eq_none_iff]at hF;intro g g' e lg hg ZG s t i5 hs;have h2:=hN g g' e lg hg ZG s t i5 hs;apply ae;intro hc;have hsk:s.length=k:=⋯;obtain⟨s',t',h3,rfl,rfl⟩:=BJ i5;obtain⟨x,hx,h4,h5⟩:=Gc l s' t' h3;(have Zt:s'.length=k:=by unfold prs at hsk;rwa[ab]at hsk);rw[Zt]at hx;have hnone:=hF x hx;have xI:∀y,y∈x.1->y∈l:=λy hy=>h3.mem_iff.mp (bq _ (h4.mem_iff.mp hy));obtain⟨c,xk,q,hq,q1,q2,q3,q4,q5⟩:=Cp hb hR xI;rw[hq,Option.map_eq_none_iff]at hnone;have oP:prod ((prs b x.1).map dt)=prod ((prs b s').map dt):=ag.jE ((uQ h4).map _);rw[oP]at q4;have hB:=hR.cand hb e i5 hs q4 q5;have hgp:g.e9:=hR.prim.jt ⟨g',e⟩;obtain⟨_,e2⟩:=w_ q2 hgp q3 lg xk hB;rw[BQ q1 q2.ne h40]at hnone;apply hnone;rw[e2];exact⟨g',e⟩
    |some F=>obtain⟨q,r,rest⟩:=F;simp only[];obtain⟨x,hx,VF⟩:=List.exists_of_findSome?_eq_some hF;obtain⟨h3,h4⟩:=Fp k l x hx;have xI:∀y,y∈x.1->y∈l:=λy hy=>h3.mem_iff.mp (bq _ hy);obtain⟨c,xk,q',hq,q1,q2,q3,q4,q5⟩:=Cp hb hR xI;rw[hq]at VF;obtain⟨r',hr,he⟩:=b9.mp VF;simp only[jq]at he;obtain⟨rfl,rfl,rfl⟩:=he;have e:=BP q1 q2.ne hr;(have i5:(prs b x.1++prs b x.2).Perm (prs b l):=by rw[<-HQ];exact uQ h3);obtain⟨hS,ZM⟩:=hR.found hb i5 q2 q3 e q4;obtain⟨pV,hN2⟩:=hR.BB hb hk hN i5 (by unfold prs;rw[ab];exact h4) q2 q3 e hS;have hlen:=h3.length_eq;rw[bw]at hlen;rw[fj,cQ];have hr0:=ag.aS.mpr ZM.prim.ne;by_cases hd:(aA r').size-1=0;(·rw[aj hd];(have ve:aA r'=1:=by have e1:=(ag.cS (show(aA r').size<=1 by lia)).o_;have e2:=ZM.prim;rw[e1]at e2;have e3:=ZM.aT;rw[e1,ag.j4]at e3;rcases ag.e9.C e2 with k|k;(·rw[e1,k,ag.eC]);lia);refine⟨?_,?_⟩;(·simp only[aR,cK,prod];rw[e,ve]);intro y hy;simp only[a6]at hy;subst hy;exact⟨q1,pV⟩);rw[ah hd];have hsz:(aA r').size<=(aA p).size:=ag.fm ⟨aA q',by rw[e];grind⟩ hR.prim.ne;obtain⟨i1,i2⟩:=ih k (aN r') x.2 (fU _) (by rw[cQ];lia) (by rw[cQ];lia) (by rw[cQ];exact ZM) hk (by rw[cQ];exact hN2) ⋯;rw[cQ]at i1;refine⟨by rw[aR,prod,i1,e],?_⟩;intro y hy;rcases bi.mp hy with rfl|hy;(·exact⟨q1,pV⟩);exact i2 y hy
end Tk
end
section
set_option exponentiation.threshold 3000
namespace Tk
open Lean.Grind
open ag (ir jn pC prod)
def Ac(s:ag Int):Prop:=∀f:ag Int,f.kX->¬Dv (f*f) s
theorem QP{f:ag Int}(h:1<f.size):ag.fz f≠0/\(ag.fz f).size<f.size:=by
 have hf:f≠0:=ag.aS.mp ⋯;constructor;.intro e;have:=aK (λq=>q.c (f.size-2)) e;simp only[ag.ol,ag.dj]at this;have hn:(ag.cw (f.size-2+1):Int)=((f.size-2+1:Nat):Int):=rfl;rw[hn]at this;rcases As.mp this with k|k;(·lia);apply ag.fS hf;unfold ag.aT;rw[show f.size-1=f.size-2+1 by lia];exact k
 have:=ag.Lt.fz (by rw[show f.size-1+1=f.size by lia];exact f.b_);have:=ag.dS this;lia
theorem w8{f:ag Int}(h:f.kX):¬Dv f (ag.fz f):=by intro k;obtain⟨h1,h2⟩:=QP h.pos;have:=ag.fm k h1;lia
theorem F8(hs:s≠0)(h:Ac s):∃u v c,c≠0/\ag.C c=u*s+v*ag.fz s:=by
 obtain⟨d,u,v,c,hc,hd,h1,h2,h3⟩:=ag.VH (f:=s) (g:=ag.fz s) (.inl hs);by_cases e:1<d.size;.exfalso;obtain⟨g,hg,yu⟩:=ag.zP e;obtain⟨x,hx⟩:=yu.trans h1;have h4:=yu.trans h2;rw[hx,ag.mC]at h4;(have h5:Dv g (ag.fz g*x):=by have:=h4.sub (Dv.left g (ag.fz x));(have e2:ag.fz g*x+g*ag.fz x-g*ag.fz x=ag.fz g*x:=by grind);rwa[e2]at this);rcases hg.prime h5 with k|k;(·exact w8 hg k);obtain⟨y,hy⟩:=k;exact h g hg ⟨y,by rw[hx,hy];grind⟩
 have e1:d=ag.C (d.c 0):=(ag.cS ⋯).o_;have hd2:=hd;rw[e1]at hd2;have hk:=ag.e9.C hd2;refine⟨u,v,c*d.c 0,cF hc (by rcases hk with e|e<;>rw[e]<;>decide),?_⟩;rw[ag.dw,<-e1,h3]
theorem yZ(hp:p.e9)(hd:Af d p (ag.fz p))(e:p=d*r):Ac r/\∀f,f.kX->Dv f p->Dv f r:=by
 have key:∀f,f.kX->Dv f p->Dv f r/\¬Dv (f*f) r:=by
  intro f hf GV;obtain⟨n,q,hq,hn⟩:=hf.val hp.ne;cases n with
   |zero=>exfalso;rw[aL]at hq;apply hn;(have:q=p:=by rw[hq];grind);rw[this];exact GV
   |succ n=>(have acl:ag.fz p=f^n*(ag.C (ag.cw (n+1))*ag.fz f*q+f*ag.fz q):=by rw[hq,ag.mC,ag.yy,ay];grind);(have hw:¬Dv f (ag.C (ag.cw (n+1))*ag.fz f*q+f*ag.fz q):=by intro k;(have k2:Dv f (ag.C (ag.cw (n+1))*ag.fz f*q):=by have:=k.sub (Dv.left f (ag.fz q));(have e2:ag.C (ag.cw (n+1))*ag.fz f*q+f*ag.fz q-f*ag.fz q=ag.C (ag.cw (n+1))*ag.fz f*q:=by grind);rwa[e2]at this);rcases hf.prime k2 with k3|k3;(·rcases hf.prime k3 with k4|k4;(·refine hf.BS (c:=ag.cw (n+1)) ?_ k4;show((n+1:Nat):Int)≠0;lia);exact w8 hf k4);exact hn k3);generalize (ag.C (ag.cw (n+1))*ag.fz f*q+f*ag.fz q)=w at*;obtain⟨c,u,v,hc,hl⟩:=hd.Ih;obtain⟨z,_,hz⟩:=(hf.prim.pow n).et hc (h:=d) (g:=u*f*q+v*w) (by rw[hl,acl,hq,ay];grind);(have hzn:¬Dv f z:=by rintro⟨y,hy⟩;obtain⟨x,hx⟩:=hd.dq;apply hw;refine⟨y*x,?_⟩;apply iC.et (iC.md hf.ne n);rw[<-acl,hx,hz,hy];grind);(have hfq:f*q=z*r:=by apply iC.et (iC.md hf.ne n);(have:f^n*(f*q)=p:=by rw[hq,ay];grind);rw[this,e,hz];grind);(have A1:Dv f r:=by rcases hf.prime ⟨q,hfq.symm⟩with k|k;(·exact ap k hzn);exact k);refine⟨A1,?_⟩;rintro⟨y,hy⟩;apply hn;refine⟨z*y,?_⟩;apply iC.et hf.ne;rw[hfq,hy];grind
 refine⟨λf hf k=>?_,λf hf k=>(key f hf k).1⟩;have GV:Dv f p:=by rw[e];exact((Dv.left f f).trans k).mul_left _
 exact(key f hf GV).2 k
theorem oa{K:Type}[bI K][nU K]{f:ag K}(h:kC f (ag.fz f)):f.pC:=by rintro P hP ⟨x,hx⟩;apply hP.oN;obtain⟨u,v,e⟩:=h;refine⟨u*(P*x)+v*(ag.fz P*x+ag.fz P*x+P*ag.fz x),?_⟩;rw[<-e,hx,ag.mC,ag.mC];grind
theorem vv{R S:Type}[bI R][bI S](h:gJ R S)(f:ag R):(ag.fz f).map h=ag.fz (f.map h):=ag.ext λi=>by rw[ag.mM,ag.ol,ag.ol,h.mul,h.cw];rfl
structure Ek(s:ag Int):Prop where
 size:s.size<=17
 c:∀i,(s.c i).natAbs<=2^52
theorem oZ{n:Nat}{f:Nat->Int}{B:Nat}(h:∀i,i<n->f i<=B):bZ n f<=n*B:=by
 induction n with
  |zero=>rw[dN];simp
  |succ n ih=>have h1:=ih λi hi=>h i ⋯;have h2:=h n ⋯;rw[bE,fT,Int.add_mul];lia
theorem Ek.eG(h:Ek s){n:Nat}(hn:n<=17):ag.eG s n<=17*2^52:=by
 have h1:ag.eG s n<=n*(2^52:Nat):=oZ λi _=>by have:=h.c i;lia
 lia
theorem Ek.Xv(h:Ek s){n:Nat}(hn:n<=16):ag.eG (ag.fz s) n<=16*(16*2^52):=by
 have h1:ag.eG (ag.fz s) n<=n*(16*2^52:Nat):=oZ λi hi=>by have h2:=h.c (i+1);rw[ag.ol,cP];have e:(ag.cw (i+1):Int)=((i+1:Nat):Int):=rfl;rw[e,il];have h3:(i+1)*(s.c (i+1)).natAbs<=16*2^52:=dJ ⋯ h2;lia
 lia
theorem Ek.res{s:ag Int}(h:Ek s)(h2:1<s.size)(hs:Ac s):∃(u v:ag Int) (D:Int),D≠0/\ag.C D=u*s+v*ag.fz s/\D.natAbs<=2^1953:=by have hsz:=h.size;have hs0:s≠0:=ag.aS.mp ⋯;obtain⟨u,v,D,h3,h4,h5⟩:=ag.LM (f:=s) (g:=ag.fz s) (n:=s.size-1) ⋯ ⋯ (ag.Lt.fz (by rw[show s.size-1+1=s.size by lia];exact s.b_)) (QP h2).1 (F8 hs0 hs) (B:=2^61) (by have a1:=h.eG (n:=s.size-1+1) ⋯;have a2:=h.Xv (n:=s.size-1) ⋯;lia);refine⟨u,v,D,h3,h4,br h5 ?_⟩;have h6:(2*2^61+1)^(2*(s.size-1)-1)<=(2^63)^(2*(s.size-1)-1):=nX ∅ _;have h7:(2^63)^(2*(s.size-1)-1)<=(2^63)^31:=bg ∅ ⋯;lia
theorem z0(hb:Pr b)(h:ag.C D=u*s+v*ag.fz s)(hD:¬(b:Int)∣D):kC (s.map (red b)) (ag.fz (s.map (red b))):=by
 have mj:=cn hb;have h1:(red b).f D≠0:=λe=>hD (gr.mp (cp.dh.mp e));obtain⟨w,hw⟩:=nU.inv _ h1;have h2:=aK (λq=>q.map (red b)) h;simp only[ag.np,ag.gN,ag.cj,vv]at h2;refine⟨ag.C w*u.map (red b),ag.C w*v.map (red b),?_⟩;have h3:(ag.C w:ag (Zp b))*ag.C ((red b).f D)=1:=by rw[<-ag.dw,show w*(red b).f D=1 by grind,ag.eC]
 grind
structure DU(b:Nat):Prop where
 big:El b
 odd:b%2=1
 gt:5000<b
theorem BK:∀b,b∈pw->DU b:=by
 intro b hb;simp only[pw,bi,jg,or_false]at hb;rcases hb with rfl|rfl|rfl|rfl|rfl|rfl;.exact⟨⟨aeF,by decide+kernel⟩,by decide+kernel,by decide+kernel⟩
 .exact⟨⟨aeE,by decide+kernel⟩,by decide+kernel,by decide+kernel⟩
 .exact⟨⟨aaV,by decide+kernel⟩,by decide+kernel,by decide+kernel⟩
 .exact⟨⟨aaU,by decide+kernel⟩,by decide+kernel,by decide+kernel⟩
 .exact⟨⟨aaT,by decide+kernel⟩,by decide+kernel,by decide+kernel⟩
 exact⟨⟨WR,by decide+kernel⟩,by decide+kernel,by decide+kernel⟩
theorem ye(l:List Int):(((l.map λc=>c.natAbs).sum:Nat):Int)=ag.eG (aA l) l.length:=by
 refine snoc_ind (P:=λl=>(((l.map λc=>c.natAbs).sum:Nat):Int)=ag.eG (aA l) l.length) rfl ?_ l;intro l a ih;rw[aF,li,fT,ih];unfold ag.eG;rw[bw,ck,bE];congr 1;.apply bJ;intro i hi;rw[fb,fb];simp only[aD,bA hi]
 rw[fb];simp
theorem gcd_one(hb:El b)(hp:sW b p)(hq:sW b q)(hl:q.length<40)(h0:p≠[]\/q≠[]):(jJ b 40 p q).length=1↔kC (cZ b p) (cZ b q):=by
 have mj:=cn hb.pr;obtain⟨h1,h2⟩:=Cf hb 40 p q hp hq h0 hl;obtain⟨n,hn⟩:=h2.mon;have hs:=hn.size;rw[h1.size]at hs;constructor;.intro h;have:n=0:=⋯;subst this;obtain⟨u,v,e⟩:=h2.Ih;exact⟨u,v,by rw[<-e,hn.zero_eq]⟩
 rintro⟨u,v,e⟩;have hd:Dv (cZ b (jJ b 40 p q)) 1:=by rw[<-e];exact(h2.dp.mul_left _).add (h2.dq.mul_left _)
 have:=ag.fm hd ag.one_ne_zero;rw[h1.size]at this;have h1:(1:ag (Zp b)).size=1:=ag.fP nU.ej;lia
theorem HR(hp:fc p)(h:Ek (aA p))(h2:1<(aA p).size)(hs:Ac (aA p)):DU (q_ p)/\mG p<q_ p/\kC ((aA p).map (red (q_ p))) (ag.fz ((aA p).map (red (q_ p)))):=by
 have hlen:=bH.mp hp;have hsz:=h.size;have Qj:mG p<2^2203-1:=by unfold mG;rw[fj,dz];have a1:2^((aA p).size-1)<=2^16:=bg ∅ ⋯;have a2:(aA p).aT.natAbs<=2^52:=h.c _;(have a3:(p.map λc=>c.natAbs).sum+1<=17*2^52+1:=by have:=ye p;have:=h.eG (n:=p.length) ⋯;lia);have a4:4*2^((aA p).size-1)*(aA p).aT.natAbs*((p.map λc=>c.natAbs).sum+1)<=4*2^16*2^52*(17*2^52+1):=dJ (dJ (di 4 a1) a2) a3;(have a5:4*2^16*2^52*(17*2^52+1)<2^2203-1:=by decide+kernel);exact bS a4 a5
 have xK:∀b,DU b->mG p<b->((jJ b 40 (dZ b p) (dZ b (gR p))).length=1↔kC ((aA p).map (red b)) (ag.fz ((aA p).map (red b)))):=by intro b hb My;obtain⟨a1,a2⟩:=qL hb.big.pos p;obtain⟨d1,d2⟩:=qL hb.big.pos (gR p);rw[rR,vv]at d2;(have fV:(red b).f (aA p).aT≠0:=by intro e;have hd:=gr.mp (cp.dh.mp e);have h3:=ag.fS (ag.aS.mp (show 0<(aA p).size by lia));have h4:=eQ ⋯ (dc.mp hd);(have h5:(aA p).aT.natAbs<=mG p:=by unfold mG;rw[dz];(have e1:1<=4*2^dB p:=by have:=kr (n:=dB p) (show 0<2 by decide);lia);have e2:=bu (aA p).aT.natAbs e1;lia);lia);(have kd:dZ b p≠[]:=by intro e;rw[e,jK]at a2;apply fV;have:=aK (λq=>q.c ((aA p).size-1)) a2;simp only[ag.dj,ag.mM]at this;exact this.symm);(have hl:(dZ b (gR p)).length<40:=by rw[<-d1.size,d2];(have:(ag.fz ((aA p).map (red b))).Lt 17:=by rw[<-vv];exact ag.Lt.map (ag.Lt.fz ((aA p).b_.mono ⋯)) _);have:=ag.dS this;lia);rw[gcd_one hb.big a1 d1 hl (.inl kd),a2,d2]
 have vf:(jJ (2^2203-1) 40 (dZ (2^2203-1) p) (dZ (2^2203-1) (gR p))).length=1:=by have hu:DU (2^2203-1):=BK _ (by simp[pw]);rw[xK _ hu Qj];obtain⟨u,v,D,d1,d2,d3⟩:=h.res h2 hs;apply z0 hu.big.pr d2;intro hd;have:=eQ ⋯ (dc.mp hd);lia
 generalize hM:2^2203-1=M at*;have hMm:M∈pw:=by rw[<-hM];simp[pw]
 unfold q_;cases hf:pw.find? λb=>decide (mG p<b)&&(jJ b 40 (dZ b p) (dZ b (gR p))).length==1 with
  |none=>exfalso;rw[List.find?_eq_none]at hf;apply hf M hMm;simp[Qj,vf]
  |some b=>have h3:=List.find?_some hf;have h4:=List.mem_of_find?_eq_some hf;simp only[cR,decide_eq_true_eq,beq_iff_eq]at h3;have hu:=BK b h4;exact⟨hu,h3.1,(xK b hu h3.1).mp h3.2⟩
end Tk
end
section
set_option exponentiation.threshold 3000
namespace Tk
open Lean.Grind
open ag (ir jn pC prod)
theorem qx{K:Type}[bI K][nU K]{l:List (ag K)}(h:∀P,P∈l->P.ir/\P.jn):l.length+1<=(prod l).size:=by
 induction l with
  |nil=>have:(prod ([]:List (ag K))).size=1:=ag.fP nU.ej;simp[this]
  |cons a l ih=>have h1:=ih λP hP=>h P (al _ hP);have h2:=h a aq;have h3:=jn.prod λP hP=>(h P (al _ hP)).2;have h4:=ag.bM h2.2.ne h3.ne;have:=h2.1.pos;simp only[prod,a7];lia
theorem sw{f:ag Int}{M:Nat}(h:2*(2^(f.size-1)*ag.eG f f.size)<M)(h0:f≠0):∀g h,f=g*h->∀i,2*(h.aT*g.c i).natAbs<M:=by
 intro g k e i;have AA:g≠0:=by rintro rfl;apply h0;rw[e];grind
 have hk0:k≠0:=by rintro rfl;apply h0;rw[e];grind
 have hgs:=ag.aS.mpr AA;have hks:=ag.aS.mpr hk0;have hs:=ag.bM AA hk0;rw[<-e]at hs;by_cases hi:i<=g.size-1;.have:=ag.Ps (m:=g.size-1) (n:=k.size-1) (i:=i) (P:=g) (Q:=k) (g.b_.mono ⋯) (k.b_.mono ⋯) hi;rw[<-e,show g.size-1+(k.size-1)+1=f.size by lia,show g.size-1+(k.size-1)=f.size-1 by lia,gX]at this;have e2:k.aT*g.c i=k.c (k.size-1)*g.c i:=rfl;rw[e2];lia
 rw[g.b_ i ⋯,GP];have:=ag.lK f f.size;have:0<=(2:Int)^(f.size-1)*ag.eG f f.size:=eO (by exact_mod_cast bX (2^(f.size-1))) this;simp;lia
theorem HJ{f:ag Int}(h:f.size=2)(hp:f.e9)(hl:0<f.aT):f.kX:=by
 refine⟨⋯,hp,hl,λa b e=>?_⟩;have vX:a≠0:=by rintro rfl;apply hp.ne;rw[e];grind
 have wA:b≠0:=by rintro rfl;apply hp.ne;rw[e];grind
 have:=ag.bM vX wA;rw[<-e]at this;lia
theorem C4{p:List Int}(hp:fc p)(h:Ek (aA p))(l7:(aA p).e9)(fV:0<(aA p).aT)(hs:Ac (aA p)):prod ((v0 p).map aA)=aA p/\∀x,x∈v0 p->fc x/\(aA x).kX:=by
 have hps:=ag.aS.mpr l7.ne;have hlen:=bH.mp hp;unfold v0;rw[fj];by_cases h0:(aA p).size-1=0;.rw[aj h0];refine⟨?_,λx hx=>by cases hx⟩;have e1:=(ag.cS (show(aA p).size<=1 by lia)).o_;have e2:=l7;rw[e1]at e2;rw[e1,ag.j4]at fV;rcases ag.e9.C e2 with k|k;(·rw[e1,k,ag.eC];rfl);lia
 rw[ah h0];by_cases h1:(aA p).size-1=1;.rw[aj h1];refine⟨by simp only[aR,cK,prod];grind,?_⟩;intro x hx;simp only[a6]at hx;subst hx;exact⟨hp,HJ ⋯ l7 fV⟩
 rw[ah h1];dsimp only;obtain⟨hu,hbd,xK⟩:=HR hp h ⋯ hs;generalize q_ p=b at*;have mj:=cn hu.big.pr;obtain⟨a1,a2⟩:=qL hu.big.pos p;have Vv:2*(2^((aA p).size-1)*ag.eG (aA p) (aA p).size)<b:=by have e1:=ye p;rw[<-hlen]at e1;unfold mG at hbd;rw[fj,dz]at hbd;have e2:1<=(aA p).aT.natAbs:=⋯;(have e3:2^((aA p).size-1)*((p.map λc=>c.natAbs).sum+1)<=2^((aA p).size-1)*(aA p).aT.natAbs*((p.map λc=>c.natAbs).sum+1):=by apply bu;have:=di (2^((aA p).size-1)) e2;lia);(have e4:4*2^((aA p).size-1)*(aA p).aT.natAbs*((p.map λc=>c.natAbs).sum+1)=4*(2^((aA p).size-1)*(aA p).aT.natAbs*((p.map λc=>c.natAbs).sum+1)):=by grind);rw[e4]at hbd;rw[<-e1];(have e5:((2^((aA p).size-1)*(p.map λc=>c.natAbs).sum:Nat):Int)=2^((aA p).size-1)*(((p.map λc=>c.natAbs).sum:Nat):Int):=by rw[cg,rK];rfl);rw[<-e5];rw[Jv]at e3;lia
 have TR:(red b).f (aA p).aT≠0:=by intro e;have hd:=gr.mp (cp.dh.mp e);have h4:=eQ ⋯ (dc.mp hd);have:=sw Vv l7.ne (aA p) 1 (by grind) ((aA p).size-1);have e1:(1:ag Int).aT=1:=ag.j4 1;rw[e1,Int.one_mul]at this;have e2:(aA p).c ((aA p).size-1)=(aA p).aT:=rfl;rw[e2]at this;lia
 have hsz:((aA p).map (red b)).size=(aA p).size:=by have:=ag.jb (p:=(aA p).map (red b)) (n:=(aA p).size-1) (((aA p).b_.map _).mono ⋯) TR;lia
 have Cb:(dZ b p).length=(aA p).size:=by rw[<-a1.size,a2,hsz]
 have hne:dZ b p≠[]:=by intro e;rw[e]at Cb;simp at Cb;lia
 obtain⟨o1,o2,c,hc,o3⟩:=uh hu.big a1 hne;rw[a2]at o3;rw[Cb]at o2;have hcl:c*(red b).f (aA p).aT=1:=by have:=o2.one;rwa[o3,ag.cA]at this
 have hCC:(ag.C c:ag (Zp b))*ag.C ((red b).f (aA p).aT)=1:=by rw[<-ag.dw,hcl,ag.eC]
 have tq:(cZ b (kg b (dZ b p))).pC:=by have h5:=oa xK;intro P hP hd;apply h5 P hP;rw[o3]at hd;obtain⟨y,hy⟩:=hd;exact⟨ag.C ((red b).f (aA p).aT)*y,by grind⟩
 have hgood:=Good.of hu.big o1 o2 tq (by rw[<-o1.size,o2.size];have:=h.size;lia);obtain⟨m1,m2⟩:=AU hu.big hu.odd hu.gt hgood;generalize uw b (kg b (dZ b p))=l at*;have uo:∀P,P∈l.map (cZ b)->P.ir/\P.jn:=λP hP=>by obtain⟨y,hy,rfl⟩:=ao.mp hP;exact(m2 y hy).2
 have hnd:=pC.nodup uo (by rw[m1];exact tq);have Qe:(aA p).map (red b)=ag.C ((red b).f (aA p).aT)*prod (l.map (cZ b)):=by rw[m1,o3];grind
 have acA:fE b b (gv b) (aA p) (prs b l):=by refine⟨l7,fV,⟨c,by grind⟩,?_,by rw[J6];exact hnd,by rw[J6];exact Qe,?_,sw Vv l7.ne⟩;(·intro x hx;obtain⟨y,hy,rfl⟩:=ao.mp hx;exact⟨(m2 y hy).2.1,(m2 y hy).2.2,⟨_,(m2 y hy).2.2⟩,zz _ _⟩);intro g hg s t i5 hS;obtain⟨s',t',h3,rfl,rfl⟩:=BJ i5;rw[J5];refine B8 hu.big.pr TR uo hnd Qe hg (s:=s'.map (cZ b)) (t:=t'.map (cZ b)) (by rw[<-aF];exact h3.map _) ?_ ?_;(·intro x hx;obtain⟨y,hy,rfl⟩:=ao.mp hx;exact hS.yes (cZ b y,cZ b y) (ao.mpr ⟨y,hy,rfl⟩));intro x hx;obtain⟨y,hy,rfl⟩:=ao.mp hx;exact hS.no (cZ b y,cZ b y) (ao.mpr ⟨y,hy,rfl⟩)
 have mJ:l.length<=16:=by have:=qx uo;rw[m1,o2.size,ab]at this;have:=h.size;lia
 exact Fy hu.big.pr 100 1 p l hp (by have:=h.size;lia) ⋯ acA ⋯ (acA.BU hu.big.pr) ⋯
theorem kX.WS{f a b:ag Int}(h:f.kX)(ha:¬Dv f a){n:Nat}(k:Dv (f^n) (a*b)):Dv (f^n) b:=by
 induction n generalizing b with
  |zero=>rw[aL];exact Dv.one _
  |succ n ih=>(have h1:Dv f (a*b):=by rw[ay]at k;exact(Dv.right f (f^n)).trans k);rcases h.prime h1 with e|e;(·exact ap e ha);obtain⟨c,rfl⟩:=e;(have h2:Dv (f^n) (a*c):=by obtain⟨x,hx⟩:=k;refine⟨x,?_⟩;apply iC.et h.ne;rw[ay]at hx;grind);rw[ay];obtain⟨y,hy⟩:=ih h2;exact⟨y,by rw[hy];grind⟩
theorem OR{p:ag Int}(hp:p.e9)(lp:0<p.aT){l:List (ag Int)}(hl:∀f,f∈l->f.kX)(hn:l.Nodup)(e:ag Int->Nat)(he:∀f,f∈l->∃b,p=f^e f*b/\¬Dv f b)(iV:∀f:ag Int,f.kX->Dv f p->f∈l):p=prod (l.map λf=>f^e f):=by
 have key:∀m:List (ag Int),(∀f,f∈m->f∈l)->m.Nodup->∃w,p=prod (m.map λf=>f^e f)*w/\∀f,f∈m->¬Dv f w:=by
  intro m;induction m with
   |nil=>intro _ _;exact⟨p,by simp only[cK,prod];grind,λf hf=>ap hf jg⟩
   |cons a m ih=>intro hm hn;rw[bO]at hn;obtain⟨w,hw,hnw⟩:=ih (λf hf=>hm f (al _ hf)) hn.2;have hal:=hm a aq;have has:=hl a hal;(have hna:¬Dv a (prod (m.map λf=>f^e f)):=by intro k;obtain⟨c,hc,hd⟩:=has.jX k;obtain⟨f,hf,rfl⟩:=ao.mp hc;have:=has.eq (hl f (hm f (al _ hf))) (has.sI hd);exact hn.1 (this ▸ hf));obtain⟨b,hb,hnb⟩:=he a hal;(have h1:Dv (a^e a) (prod (m.map λf=>f^e f)*w):=by rw[<-hw];exact⟨b,hb⟩);obtain⟨v,hv⟩:=kX.WS has hna h1;refine⟨v,by rw[aR,prod,hw,hv];grind,?_⟩;intro f hf k;rcases bi.mp hf with rfl|hf;(·apply hnb;(have:b=prod (m.map λf=>f^e f)*v:=by apply iC.et (iC.md has.ne (e f));rw[<-hb,hw,hv];grind);rw[this];exact k.mul_left _);exact hnw f hf (by rw[hv];exact k.mul_left _)
 obtain⟨w,hw,hnw⟩:=key l (λf hf=>hf) hn;have hw1:w.size<=1:=by apply ae;intro hc;obtain⟨f,hf,hd⟩:=ag.zP (f:=w) ⋯;exact hnw f (iV f hf (by rw[hw];exact hd.mul_left _)) hd
 have e1:=(ag.cS hw1).o_;have Zr:w.e9:=hp.jt ⟨prod (l.map λf=>f^e f),by rw[hw];grind⟩;rw[e1]at Zr;have aii:0<(prod (l.map λf=>f^e f)).aT:=by
  have:∀m:List (ag Int),(∀f,f∈m->f∈l)->0<(prod (m.map λf=>f^e f)).aT:=by
   intro m;induction m with
    |nil=>intro _;show 0<(1:ag Int).aT;rw[<-ag.eC,ag.j4];decide
    |cons a m ih=>intro hm;rw[aR,prod,ag.df];exact ku (Dp (hl a (hm a aq)).aT _) (ih λf hf=>hm f (al _ hf))
  exact this l λf hf=>hf
 rcases ag.e9.C Zr with k|k;·(have hw2:w=1:=by rw[e1,k];rfl);rw[hw2]at hw;exact hw.trans (by grind)
 exfalso;rw[hw,ag.df,e1,k,ag.j4]at lp;lia
theorem wk(hp:p.size<=17)(hc:∀i,(p.c i).natAbs<=2^31)(kd:p≠0)(h:Dv q p):Ek q:=by
 obtain⟨r,e⟩:=h;have nS:q≠0:=by rintro rfl;apply kd;rw[e];grind
 have hr0:r≠0:=by rintro rfl;apply kd;rw[e];grind
 have TJ:=ag.aS.mpr nS;have hrs:=ag.aS.mpr hr0;have hs:=ag.bM nS hr0;rw[<-e]at hs;refine⟨⋯,λi=>?_⟩;have hn:ag.eG p p.size<=17*2^31:=by(have h1:ag.eG p p.size<=p.size*(2^31:Nat):=oZ λi _=>by have:=hc i;lia);lia
 have hn0:=ag.lK p p.size;have hM:2*(2^(p.size-1)*ag.eG p p.size)<((2^53:Nat):Int):=by(have e1:(2:Int)^(p.size-1)<=2^16:=by have:2^(p.size-1)<=2^16:=bg ∅ ⋯;exact_mod_cast this);have e2:=UQ e1 hn hn0 ∅;lia
 have:=sw hM kd q r e i;have hl:=ag.fS hr0;rw[cP]at this;have h2:1<=r.aT.natAbs:=⋯;have h3:=bu (q.c i).natAbs h2;lia
theorem JV(h:cU p):fc p/\(aA p).size<=17/\∀i,((aA p).c i).natAbs<=2^31:=by have h1:=qu.mpr h.1;refine⟨h1,by rw[bH.mp h1];exact h.2.1,?_⟩;apply(nQ p (λc=>c.natAbs<=2^31) (by simp)).mp;intro c hc;have:=h.2.2 c hc;lia
theorem Wk(hp:fc p)(h0:aA p≠0):sgn p=if 0<bm p then(aB p:Int)else-(aB p:Int):=by
 unfold sgn;rw[gl hp];have:=ag.fS h0;rw[<-dz]at this;by_cases h:0<bm p;.rw[aj h,ah ⋯]
 rw[ah h,aj ⋯]
theorem I0{p:List Int}(h:cU p)(h0:p≠[]):aA p=ag.C (sgn p)*pp (cq p)/\Parts (cq p):=by
 obtain⟨ht,hsz,hc⟩:=JV h;have kd:aA p≠0:=λe=>h0 ((bP ht).mp e);obtain⟨c,xk,he,h1,h2,h3,h4⟩:=eh kd;rw[<-h4];unfold cq;dsimp only;have agN:(aA (aV p)).size<=17:=by rw[jD];exact hsz
 have hPc:∀i,((aA (aV p)).c i).natAbs<=2^31:=by intro i;have:=hc i;rw[he,ag.cA,cP]at this;have h5:1<=c.natAbs:=⋯;have:=bu ((aA (aV p)).c i).natAbs h5;lia
 generalize hPd:aV p=P at*;have hds:(aA (aV (gR P))).size<=17:=by rw[jD,rR];have:(ag.fz (aA P)).Lt 17:=ag.Lt.fz ((aA P).b_.mono ⋯);exact ag.dS this
 obtain⟨g1,g2⟩:=zM 200 P (aV (gR P)) (.inl h1.ne) (by split<;>lia);generalize hG:ow 200 P (aV (gR P))=G at*;have g3:Af (aA G) (aA P) (ag.fz (aA P)):=by rw[<-rR];by_cases e:aA (gR P)=0;(·rw[pP e]at g1;rw[e];have:=(bP fc.nil).mpr rfl;rwa[this]at g1);obtain⟨d,hd,Yq,_⟩:=eh e;exact g1.scale hd Yq
 obtain⟨r,hr⟩:=g3.dp;obtain⟨R,hR,ZL⟩:=o6 g2 g3.prim.ne ⋯ hr;rw[hR];simp only[gT];have X1:r.e9:=h1.jt ⟨aA G,by rw[hr];grind⟩;have hrl:0<r.aT:=by(have e1:(aA P).aT=(aA G).aT*r.aT:=by rw[hr,ag.df]);have:=g3.aT;apply ae;intro hc;have:(aA G).aT*r.aT<=0:=d9 ⋯ ⋯;lia
 have hs:aA (aV R)=r:=by rw[LV (by rw[ZL];exact X1) (by rw[ZL];exact hrl),ZL]
 obtain⟨q1,q2⟩:=yZ h1 g3 hr;obtain⟨s1,s2⟩:=C4 (OU R) (by rw[hs];exact wk agN hPc h1.ne ⟨aA G,by rw[hr];grind⟩) (by rw[hs];exact X1) (by rw[hs];exact hrl) (by rw[hs];exact q1);rw[hs]at s1;generalize v0 (aV R)=L at*;have hLs:∀f,f∈L.map aA->f.kX:=λf hf=>by obtain⟨x,hx,rfl⟩:=ao.mp hf;exact(s2 x hx).2
 have ZO:(L.map aA).Nodup:=by
  have:∀m,(∀f,f∈m->f.kX)->Ac (prod m)->m.Nodup:=by
   intro m;induction m with
    |nil=>intro _ _;exact lV
    |cons a m ih=>intro hm hq;rw[bO];refine⟨λha=>?_,ih (λf hf=>hm f (al _ hf)) (λf hf k=>hq f hf (k.mul_left _))⟩;obtain⟨x,hx⟩:=ag.gy ha;exact hq a (hm a aq) ⟨x,by simp only[prod];rw[hx];grind⟩
  exact this _ hLs (by rw[s1];exact q1)
 have abK:∀x,x∈L->∃b,aA P=aA x^gC P x 40*b/\¬Dv (aA x) b/\1<=gC P x 40:=by
  intro x hx;have hxs:=s2 x hx;obtain⟨n,b,hb,hnb⟩:=hxs.2.val h1.ne;have P2:n<17:=by
   (have wA:b≠0:=by rintro rfl;exact hnb (Dv.zero _));have e1:=ag.bM (iC.md hxs.2.ne n) wA;rw[<-hb]at e1;have e2:=ag.aS.mpr wA;have e3:∀k,k+1<=(aA x^k).size:=by
    intro k;induction k with
     |zero=>rw[aL];have:(1:ag Int).size=1:=ag.fP ∅;lia
     |succ k ih=>rw[ay];have:=ag.bM (iC.md hxs.2.ne k) hxs.2.ne;have:=hxs.2.pos;lia
   have:=e3 n;lia
  have hof:=Pe hxs.1 hxs.2 40 n P b ⋯ hb hnb ⋯;rw[hof];refine⟨b,hb,hnb,?_⟩;apply ae;intro hc;have:n=0:=⋯;subst this;apply hnb;(have hd:Dv (aA x) (aA P):=by rw[hr];refine Dv.mul_left _ ?_;rw[<-s1];exact ag.gy (dE hx));(have:b=aA P:=by rw[hb,aL];grind);rw[this];exact hd
 have af6:∀x,x∈L->∀y,y∈L->aA x=aA y->x=y:=λx hx y hy e=>lF (s2 x hx).1 (s2 y hy).1 e;have agQ:L.Nodup:=by
  have:∀m:List (List Int),(m.map aA).Nodup->m.Nodup:=by
   intro m;induction m with
    |nil=>intro _;exact lV
    |cons a m ih=>intro h;rw[aR,bO]at h;rw[bO];exact⟨λk=>h.1 (dE k),ih h.2⟩
  exact this L ZO
 have oP:aA P=prod ((L.map λq=>(q,gC P q 40)).map λx=>aA x.1^x.2):=by have Yp:∀f,Decidable (∃x,x∈L/\aA x=f):=λ_=>oF _;let e:ag Int->Nat:=λf=>if hf:∃x,x∈L/\aA x=f then gC P (lP hf) 40 else 0;(have he:∀x,x∈L->e (aA x)=gC P x 40:=by intro x hx;have hf:∃y,y∈L/\aA y=aA x:=⟨x,hx,rfl⟩;simp only[e,dif_pos hf];have zG:=gV hf;rw[af6 _ zG.1 x hx zG.2]);have:=OR h1 h2 hLs ZO e (λf hf=>by obtain⟨x,hx,rfl⟩:=ao.mp hf;obtain⟨b,hb,hnb,_⟩:=abK x hx;exact⟨b,by rw[he x hx];exact hb,hnb⟩) (λf hf hd=>by have h5:=q2 f hf hd;rw[<-s1]at h5;obtain⟨a,ha,hda⟩:=hf.jX h5;rw[hf.eq (hLs a ha) hda];exact ha);rw[this,be,be];congr 1;apply cY;intro x hx;show aA x^e (aA x)=aA x^gC P x 40;rw[he x hx]
 have PV:=List.mergeSort_perm (L.map λq=>(q,gC P q 40)) λx y=>x.1==y.1||dO x.1 y.1;have X3:=List.pairwise_mergeSort (le:=λx y=>x.1==y.1||dO x.1 y.1) (by intro a b d pW hbd;simp only[eP,beq_iff_eq]at pW hbd ⊢;rcases pW with e|e;(·rw[e];exact hbd);rcases hbd with k|k;(·rw[<-k];exact .inr e);exact .inr (DP _ _ _ e k)) (by intro a b;simp only[eP,beq_iff_eq];by_cases e:a.1=b.1;(·exact .inl (.inl e));rcases DQ a.1 b.1 e with k|k;(·exact .inl (.inr k));exact .inr (.inr k)) (L.map λq=>(q,gC P q 40));generalize (L.map λq=>(q,gC P q 40)).mergeSort (λx y=>x.1==y.1||dO x.1 y.1)=S at*;constructor;.rw[he,oP];congr 1;exact(ag.jE (PV.map _)).symm
 constructor;.intro x hx;obtain⟨y,hy,rfl⟩:=ao.mp (PV.mem_iff.mp hx);obtain⟨b,_,_,h5⟩:=abK y hy;exact⟨(s2 y hy).1,(s2 y hy).2,h5⟩
 have hSn:(S.map cy).Nodup:=by(have e1:((L.map λq=>(q,gC P q 40)).map cy)=L:=by rw[be];exact List.map_id _);have e2:=(PV.map cy).nodup_iff.mpr (by rw[e1];exact agQ);exact e2
 have:∀m:List (List Int×Nat),(m.map cy).Nodup->m.Pairwise (λa b=>(a.1==b.1||dO a.1 b.1)=true)->m.Pairwise λx y=>dO x.1 y.1=true:=by
  intro m;induction m with
   |nil=>intro _ _;exact kJ
   |cons a m ih=>intro hn hm;rw[aR,bO]at hn;rw[ie]at hm;refine iX (λy hy=>?_) (ih hn.2 hm.2);have h5:=hm.1 y hy;simp only[eP,beq_iff_eq]at h5;rcases h5 with e|e;(·exact ap (by rw[e];exact dE hy) hn.1);exact e
 exact this S hSn X3
theorem z8:Rc37.ApartMain:=by intro p h h0;obtain⟨ht,_,_⟩:=JV h;have kd:aA p≠0:=λe=>h0 ((bP ht).mp e);rw[wK,<-Wk ht kd];exact I0 h h0
end Tk
end
section
namespace Tk
open Lean.Grind
open ag (ir jn pC prod)
theorem nH(l:List Int)(k:Int):aA (l.map λx=>x*k)=ag.C k*aA l:=ag.ext λi=>by rw[qv _ _ (by simp),ag.cA,gX]
theorem BD(h:fc l)(hk:k≠0):fc (l.map λx=>x*k):=by
 by_cases h0:aA l=0;.have:=(bP h).mp h0;subst this;exact fc.nil
 rw[bH,nH,ab,<-bH.mp h];have:=ag.bM (p:=ag.C k) (q:=aA l) (λe=>hk (ag.iu (b:=0) e)) h0;rw[ag.fP hk]at this;lia
structure M9(p q d:ag Int):Prop where
 aT:0<d.aT
 dp:Dv d p
 dq:Dv d q
 most:∀e:ag Int,Dv e p->Dv e q->Dv e d
theorem M9.unique(h:M9 p q d)(k:M9 p q e):d=e:=by
 obtain⟨x,hx⟩:=h.most e k.dp k.dq;obtain⟨y,hy⟩:=k.most d h.dp h.dq;have oi:d≠0:=by rintro rfl;have:=h.aT;unfold ag.aT at this;rw[ag.dj]at this;lia
 have h1:x*y=1:=by apply iC.et oi;(have:d*(x*y)=(e*x)*1:=by rw[hy]at hx;(have e2:d*(x*y)=d*y*x:=by grind);rw[e2,<-hx];rw[hx];grind);rw[this,<-hx]
 have tm:x≠0:=by rintro rfl;apply ag.one_ne_zero (R:=Int);rw[<-h1];grind
 have Mj:y≠0:=by rintro rfl;apply ag.one_ne_zero (R:=Int);rw[<-h1];grind
 have hs:=ag.bM tm Mj;have h1s:(1:ag Int).size=1:=ag.fP ∅;rw[h1,h1s]at hs;have hxs:=ag.aS.mpr tm;have hys:=ag.aS.mpr Mj;have ex:=(ag.cS (show x.size<=1 by lia)).o_;have ey:=(ag.cS (show y.size<=1 by lia)).o_;have h2:x.c 0*y.c 0=1:=by rw[ex,ey,<-ag.dw]at h1;exact ag.iu (b:=1) h1
 have hl:d.aT=e.aT*x.c 0:=by have:=aK ag.aT hx;rwa[ag.df,ex,ag.j4]at this
 have Vo:x.c 0=1:=by(have h3:0<x.c 0:=by have:=h.aT;have:=k.aT;apply ae;intro hc;have:e.aT*x.c 0<=0:=d9 ⋯ ⋯;lia);have h4:=fJ ∅ (show x.c 0∣1 from⟨y.c 0,h2.symm⟩);lia
 rw[hx,ex,Vo,ag.eC];grind
theorem j5(h:aA p=ag.C m*x):m.natAbs∣aB p:=by apply iN.mpr;intro i;rw[h,ag.cA];exact tJ.mpr (pH _ _)
theorem sG(p:List Int)(hp:fc p):(sgn p).natAbs=aB p:=by unfold sgn;rw[gl hp];split<;>lia
theorem Gb(hq:fc q)(h0:aA q≠0):fc ((aV q).map λx=>x*(aB q:Int))/\M9 0 (aA q) (aA ((aV q).map λx=>x*(aB q:Int))):=by
 obtain⟨c,hc,e,h1,h2,h3,h4⟩:=eh h0;have hk:(aB q:Int)≠0:=by have:aB q≠0:=λe=>h0 (qH.mp e);lia
 refine⟨BD h3 hk,?_⟩;rw[nH];have hs:=sG q hq;rw[<-h4]at hs;obtain⟨s,hs1,hs2,NA⟩:∃s,s*s=1/\c=(aB q:Int)*s/\(aB q:Int)=c*s:=by rcases Ec c with k|k;(·exact⟨1,∅,⋯,⋯⟩);exact⟨-1,∅,⋯,⋯⟩
 have hD:ag.C (aB q:Int)*aA (aV q)=aA q*ag.C s:=by rw[NA,e,ag.dw];grind
 refine⟨?_,Dv.zero _,?_,λf _ hf=>?_⟩;.rw[ag.df,ag.j4];exact ku ⋯ h2
 .refine⟨ag.C s,?_⟩;rw[hD];(have:aA q*ag.C s*ag.C s=aA q*ag.C (s*s):=by rw[ag.dw];grind);rw[this,hs1,ag.eC];grind
 rw[hD];exact hf.mul_right _
theorem M9.symm(h:M9 p q d):M9 q p d:=⟨h.aT,h.dq,h.dp,λe h1 h2=>h.most e h2 h1⟩
theorem Up(hp:fc p)(hq:fc q)(kd:aA p≠0)(nS:aA q≠0)(hd:fc d)(hg:Af (aA d) (aA (aV p)) (aA (aV q))):fc (d.map λx=>x*(ot (aB p) (aB q):Nat))/\M9 (aA p) (aA q) (aA (d.map λx=>x*(ot (aB p) (aB q):Nat))):=by
 obtain⟨c,hc,e,h1,h2,h3,h4⟩:=eh kd;obtain⟨c',T1,e',FQ,ZS,h3',YC⟩:=eh nS;have hcp:aB p≠0:=λe=>kd (qH.mp e);generalize hk:ot (aB p) (aB q)=k;have hk0:0<k:=by rw[<-hk];exact Nat.gcd_pos_of_pos_left _ ⋯
 have zG:=sG p hp;have tq:=sG q hq;rw[<-h4]at zG;rw[<-YC]at tq;obtain⟨a,ha⟩:(k:Int)∣c:=dc.mpr (by rw[zG,<-hk];exact x8 _ _);obtain⟨b,hb⟩:(k:Int)∣c':=dc.mpr (by rw[tq,<-hk];exact wU _ _);refine⟨BD hd ⋯,?_⟩;rw[nH];refine⟨?_,?_,?_,?_⟩;.rw[ag.df,ag.j4];exact ku ⋯ hg.aT
 .obtain⟨x,hx⟩:=hg.dp;exact⟨ag.C a*x,by rw[e,ha,ag.dw,hx];grind⟩
 .obtain⟨x,hx⟩:=hg.dq;exact⟨ag.C b*x,by rw[e',hb,ag.dw,hx];grind⟩
 intro f GV hfq;have Dx:f≠0:=by rintro rfl;exact kd GV.Di
 obtain⟨m,E,hm,hE,hfE⟩:=ag.mL Dx;obtain⟨x,hx⟩:=GV;obtain⟨y,hy⟩:=hfq;have hEp:Dv E (aA (aV p)):=by obtain⟨z,_,hz⟩:=hE.et hc (h:=aA (aV p)) (g:=ag.C m*x) (by rw[<-e,hx,hfE];grind);exact⟨z,hz⟩
 have hEq:Dv E (aA (aV q)):=by obtain⟨z,_,hz⟩:=hE.et T1 (h:=aA (aV q)) (g:=ag.C m*y) (by rw[<-e',hy,hfE];grind);exact⟨z,hz⟩
 obtain⟨n,u,v,hn,hl⟩:=hg.Ih;have hEd:Dv E (aA d):=by(have:Dv E (ag.C n*aA d):=by rw[hl];exact(hEp.mul_left _).add (hEq.mul_left _));obtain⟨w,hw⟩:=this;obtain⟨z,_,hz⟩:=hE.et hn hw;exact⟨z,hz⟩
 have d1:m.natAbs∣aB p:=j5 (x:=E*x) (by rw[hx,hfE];grind);have d2:m.natAbs∣aB q:=j5 (x:=E*y) (by rw[hy,hfE];grind);have d3:m.natAbs∣k:=by rw[<-hk];exact Nat.dvd_gcd d1 d2
 obtain⟨z,hz⟩:m∣(k:Int):=tJ.mp (qi.mpr d3);rw[hfE,hz,ag.dw];obtain⟨w,hw⟩:=hEd;exact⟨ag.C z*w,by rw[hw];grind⟩
theorem mD(hp:fc p)(hq:fc q)(h17:(aA p).size<=17)(amJ:(aA q).size<=17)(h0:aA p≠0\/aA q≠0):fc (fG p q)/\M9 (aA p) (aA q) (aA (fG p q)):=by
 unfold fG;by_cases h1:(aN p).isEmpty=true;.rw[aj h1];have e:=(gL p).mp h1;rw[e];(have nS:aA q≠0:=by rcases h0 with h|h;(·exact ap e h);exact h);exact Gb hq nS
 rw[ah h1];have kd:aA p≠0:=λe=>h1 ((gL p).mpr e);by_cases h2:(aN q).isEmpty=true;.rw[aj h2];have e:=(gL q).mp h2;rw[e];have:=Gb hp kd;exact⟨this.1,this.2.symm⟩
 rw[ah h2];have nS:aA q≠0:=λe=>h2 ((gL q).mpr e);obtain⟨_,_,_,k1,_⟩:=eh kd;obtain⟨g1,g2⟩:=zM 200 (aV p) (aV q) (.inl k1.ne) (by rw[jD,jD];split<;>lia);exact Up hp hq kd nS g2 g1
end Tk
end
section
namespace Tk
open Lean.Grind
open ag (ir jn pC prod)
section
variable {p M e:Nat}(iQ:p∣M)(hM:M=p^e)
theorem Fq(u:ag (Zp p)):∃v:ag (Zp M),v.map (fD iQ)=u:=by refine ag.induct (P:=λu=>∃v:ag (Zp M),v.map (fD iQ)=u) ⟨0,ag.lL _⟩ ?_ u;rintro a q ⟨v,hv⟩;obtain⟨z,rfl⟩:=cp.rep a;refine⟨ag.C ((red M).f z)+ag.X*v,?_⟩;rw[ag.gN,ag.cj,ag.np,ag.zA,hv];rfl
theorem Tj{u:ag (Zp M)}(h:u.map (fD iQ)=0):∃v,u=ag.C ((red M).f (p:Int))*v:=by
 have key:∀n u,u.Lt n->u.map (fD iQ)=0->∃v,u=ag.C ((red M).f (p:Int))*v:=by
  intro n;induction n with
   |zero=>intro u hu _;exact⟨0,by rw[hu.kl];grind⟩
   |succ n ih=>intro u hu h;(have h1:u.tail.map (fD iQ)=0:=ag.ext λi=>by(have h3:(u.map (fD iQ)).c (i+1)=0:=by rw[h,ag.dj]);rw[ag.dj];exact h3);obtain⟨v,hv⟩:=ih u.tail hu.tail h1;(have h2:(fD iQ).f (u.c 0)=0:=by(have h3:(u.map (fD iQ)).c 0=0:=by rw[h,ag.dj]);exact h3);obtain⟨z,hz⟩:=cp.rep (u.c 0);rw[hz]at h2;obtain⟨y,hy⟩:=gr.mp (cp.dh.mp (show cp.mk (p:Int) z=0 from h2));refine⟨ag.C ((red M).f y)+ag.X*v,?_⟩;(have e1:u.c 0=(red M).f (p:Int)*(red M).f y:=by rw[<-gJ.mul,<-hy,hz];rfl);have e2:=ag.vo u;rw[e2,e1,hv,ag.dw];grind
 exact key u.size u u.b_ h
include hM in
theorem aeW:(ag.C ((red M).f (p:Int)):ag (Zp M))^e=0:=by
 rw[<-ag.Lc,<-gJ.pow];have:(red M).f ((p:Int)^e)=0:=by(have h:((p:Int)^e)=(M:Int):=by rw[hM,rK]);rw[h];exact cp.dh.mpr (Dv.refl _)
 rw[this,ag.jI]
theorem Ls{A:Type}[bI A]{x:A}(h:x^e=0):∃y,(1+x)*y=1:=by
 have:∀e:Nat,∃y,(1+x)*y=1-(-x)^e:=by
  intro e;induction e with
   |zero=>exact⟨0,by rw[aL];grind⟩
   |succ e ih=>obtain⟨y,hy⟩:=ih;exact⟨y+(-x)^e,by rw[ay];grind⟩
 obtain⟨y,hy⟩:=this e;refine⟨y,?_⟩;have e2:(-x)^e=(-1)^e*x^e:=by rw[<-kP];congr 1;grind
 rw[hy,e2,h];grind
include hM in
theorem F_{A B:ag (Zp M)}(h:kC (A.map (fD iQ)) (B.map (fD iQ))):kC A B:=by
 obtain⟨u,v,re⟩:=h;obtain⟨u',rfl⟩:=Fq iQ u;obtain⟨v',rfl⟩:=Fq iQ v;have h0:(u'*A+v'*B-1).map (fD iQ)=0:=by rw[ag.kW,ag.gN,ag.cj,ag.cj,re,ag.qB];grind
 obtain⟨W,hW⟩:=Tj iQ h0;obtain⟨y,hy⟩:=Ls (x:=ag.C ((red M).f (p:Int))*W) (e:=e) (by rw[kP,aeW hM];grind);exact⟨y*u',y*v',by grind⟩
include hM in
theorem zE(hp:Pr p)(he:1<=e){w:Zp M}(hw:(red M).f f.aT*w=1){l:List (Pair p M)}(hl:∀x,x∈l->x.1.ir/\x.1.jn/\(∃n,x.2.bD n)/\x.2.map (fD iQ)=x.1)(hn:(l.map cy).Nodup)(hf:f.map (red p)=ag.C ((red p).f f.aT)*prod (l.map cy))(hd:∀x,x∈l->Dv x.2 (f.map (red M)))(hg:Dv g f){s t:List (Pair p M)}(i5:(s++t).Perm l)(hS:Gr g s t):g.map (red M)=ag.C ((red M).f g.aT)*prod (s.map dt):=by
 have mj:=cn hp;have fV:(red p).f f.aT≠0:=by intro k;have h1:=aK (fD iQ).f hw;rw[gJ.mul,sH,k,gJ.one]at h1;apply nU.ej (R:=Zp p);rw[<-h1];grind
 have uo:∀q,q∈l.map cy->q.ir/\q.jn:=λq hq=>by obtain⟨x,hx,rfl⟩:=ao.mp hq;exact⟨(hl x hx).1,(hl x hx).2.1⟩
 have hmem:∀x,x∈s++t->x∈l:=λx hx=>i5.mem_iff.mp hx;have tx:∀s0:List (Pair p M),(∀x,x∈s0->x∈l)->(prod (s0.map dt)).map (fD iQ)=prod (s0.map cy):=by intro s0 h0;have h3:(prod (s0.map dt)).map (fD iQ)=prod ((s0.map dt).map (ag.jZ (fD iQ)).f):=ag.qy (ag.jZ (fD iQ)) (s0.map dt);rw[h3,be];congr 1;apply cY;intro x hx;exact(hl x (h0 x hx)).2.2.2
 have hgp:g.map (red p)=ag.C ((red p).f g.aT)*prod (s.map cy):=by refine B8 hp fV uo hn hf hg (s:=s.map cy) (t:=t.map cy) (by rw[<-aF];exact i5.map _) ?_ ?_;(·intro x hx;obtain⟨y,hy,rfl⟩:=ao.mp hx;exact hS.yes y hy);intro x hx;obtain⟨y,hy,rfl⟩:=ao.mp hx;exact hS.no y hy
 obtain⟨r,er⟩:=hg;have Dx:f≠0:=by rintro rfl;apply fV;unfold ag.aT;rw[ag.dj,gJ.zero]
 have AA:g≠0:=by rintro rfl;apply Dx;rw[er];grind
 have hgs:=ag.aS.mpr AA;have hlg:(red M).f g.aT*((red M).f r.aT*w)=1:=by rw[er,ag.df,gJ.mul]at hw;grind
 generalize hv:(red M).f r.aT*w=v at hlg;have hG:(ag.C v*g.map (red M)).bD (g.size-1):=by refine⟨ag.Lt.z4 _ ((g.b_.map _).mono ⋯),?_⟩;rw[ag.cA];show v*(red M).f g.aT=1;grind
 generalize hGd:ag.C v*g.map (red M)=G at hG;have hCv:(ag.C ((red M).f g.aT):ag (Zp M))*ag.C v=1:=by rw[<-ag.dw,hlg,ag.eC]
 have hgG:g.map (red M)=ag.C ((red M).f g.aT)*G:=by rw[<-hGd];grind
 have hGp:G.map (fD iQ)=prod (s.map cy):=by rw[<-hGd,ag.cj,ag.np,sM,hgp];have h2:=aK (λq=>q.map (fD iQ)) hCv;simp only[ag.cj,ag.np,sH,ag.qB]at h2;grind
 have acn:∀x,x∈l->∀y,y∈l->x.1≠y.1->kC x.2 y.2:=by intro x hx y hy hne;apply F_ iQ hM;rw[(hl x hx).2.2.2,(hl y hy).2.2.2];exact(hl x hx).1.wE (hl y hy).1 (hl x hx).2.1 (hl y hy).2.1 hne
 have Mr:=(i5.map cy).nodup_iff.mpr hn;have X3:((s++t).map dt).Pairwise kC:=by
  have:∀m:List (Pair p M),(∀x,x∈m->x∈l)->(m.map cy).Nodup->(m.map dt).Pairwise kC:=by
   intro m;induction m with
    |nil=>intro _ _;exact kJ
    |cons a m ih=>intro hm hnd;rw[aR,bO]at hnd;refine iX (λy hy=>?_) (ih (λx hx=>hm x (al _ hx)) hnd.2);obtain⟨z,hz,rfl⟩:=ao.mp hy;exact acn a (hm a aq) z (hm z (al _ hz)) (λk=>hnd.1 (by rw[k];exact dE hz))
  exact this _ hmem Mr
 have oP:=kC.SE X3 λx hx=>by obtain⟨y,hy,rfl⟩:=ao.mp hx;exact hd y (hmem y hy)
 rw[aF,ag.fg]at oP;have hms:=oO hp λx hx=>(hl x (hmem x (bq _ hx))).2.2.1;have hmt:=oO hp λx hx=>(hl x (hmem x (bF _ hx))).2.2.1;obtain⟨ns,NC⟩:=hms;obtain⟨nt,TN⟩:=hmt;have hUp:=tx s λx hx=>hmem x (bq _ hx);have hVp:=tx t λx hx=>hmem x (bF _ hx);generalize hU:prod (s.map dt)=U at*;generalize hV:prod (t.map dt)=V at*;have hsG:(prod (s.map cy)).bD ns:=by rw[<-hUp];exact NC.map _
 have hsV:(prod (t.map cy)).bD nt:=by rw[<-hVp];exact TN.map _
 have A2:g.size-1=ns:=by have h1:(G.map (fD iQ)).bD (g.size-1):=hG.map _;rw[hGp]at h1;have a1:=h1.size;have a2:=hsG.size;lia
 have hfm:f.size=ns+nt+1:=by(have h1:(f.map (red p)).size=f.size:=by have:=ag.jb (p:=f.map (red p)) (n:=f.size-1) ((f.b_.map _).mono (by have:=ag.aS.mpr Dx;lia)) fV;have:=ag.aS.mpr Dx;lia);(have h2:prod (l.map cy)=prod (s.map cy)*prod (t.map cy):=by rw[<-ag.fg,<-aF];exact ag.jE (i5.symm.map _));have h3:=ag.bM (p:=ag.C ((red p).f f.aT)) (q:=prod (l.map cy)) (λk=>fV (ag.iu (b:=0) k)) (by rw[h2];exact(hsG.mul hsV).ne);rw[<-hf,h1,h2,(hsG.mul hsV).size,ag.fP fV]at h3;lia
 obtain⟨c,hc⟩:=oP;have hCw:(ag.C ((red M).f f.aT):ag (Zp M))*ag.C w=1:=by rw[<-ag.dw,hw,ag.eC]
 have hcl:c.Lt 1:=by apply ae;intro hcn;(have Mw:1<c.size:=by apply ae;intro hk;exact hcn (ag.cS ⋯));have htop:=ag.iA (p:=U*V) (q:=c) (m:=ns+nt) (n:=c.size-1) (NC.mul TN).lt (by rw[show c.size-1+1=c.size by lia];exact c.b_);rw[<-hc,(NC.mul TN).one]at htop;have hz:(f.map (red M)).c (ns+nt+(c.size-1))=0:=(f.b_.map (red M)) _ ⋯;rw[hz]at htop;(have:c.aT=0:=by unfold ag.aT;grind);exact ag.fS (ag.aS.mp ⋯) this
 have Yr:kC G V:=by apply F_ iQ hM;rw[hGp,hVp];have abW:=Mr;rw[aF]at abW;have h2:=ag.Df (l:=s.map cy++t.map cy) (λq hq=>uo q (by rw[<-aF]at hq;obtain⟨x,hx,rfl⟩:=ao.mp hq;exact dE (hmem x hx))) abW;rw[m9]at h2;apply kC.symm;apply kC.prod;intro b hb;apply kC.symm;apply kC.prod;intro c hc;exact h2.2.2 b hb c hc
 have hGU:Dv G (V*U):=by(have hGf:Dv G (f.map (red M)):=by rw[er,ag.cj,hgG];exact⟨ag.C ((red M).f g.aT)*r.map (red M),by grind⟩);have hcc:=hcl.o_;(have hlc:(red M).f f.aT=c.c 0:=by have h1:=aK (λq=>q.c (ns+nt)) hc;simp only[ag.mM]at h1;(have h2:f.c (ns+nt)=f.aT:=by unfold ag.aT;rw[hfm];rfl);have h3:=ag.iA (p:=U*V) (q:=c) (m:=ns+nt) (n:=0) (NC.mul TN).lt hcl;rw[lZ]at h3;rw[h2,h3,(NC.mul TN).one]at h1;rw[h1];grind);(have:V*U=f.map (red M)*ag.C w:=by rw[hc,hcc,<-hlc];grind);rw[this];exact hGf.mul_right _
 obtain⟨y,hy⟩:=Yr.dv hGU;have Zq:U-G=G*(y-1):=by rw[hy];grind
 have hlt:(U-G).Lt ns:=λi hi=>by rw[A2]at hG;by_cases k:i=ns;(·rw[k,ag.i8,NC.one,hG.one];grind);rw[ag.i8,NC.lt i ⋯,hG.lt i ⋯];grind
 have hz:=(A2 ▸ hG).o7 (q:=y-1) (by rw[<-Zq];exact hlt);have:U=G:=by rw[hz]at Zq;grind
 rw[hgG,this]
end
end Tk
end
section
namespace Tk
open Lean.Grind
open ag (ir jn pC prod)
theorem A4{m:Nat}:Dv (ag.C (m:Int)) f↔f.map (red m)=0:=ag.jv.symm
theorem FL{m:Nat}{n:Nat}(ha:a.bD n)(h1:Dv (ag.C ((m:Int)*m)) (F-(a*q+r)))(h2:Dv (ag.C (m:Int)) r)(h3:∃y,Dv (ag.C (m:Int)) (t*q-1-a*y))(h4:Dv (ag.C ((m:Int)*m)) (t*r-(a*k+d)))(hd:d.Lt n):Dv (ag.C (m:Int)) d/\∃q',Dv (ag.C ((m:Int)*m)) (F-(a+d)*q')/\Dv (ag.C (m:Int)) (q'-q):=by
 obtain⟨W1,h1⟩:=h1;obtain⟨r1,rfl⟩:=h2;obtain⟨y,z,h3⟩:=h3;obtain⟨W2,h4⟩:=h4;rw[ag.dw]at h1 h4;have hm:(a.map (red m))*(k.map (red m))=-d.map (red m):=by(have e:a*k+d=ag.C (m:Int)*(t*r1-ag.C (m:Int)*W2):=by grind);have e2:=A4.mp ⟨_,e⟩;rw[ag.gN,ag.cj]at e2;grind
 have hk0:=(ha.map (red m)).o7 (by rw[hm];exact(hd.map (red m)).neg);have oi:d.map (red m)=0:=by rw[hk0]at hm;grind
 obtain⟨k1,rfl⟩:=A4.mpr hk0;obtain⟨d1,rfl⟩:=A4.mpr oi;refine⟨Dv.left _ _,q-(y*(ag.C (m:Int)*r1)-ag.C (m:Int)*k1*q),?_,⟨-(y*r1-k1*q),by grind⟩⟩;rw[ag.dw];generalize (ag.C (m:Int):ag Int)=c at*;have hd2:c*d1=t*(c*r1)-a*(c*k1)-c*c*W2:=by grind
 refine⟨W1-(z*r1-W2*q-d1*(y*r1-k1*q)),?_⟩;have e1:F=a*q+c*r1+c*c*W1:=by grind
 have e2:t*q=1+a*y+c*z:=by grind
 have e3:(c*d1)*q=(c*r1)*(t*q)-a*(c*k1)*q-c*c*W2*q:=by rw[hd2];grind
 rw[e2]at e3;rw[e1];have e4:(a+c*d1)*(q-(y*(c*r1)-c*k1*q))=a*q-a*(y*(c*r1)-c*k1*q)+(c*d1)*q-(c*d1)*(y*(c*r1)-c*k1*q):=by grind
 rw[e4,e3];grind
theorem FK(h0:∃y,Dv (ag.C (m:Int)) (t*q-1-a*y))(h1:Dv (ag.C ((m:Int)*m)) (t*q-(a*k1+nu)))(h2:Dv (ag.C ((m:Int)*m)) (t*(2-nu)-(a*k2+t'))):∃y',Dv (ag.C ((m:Int)*m)) (t'*q-1-a*y'):=by
 obtain⟨y,z,h0⟩:=h0;obtain⟨W1,h1⟩:=h1;obtain⟨W2,h2⟩:=h2;rw[ag.dw]at h1 h2 ⊢;generalize (ag.C (m:Int):ag Int)=c at*;have e1:nu=t*q-a*k1-c*c*W1:=by grind
 have e2:t'=t*(2-nu)-a*k2-c*c*W2:=by grind
 have e3:t*q=1+a*y+c*z:=by grind
 have e4:1-nu=a*(k1-y)+c*(c*W1-z):=by rw[e1,e3];grind
 refine⟨k1*(2-nu)-k2*q-(k1-y)*(a*(k1-y)+2*c*(c*W1-z)),W1*(2-nu)-W2*q-(c*W1-z)*(c*W1-z),?_⟩;have e5:t'*q=(t*q)*(2-nu)-a*k2*q-c*c*W2*q:=by rw[e2];grind
 have e6:t*q=a*k1+nu+c*c*W1:=by grind
 have e7:nu*(2-nu)=1-(1-nu)*(1-nu):=by grind
 rw[e5,e6];have e8:(a*k1+nu+c*c*W1)*(2-nu)=a*k1*(2-nu)+nu*(2-nu)+c*c*W1*(2-nu):=by grind
 rw[e8,e7,e4];grind
section
variable {p:Nat}(hp:Pr p)
include hp
theorem QC(v:ag (Zp p)):v^p-v=prod ((uG p).map λs=>v-ag.C s):=by
 have h:=ag.K9 hp;have h2:((ag.X^p-ag.X:ag (Zp p)).map ag.sA).ev v=((prod ((uG p).map ag.Xm)).map ag.sA).ev v:=by rw[h]
 rw[ag.kW,ag.Ti,ag.zA,ag.si,ag.zQ,ag.DB]at h2;rw[h2];have h3:∀l:List (Zp p),((prod (l.map ag.Xm)).map ag.sA).ev v=prod (l.map λs=>v-ag.C s):=by
  intro l;induction l with
   |nil=>simp only[cK,prod];rw[ag.qB,ag.zS]
   |cons a l ih=>simp only[aR,prod];rw[ag.cj,ag.o9,ih];congr 1;show((ag.X-ag.C a).map ag.sA).ev v=_;rw[ag.kW,ag.zA,ag.np,ag.si,ag.DB,ag.A3];rfl
 exact h3 _
theorem T8(hv:Dv f (v^p-v))(hP:P.ir)(hPf:Dv P f):∃n,n<p/\Dv P (v-ag.C (zm p n)):=by have:=cn hp;have h1:=hPf.trans hv;rw[QC hp v]at h1;obtain⟨a,ha,hd⟩:=hP.jX h1;obtain⟨s,hs,rfl⟩:=ao.mp ha;obtain⟨n,hn,rfl⟩:=CO (by have:=hp.1;lia) s;exact⟨n,hn,hd⟩
theorem zo{P v:ag (Zp p)}(hP:1<P.size){s t:Zp p}(h1:Dv P (v-ag.C s))(h2:Dv P (v-ag.C t)):s=t:=by
 have:=cn hp;have h3:Dv P (ag.C (t-s)):=by have:=h1.sub h2;(have e:v-ag.C s-(v-ag.C t)=ag.C (t-s):=by rw[ag.Rp];grind);rwa[e]at this
 apply ae;intro hne;have h4:t-s≠0:=λe=>hne (by grind);have:=ag.fm h3 (λe=>h4 (ag.iu (b:=0) e));rw[ag.fP h4]at this;lia
theorem idem(hm:(A*B).bD n)(hc:kC A B):∃e:ag (Zp p),e.Lt n/\Dv (A*B) (e^p-e)/\Dv A (e-1)/\Dv B e:=by
 have:=cn hp;obtain⟨u,w,h⟩:=hc;obtain⟨q,e,he,hl⟩:=hm.div (w*B);have h1:Dv A (e-1):=⟨-(u+B*q),by grind⟩;have h2:Dv B e:=⟨w-A*q,by grind⟩;refine⟨e,hl,?_,h1,h2⟩;apply kC.HX ⟨u,w,h⟩;·(have e1:cp.mk A e=1:=by rw[<-cp.mk_one,cp.g8];exact h1);rw[<-cp.dh,cp.Dn,cp.mh,e1,kO];grind
 have hp2:=hp.1;have e1:e^p=e^(p-1)*e:=by rw[<-ay];congr 1;lia
 rw[e1];exact(h2.mul_left _).sub h2
def Ae(f:ag (Zp p))(n:Nat)(bs:List (ag (Zp p))):Prop:=∀v:ag (Zp p),v.Lt n->Dv f (v^p-v)->∃c:Nat->Zp p,v=bZ bs.length (λi=>ag.C (c i)*bs.getD i 0)
theorem DF{A:Type}[bI A]{a:A}{f:Nat->A}(h:∀i,i<n->Dv a (f i)):Dv a (bZ n f):=by
 induction n with
  |zero=>exact Dv.zero a
  |succ n ih=>exact(ih λi hi=>h i ⋯).add (h n ⋯)
theorem HE{f:ag (Zp p)}{n:Nat}{bs:List (ag (Zp p))}(hm:f.bD n)(hs:f.pC)(hb:Ae f n bs){P Q:ag (Zp p)}(hP:P.ir)(hQ:Q.ir)(mP:P.jn)(mQ:Q.jn)(dP:Dv P f)(dQ:Dv Q f)(hne:P≠Q):∃b,b∈bs/\∀s,¬(Dv P (b-ag.C s)/\Dv Q (b-ag.C s)):=by
 have mj:=cn hp;apply ae;intro uE;have iV:∀b,b∈bs->∃s,Dv P (b-ag.C s)/\Dv Q (b-ag.C s):=by intro b hbm;apply ae;intro hc;exact uE ⟨b,hbm,λs h=>hc ⟨s,h⟩⟩
 obtain⟨R,hR⟩:=dP;have Dx:=hm.ne;have xK:kC P R:=pC.cop (by rw[<-hR];exact hs) (by rw[<-hR];exact Dx);obtain⟨e,e1,e2,e3,e4⟩:=idem hp (A:=P) (B:=R) (n:=n) (by rw[<-hR];exact hm) xK;rw[<-hR]at e2;have hQR:Dv Q R:=by rw[hR]at dQ;rcases hQ.prime dQ with k|k;(·exact ap (hQ.eq hP mQ mP k).symm hne);exact k
 obtain⟨c,hc⟩:=hb e e1 e2;have Yp:∀i,∃s,i<bs.length->Dv P (bs.getD i 0-ag.C s)/\Dv Q (bs.getD i 0-ag.C s):=by intro i;by_cases hi:i<bs.length;(·obtain⟨s,hs⟩:=iV (bs.getD i 0) (by simp only[aD,aa hi];exact ba hi);exact⟨s,λ_=>hs⟩);exact⟨0,λh=>ap h hi⟩
 have Cd:∃s:Nat->Zp p,∀i,i<bs.length->Dv P (bs.getD i 0-ag.C (s i))/\Dv Q (bs.getD i 0-ag.C (s i)):=⟨λi=>lP (Yp i),λi hi=>gV (Yp i) hi⟩;obtain⟨s,zH⟩:=Cd;have key:∀A,(∀i,i<bs.length->Dv A (bs.getD i 0-ag.C (s i)))->Dv A (e-ag.C (bZ bs.length (λi=>c i*s i))):=by intro A hA;(have e5:ag.C (bZ bs.length (λi=>c i*s i))=bZ bs.length (λi=>ag.C (c i)*ag.C (s i)):=by have:=gJ.sum (ag.sA (R:=Zp p)) bs.length (λi=>c i*s i);refine Eq.trans this (bJ λi _=>?_);exact ag.dw _ _);rw[e5,hc,<-n9];apply DF hp;intro i hi;(have:ag.C (c i)*bs.getD i 0-ag.C (c i)*ag.C (s i)=ag.C (c i)*(bs.getD i 0-ag.C (s i)):=by grind);rw[this];exact(hA i hi).mul_left _
 have k1:=key P λi hi=>(zH i hi).1;have k2:=key Q λi hi=>(zH i hi).2;have n1:=zo hp hP.pos (by rw[ag.eC];exact e3) k1;have n2:=zo hp hQ.pos (by rw[ag.jI];(have:e-0=e:=by grind);rw[this];exact hQR.trans e4) k2;exact nU.ej (n1.trans n2.symm)
theorem HD{n:Nat}{bs:List (ag (Zp p))}(hm:f.bD n)(hb:Ae f n bs){l:List (ag (Zp p))}(hl:∀x,x∈l->1<x.size)(hc:l.Pairwise kC)(he:prod l=f):l.length<=bs.length:=by
 have mj:=cn hp;apply ae;intro uE;have hid:∀i,∃e,i<l.length->e.Lt n/\Dv f (e^p-e)/\Dv (l.getD i 0) (e-1)/\∀j,j<l.length->j≠i->Dv (l.getD j 0) e:=by intro i;by_cases hi:i<l.length;(·obtain⟨s,t,i5,hlen⟩:∃s t,l=s++l[i]::t/\s.length=i:=⟨l.take i,l.drop (i+1),by simp,by simp;lia⟩;(have gq:l.Perm (l[i]::(s++t)):=by have h0:(s++l[i]::t).Perm (l[i]::(s++t)):=c_;rwa[<-i5]at h0);(have X3:(s++l[i]::t).Pairwise kC:=by rw[<-i5];exact hc);rw[m9,ie]at X3;(have xK:kC l[i] (prod (s++t)):=by apply kC.prod;intro b hb;rcases aO.mp hb with h|h;(·exact(X3.2.2 b h l[i] aq).symm);exact X3.2.1.1 b h);(have hff:l[i]*prod (s++t)=f:=by rw[<-he,ag.jE gq];rfl);obtain⟨e,e1,e2,e3,e4⟩:=idem hp (A:=l[i]) (B:=prod (s++t)) (n:=n) (by rw[hff];exact hm) xK;rw[hff]at e2;refine⟨e,λ_=>⟨e1,e2,?_,?_⟩⟩;(·simp only[aD,aa hi];exact e3);intro j hj hji;simp only[aD,aa hj];(have hmem:l[j]∈s++t:=by(have TW:(s++l[i]::t)[j]?=some l[j]:=by rw[<-i5];exact aa hj);rcases Nj hji with h|h;(·rw[bA ⋯]at TW;exact bq _ (a_ TW));rw[bK ⋯]at TW;obtain⟨k,hk⟩:∃k,j-s.length=k+1:=⟨j-s.length-1,⋯⟩;rw[hk,ji]at TW;exact bF _ (a_ TW));exact(ag.gy hmem).trans e4);exact⟨0,λh=>ap h hi⟩
 have Cd:∃e:Nat->ag (Zp p),∀i,i<l.length->(e i).Lt n/\Dv f (e i^p-e i)/\Dv (l.getD i 0) (e i-1)/\∀j,j<l.length->j≠i->Dv (l.getD j 0) (e i):=⟨λi=>lP (hid i),λi hi=>gV (hid i) hi⟩;obtain⟨e,hE⟩:=Cd;have hg:∀i:Nat,∃c:Nat->Zp p,i<l.length->e i=bZ bs.length (λj=>ag.C (c j)*bs.getD j 0):=by intro i;by_cases hi:i<l.length;(·obtain⟨c,hc⟩:=hb (e i) (hE i hi).1 (hE i hi).2.1;exact⟨c,λ_=>hc⟩);exact⟨λ_=>0,λh=>ap h hi⟩
 have agv:∃c:Nat->Nat->Zp p,∀i,i<l.length->e i=bZ bs.length (λj=>ag.C (c i j)*bs.getD j 0):=⟨λi=>lP (hg i),λi hi=>gV (hg i) hi⟩;obtain⟨c,hC⟩:=agv;obtain⟨d,⟨i0,hi0,oi⟩,hd⟩:=ag.ker (m:=bs.length) (n:=l.length) ⋯ c;have hz:bZ l.length (λi=>ag.C (d i)*e i)=0:=by(have e1:bZ l.length (λi=>ag.C (d i)*e i)=bZ l.length (λi=>bZ bs.length (λj=>ag.C (d i*c i j)*bs.getD j 0)):=by apply bJ;intro i hi;rw[hC i hi,<-jV];apply bJ;intro j _;rw[ag.dw];grind);rw[e1,LH];apply eR;intro j hj;(have e2:bZ l.length (λi=>ag.C (d i*c i j)*bs.getD j 0)=ag.C (bZ l.length (λi=>d i*c i j))*bs.getD j 0:=by rw[jU];congr 1;exact(gJ.sum (ag.sA (R:=Zp p)) l.length (λi=>d i*c i j)).symm);rw[e2,hd j hj,ag.jI];grind
 have tz:Dv (l.getD i0 0) (ag.C (d i0)):=by(have h1:Dv (l.getD i0 0) (bZ l.length (λi=>ag.C (d i)*e i)-ag.C (d i0)):=by(have e3:ag.C (d i0)=bZ l.length (λi=>if i=i0 then ag.C (d i0)else 0):=by rw[iF (k:=i0) hi0 (λi _ hne=>ah hne),aj rfl]);rw[e3,<-n9];apply DF hp;intro i hi;by_cases h:i=i0;(·subst h;rw[aj rfl];(have:ag.C (d i)*e i-ag.C (d i)=ag.C (d i)*(e i-1):=by grind);rw[this];exact((hE i hi).2.2.1).mul_left _);rw[ah h];(have:ag.C (d i)*e i-0=ag.C (d i)*e i:=by grind);rw[this];exact((hE i hi).2.2.2 i0 hi0 (λk=>h k.symm)).mul_left _);rw[hz]at h1;have:=h1.neg;(have e4:-(0-ag.C (d i0))=ag.C (d i0):=by grind);rwa[e4]at this
 have h5:=ag.fm tz (λk=>oi (ag.iu (b:=0) k));rw[ag.fP oi]at h5;have h6:=hl (l.getD i0 0) (by simp only[aD,aa hi0];exact ba hi0);lia
theorem y4{n:Nat}{bs:List (ag (Zp p))}(hm:f.bD n)(hs:f.pC)(hb:Ae f n bs){l:List (ag (Zp p))}(hl:∀x,x∈l->1<x.size)(hc:l.Pairwise kC)(he:prod l=f)(hlen:l.length=bs.length):∀x,x∈l->x.ir:=by
 have mj:=cn hp;intro x hx;refine⟨hl x hx,λa b pW=>?_⟩;apply ae;intro uE;have tm:x≠0:=ag.aS.mp (by have:=hl x hx;lia);have vX:a≠0:=by rintro rfl;apply tm;rw[pW];grind
 have wA:b≠0:=by rintro rfl;apply tm;rw[pW];grind
 have has:=ag.aS.mpr vX;have hbs:=ag.aS.mpr wA;obtain⟨s,t,rfl⟩:=d6 hx;have gq:(s++x::t).Perm (x::(s++t)):=c_;rw[m9,ie]at hc;have ae4:=hs.jt (by rw[<-he];exact ag.gy hx);have hcab:=pC.cop (by rw[<-pW];exact ae4) (by rw[<-pW];exact tm);have hcx:∀y,y∈s++t->kC x y:=λy hy=>by rcases aO.mp hy with h|h;(·exact(hc.2.2 y h x aq).symm);exact hc.2.1.1 y h
 have afu:(s++t).Pairwise kC:=by rw[m9];exact⟨hc.1,hc.2.1.2,λy hy z hz=>hc.2.2 y hy z (al _ hz)⟩
 have agt:=HD hp hm hb (l:=a::b::(s++t)) (λy hy=>by rcases bi.mp hy with rfl|hy;(·lia);rcases bi.mp hy with rfl|hy;(·lia);apply hl;rcases aO.mp hy with h|h;(·exact bq _ h);exact bF _ (al _ h)) (iX (λy hy=>by rcases bi.mp hy with rfl|hy;(·exact hcab);exact(hcx y hy).ui ⟨b,pW⟩) (iX (λy hy=>(hcx y hy).ui ⟨a,by rw[pW];grind⟩) afu)) (by rw[<-he,ag.jE gq];simp only[prod];rw[pW];grind);have:=gq.length_eq;simp only[a7]at this agt;lia
end
end Tk
end
section
set_option exponentiation.threshold 3000
namespace Tk
noncomputable def prb(q:Nat):Bool:=decide (2<=q)&&(aX 46).all λd=>decide (d<2)||decide (q<=d)||decide (q%d≠0)
theorem OV(hq:q<2116):prb q=true↔Pr q:=by
 unfold prb;simp only[cR,decide_eq_true_eq,fu,cr,eP];constructor;.rintro⟨h2,h⟩;apply ae;intro hn;obtain⟨d,hd,hdq,hdd⟩:=w4 h2 hn;have hd2:=hd.1;(have h46:d<46:=by apply ae;intro hc;have:46*46<=d*d:=dJ ⋯ ⋯;lia);(have hlt:d<q:=by have:=bu d hd2;lia);have:=h d h46;have hm:=GD hdq;lia
 intro h;refine⟨h.1,λd _=>?_⟩;by_cases h1:d<2;.exact .inl (.inl h1)
 by_cases h2:q<=d;.exact .inl (.inr h2)
 right;intro hm;rcases h.2 d (GF hm)with e|e<;>lia
noncomputable def kx:List Nat->Nat
 |[]=>1
 |a::l=>a*kx l
theorem uW{l:List Nat}(f:Nat->Bool)(h:l.Nodup):(l.filter f).Nodup:=x_ f h
theorem HV(h:l.Perm m):kx l=kx m:=by
 induction h with
  |nil=>rfl
  |cons a _ ih=>simp only[kx,ih]
  |swap a b l=>simp only[kx];rw[<-jL,<-jL,du b a]
  |trans _ _ h1 h2=>exact h1.trans h2
theorem Dj(l m:List Nat):kx (l++m)=kx l*kx m:=by
 induction l with
  |nil=>simp[kx]
  |cons a l ih=>simp only[kF,kx,ih,jL]
theorem Ph(h:∀x,x∈l->x<=b):kx l<=b^l.length:=by
 induction l with
  |nil=>simp[kx]
  |cons a l ih=>rw[kx,a7,cv,du (b^l.length)];exact dJ (h a aq) (ih λx hx=>h x (al _ hx))
theorem Dd(hp:Pr p):∀{l:List Nat},(∀x,x∈l->Pr x)->p∣kx l->p∈l:=by
 intro l;induction l with
  |nil=>intro _ h;have h1:p<=1:=eQ ∅ h;have:=hp.1;lia
  |cons a l ih=>intro hl h;rcases hp.dvd_mul h with k|k;(·rcases(hl a aq).2 p k with e|e;(·have:=hp.1;lia);rw[e];exact aq);exact al _ (ih (λx hx=>hl x (al _ hx)) k)
theorem L6:∀{l:List Nat},(∀x,x∈l->Pr x)->l.Nodup->(∀x,x∈l->x∣N)->kx l∣N:=by
 intro l;induction l with
  |nil=>intro _ _ _;exact Nat.one_dvd _
  |cons a l ih=>intro hl hn hd;rw[bO]at hn;have h1:=ih (λx hx=>hl x (al _ hx)) hn.2 (λx hx=>hd x (al _ hx));have h2:=hd a aq;(have hc:Nat.Coprime a (kx l):=by have hp:=hl a aq;rcases hp.2 _ (x8 a (kx l))with e|e;(·exact e);exfalso;apply hn.1;apply Dd hp λx hx=>hl x (al _ hx);have:=wU a (kx l);rwa[e]at this);exact Nat.Coprime.mul_dvd_of_dvd_of_dvd hc h2 h1
theorem split_le{L:List Nat}(f:Nat->Bool){N k:Nat}(h0:N≠0)(hL:∀x,x∈L->Pr x/\x<2000)(hn:L.Nodup)(hf:∀x,f x=true↔¬x∣N)(hk:(L.filter f).length<=k):kx L<=N*2000^k:=by
 have gq:(L.filter f++L.filter (λq=>!f q)).Perm L:=Ea _ _;have e1:=HV gq;rw[Dj,du]at e1;have h1:kx (L.filter (λq=>!f q))∣N:=by apply L6;(·intro x hx;exact(hL x (dF.mp hx).1).1);(·exact uW _ hn);intro x hx;have h2:=(dF.mp hx).2;apply ae;intro hc;rw[(hf x).mpr hc]at h2;cases h2
 have h2:=eQ ⋯ h1;have h3:kx (L.filter f)<=2000^(L.filter f).length:=Ph λx hx=>by have:=(hL x (dF.mp hx).1).2;lia
 have h5:2000^(L.filter f).length<=2000^k:=bg ∅ hk;rw[<-e1];exact dJ h2 (br h3 h5)
noncomputable def small:List Nat:=(aX 2000).filter prb
theorem LN:2^2005*2000^6<kx small:=by decide+kernel
theorem Mc{N:Nat}(h0:N≠0)(h:N<=2^2005)(f:Nat->Bool)(hf:∀x,f x=true↔¬x∣N):6<=(small.filter f).length:=by apply ae;intro hc;have h1:=split_le (L:=small) (k:=6) f h0 (λx hx=>by obtain⟨h1,h2⟩:=dF.mp hx;have:=cr.mp h1;exact⟨(OV ⋯).mp h2,this⟩) (uW _ kE) hf ⋯;have h2:=bu (2000^6) h;exact fH _ (bh LN (br h1 h2))
end Tk
end
section
namespace Tk
open Lean.Grind
theorem jw(l:List Int)(i:Nat)(v:Int)(j:Nat)(h:i<l.length):(l.set i v).getD j 0=if j=i then v else l.getD j 0:=by
 simp only[aD,Nm];by_cases e:j=i;.subst e;simp[h]
 rw[ah (λk=>e k.symm),ah e]
theorem sF(v:Int)(h:i<l.length):aA (l.set i v)=aA l+ag.mono (v-l.getD i 0) i:=ag.ext λj=>by
 rw[ag.g9,fb,fb,ag.k8,jw l i v j h];split;.rename_i e;subst e;lia
 lia
theorem mr(n:Nat):aA (aQ n 0)=0:=ag.ext λj=>by rw[fb,ag.dj];simp only[aD,gz];split<;>rfl
theorem yQ(l:List Int)(a:Int):aA (l++[a])=aA l+ag.mono a l.length:=ag.ext λj=>by
 rw[ag.g9,fb,fb,ag.k8];simp only[aD];rcases fM j l.length with h|h|h;.rw[bA h,ah ⋯];lia
 .subst h;simp
 rw[aG (by simp;lia),aG ⋯,ah ⋯];rfl
theorem rQ{l:List Int}{i:Nat}{x:Int}(h:l[i]?=some x):aA (l.take (i+1))=aA (l.take i)+ag.mono x i:=by obtain⟨hi,rfl⟩:=ax.mp h;rw[aW hi,yQ,da,lw ⋯]
theorem Fk(a b:Int)(i j:Nat):ag.mono a i*ag.mono b j=ag.mono (a*b) (i+j):=by rw[ag.uY,ag.uY,ag.uY,ag.dw,iJ];grind
theorem Po(a:Int)(i:Nat):ag.mono (-a) i=-ag.mono a i:=ag.ext λj=>by rw[ag.tP,ag.k8,ag.k8];split<;>lia
theorem zu(i:Nat):ag.mono (0:Int) i=0:=ag.ext λj=>by rw[ag.dj,ag.k8];split<;>rfl
theorem fB:aA []=0:=(bP fc.nil).mpr rfl
theorem uJ{r ms:List Int}{c x:Int}{s j:Nat}(hj:ms[j]?=some x)(hs:s+j<r.length)(h:aA r=R-ag.mono c s*aA (ms.take j)):aA (r.set (s+j) (r.getD (s+j) 0-c*x))=R-ag.mono c s*aA (ms.take (j+1)):=by rw[sF _ hs,h,rQ hj];have e:r.getD (s+j) 0-c*x-r.getD (s+j) 0=-(c*x):=⋯;rw[e,Po,<-Fk];grind
theorem EJ{r ms:List Int}{c x:Int}{s j:Nat}(hj:ms[j]?=some x)(hs:s+j<r.length)(h:aA r=R+ag.mono c s*aA (ms.take j)):aA (r.set (s+j) (r.getD (s+j) 0+c*x))=R+ag.mono c s*aA (ms.take (j+1)):=by rw[sF _ hs,h,rQ hj];have e:r.getD (s+j) 0+c*x-r.getD (s+j) 0=c*x:=⋯;rw[e,<-Fk];grind
structure ke(m:Nat)(l:List Int):Prop where
 zc:∀x,x∈l->0<=x/\x<m
 yb:fc l
theorem oJ(hm:0<m)(l:List Int):ke m (aN (l.map λx=>x%(m:Int)))/\(aA (aN (l.map λx=>x%(m:Int)))).map (red m)=(aA l).map (red m):=by
 constructor;.refine⟨?_,fU _⟩;intro x hx;(have hmem:∀l x,x∈aN l->x∈l:=by intro l x hx;unfold aN at hx;rw[jh]at hx;have:=(Ex _).subset hx;exact jh.mp this);obtain⟨y,_,rfl⟩:=ao.mp (hmem _ x hx);exact⟨dr _ ⋯,cW _ ⋯⟩
 rw[cQ];apply ag.ext;intro i;rw[ag.mM,ag.mM,qv _ _ (by simp)];show cp.mk (m:Int) _=cp.mk _ _;rw[cp.g8];refine⟨-((aA l).c i/m),?_⟩;have:=eD ((aA l).c i) m;grind
theorem ke.nil(m:Nat):ke m []:=⟨λx hx=>ap hx jg,fc.nil⟩
theorem ke.inj(ha:ke m a)(hb:ke m b)(h:(aA a).map (red m)=(aA b).map (red m)):a=b:=by
 apply lF ha.yb hb.yb;apply ag.ext;intro i;have h1:=aK (λq=>q.c i) h;have zc:∀l,ke m l->(aA l).c i%(m:Int)=(aA l).c i:=by intro l hl;by_cases e:l=[];(·rw[e,fB,ag.dj,Int.zero_emod]);obtain⟨x,l',rfl⟩:=List.exists_cons_of_ne_nil e;have hm:=hl.zc x aq;have:=(nQ (x::l') (λc=>0<=c/\c<m) ⟨js 0,Np hm.1 hm.2⟩).mp hl.zc i;exact NT this.1 this.2
 have e:=Int.emod_eq_emod_iff_emod_sub_eq_zero.mpr (qQ (gr.mp (cp.g8.mp (show cp.mk (m:Int) ((aA a).c i)=cp.mk _ ((aA b).c i)from h1))));rwa[zc a ha,zc b hb]at e
end Tk
namespace Tk
theorem qA(c:Int)(s j:Nat)(f:ag Int):(ag.mono c s*f).c (s+j)=c*f.c j:=by
 have e:ag.mono c s*f=ag.C c*(ag.X^s*f):=by rw[ag.uY];grind
 rw[e,ag.cA,ag.IT]
theorem BZ(h:fc l)(hl:(aA l).Lt n):l.length<=n:=by rw[<-bH.mp h];exact ag.dS hl
end Tk
end
section
namespace Tk
open Lean.Grind
noncomputable def az(m:Nat)(l:List Int):ag (Zp m):=(aA l).map (red m)
theorem lm{m:Nat}{x:Int}(h0:0<=x)(h1:x<m):(red m).f x=0↔x=0:=by
 constructor;.intro h;obtain⟨c,hc⟩:=gr.mp (cp.dh.mp h);apply ae;intro hne;(have:0<c:=by apply ae;intro hn;have:(m:Int)*c<=0:=d9 ⋯ ⋯;lia);have:(m:Int)*1<=m*c:=dX ⋯ ⋯;lia
 rintro rfl;exact gJ.zero _
theorem fh{l:List Int}(h:l≠[]):l.getD (l.length-1) 0=l.getLast h:=by have:=bL.mpr h;rw[dH];simp[aD,aa (show l.length-1<l.length by lia)]
theorem ke.size{m:Nat}{l:List Int}(h:ke m l):(az m l).size=l.length:=by
 by_cases e:l=[];.subst e;unfold az;rw[fB,ag.lL,ag.ff];rfl
 have hl:=bL.mpr e;have h1:=h.yb e;have h2:=h.zc _ (cC e);have:=ag.jb (p:=az m l) (n:=l.length-1) (((gn l).map _).mono ⋯) (by show(red m).f (l.getD (l.length-1) 0)≠0;rw[fh e];intro k;exact h1 ((lm h2.1 h2.2).mp k));lia
theorem ke.kl(h:ke m l):az m l=0↔l=[]:=by
 constructor;.intro e;have:=h.size;rw[e,ag.ff]at this;exact b5 this.symm
 rintro rfl;unfold az;rw[fB,ag.lL]
theorem uX(m:Nat)(l:List Int):(az m l).Lt l.length:=(gn l).map _
def Mo(l:List Int):Prop:=1<=l.length/\l.getD (l.length-1) 0=1
theorem Mo.ju(h:Mo l):(az m l).bD (l.length-1):=by refine⟨(uX m l).mono (by have:=h.1;lia),?_⟩;show(red m).f (l.getD (l.length-1) 0)=1;rw[h.2];exact gJ.one _
theorem Mo.VX(h:Mo l):(aA l).bD (l.length-1):=by refine⟨(gn l).mono (by have:=h.1;lia),?_⟩;exact h.2
structure sV(m:Nat)(F:ag Int)(ms r:List Int):Prop where
 red:ke m r
 lt:r.length<=ms.length-1
 ex:∃Q:ag Int,F.map (Tk.red m)=(aA ms*Q+aA r).map (Tk.red m)
theorem ke.bound(h:ke m l)(x:Int)(hx:x∈l):x.natAbs<m:=by have:=h.zc x hx;lia
theorem r9(hm:0<m)(l:List Int)(z:Int):ke m (aN (l.map λx=>(z*x)%(m:Int)))/\az m (aN (l.map λx=>(z*x)%(m:Int)))=ag.C ((red m).f z)*az m l:=by
 have h:=oJ hm (l.map λx=>z*x);rw[be]at h;refine⟨h.1,?_⟩;unfold az;have e:aA (l.map λx=>z*x)=ag.C z*aA l:=ag.ext λi=>by rw[qv _ _ (by simp),ag.cA]
 refine Eq.trans h.2 ?_;rw[e,ag.cj,ag.np]
end Tk
end
section
namespace Tk
open Lean.Grind
theorem wF{m:Nat}:A.map (red m)=B.map (red m)↔Dv (ag.C (m:Int)) (A-B):=by
 rw[A4,ag.kW];constructor;.intro h;rw[h];grind
 intro h;grind
theorem sR{m:Nat}:A.map (red (m*m))=B.map (red (m*m))↔Dv (ag.C ((m:Int)*m)) (A-B):=by rw[wF,cg]
theorem vD{m k:Nat}(h:m∣k){A B:ag Int}(e:A.map (red k)=B.map (red k)):A.map (red m)=B.map (red m):=by rw[<-sM h A,<-sM h B,e]
theorem EH{m:Nat}{a q q1 r:ag Int}{n:Nat}(ha:(a.map (red m)).bD n)(hr:r.Lt n)(h:(a*q).map (red m)=(a*q1+r).map (red m)):q.map (red m)=q1.map (red m)/\r.map (red m)=0:=by
 rw[ag.gN,ag.cj,ag.cj]at h;have h1:a.map (red m)*(q.map (red m)-q1.map (red m))=r.map (red m):=by grind
 have h2:=ha.o7 (by rw[h1];exact hr.map _);rw[h2]at h1;exact⟨by grind,by rw[<-h1];grind⟩
theorem Ft(u:ag (Zp p)):∃v:ag Int,v.map (red p)=u:=by refine ag.induct (P:=λu=>∃v:ag Int,v.map (red p)=u) ⟨0,ag.lL _⟩ ?_ u;rintro a q ⟨v,hv⟩;obtain⟨z,rfl⟩:=cp.rep a;refine⟨ag.C z+ag.X*v,?_⟩;rw[ag.gN,ag.cj,ag.np,ag.zA,hv];rfl
theorem BX{m:Nat}{F a t q q1 r d A q2 r2 nu dd t':ag Int}{n:Nat}(ha:a.bD n)(hq:Dv (ag.C (m:Int)) (F-a*q))(ht:∃y,Dv (ag.C (m:Int)) (t*q-1-a*y))(h1:F.map (red (m*m))=(a*q1+r).map (red (m*m)))(hr:r.Lt n){k:ag Int}(h2:(t*r).map (red (m*m))=(a*k+d).map (red (m*m)))(hd:d.Lt n)(hA:A.map (red (m*m))=(a+d).map (red (m*m)))(h3:F.map (red (m*m))=(A*q2+r2).map (red (m*m)))(PZ:r2.Lt n){k1:ag Int}(h4:(t*q2).map (red (m*m))=(A*k1+nu).map (red (m*m)))(h5:dd.map (red (m*m))=(2-nu).map (red (m*m))){k2:ag Int}(h6:(t*dd).map (red (m*m))=(A*k2+t').map (red (m*m))):A.map (red m)=a.map (red m)/\(A.map (red (m*m))).bD n/\Dv (ag.C ((m:Int)*m)) (F-A*q2)/\∃y,Dv (ag.C ((m:Int)*m)) (t'*q2-1-A*y):=by
 have hmm:=Nat.dvd_mul_right m m;have e1:=(wF.mpr hq).symm.trans (vD hmm h1);obtain⟨u1,u2⟩:=EH (ha.map _) hr e1;have XU:∃y,Dv (ag.C (m:Int)) (t*q1-1-a*y):=by obtain⟨y,hy⟩:=ht;refine⟨y,?_⟩;rw[A4]at hy ⊢;rw[ag.kW,ag.kW,ag.cj]at hy ⊢;rw[<-u1];exact hy
 obtain⟨s1,q',s2,s3⟩:=FL ha (sR.mp h1) (A4.mpr u2) XU (sR.mp h2) hd;have hAa:A.map (red m)=a.map (red m):=by rw[vD hmm hA,ag.gN,A4.mp s1];grind
 have hAm:(A.map (red (m*m))).bD n:=by rw[hA];refine ag.bD.map ?_ _;refine⟨ha.lt.add (hd.mono ⋯),?_⟩;rw[ag.g9,ha.one,hd n (aw _)];grind
 have e2:(A*q').map (red (m*m))=(A*q2+r2).map (red (m*m)):=by rw[<-h3,ag.cj,hA,<-ag.cj];exact(sR.mpr s2).symm
 obtain⟨v1,v2⟩:=EH hAm PZ e2;have hF:Dv (ag.C ((m:Int)*m)) (F-A*q2):=by apply sR.mp;rw[h3,ag.gN,v2,GB]
 refine⟨hAa,hAm,hF,?_⟩;have XT:∃y,Dv (ag.C (m:Int)) (t*q2-1-A*y):=by obtain⟨y,hy⟩:=XU;refine⟨y,?_⟩;have w1:=(vD hmm v1).symm.trans (wF.mpr s3);rw[A4]at hy ⊢;rw[ag.kW,ag.kW,ag.cj,ag.cj]at hy ⊢;rw[w1,hAa];exact hy
 refine FK XT (sR.mp h4) (k2:=k2) ?_;apply sR.mp;rw[<-h6,ag.cj,ag.cj,h5]
end Tk
end
section
namespace Tk
open Lean.Grind
namespace ag
structure xy(F G A B U V U' V':ag Int)(a b d:Int):Prop where
 a0:a≠0
 b0:b≠0
 d0:d≠0
 eA:C a*A=U*F+V*G
 eB:C b*B=U'*F+V'*G
 det:U*V'-U'*V=C d
 vl:(V*B).size<F.size
 ul:(U*B).size<G.size
 lt:B.size<A.size
theorem MJ{c:Int}(h:c≠0):(C c:ag Int)≠0:=λe=>h (iu (b:=0) e)
theorem iz{c:Int}(h:c≠0)(f:ag Int):(C c*f).size=f.size:=by
 by_cases e:f=0;.rw[e];congr 1;grind
 have:=bM (MJ h) e;rw[fP h]at this;lia
theorem EV(f:ag Int):(-f).size=f.size:=by
 have e:-f=C (-1)*f:=by apply ext;intro i;rw[cA,tP];lia
 rw[e,iz ∅]
theorem rS{f g:ag Int}(h:g.size<f.size):(f+g).size=f.size:=by have h1:=EX f g;have h2:=w6 (f+g) g;rw[show f+g-g=f by grind]at h2;lia
namespace xy
variable {F G A B U V U' V':ag Int}{a b d:Int}
theorem fd(h:xy F G A B U V U' V' a b d):C a*(V'*A)=C d*F+C b*(V*B):=by have h1:=h.eA;have h2:=h.eB;have h3:=h.det;rw[<-h3];grind
theorem gd(h:xy F G A B U V U' V' a b d):C a*(U'*A)=C b*(U*B)-C d*G:=by have h1:=h.eA;have h2:=h.eB;have h3:=h.det;rw[<-h3];grind
theorem sv(h:xy F G A B U V U' V' a b d):(V'*A).size=F.size:=by rw[<-iz h.a0,h.fd,rS,iz h.d0];rw[iz h.d0,iz h.b0];exact h.vl
theorem su(h:xy F G A B U V U' V' a b d):(U'*A).size=G.size:=by
 have e:C b*(U*B)-C d*G=-(C d*G)+C b*(U*B):=by grind
 rw[<-iz h.a0,h.gd,e,rS,EV,iz h.d0];rw[EV,iz h.d0,iz h.b0];exact h.ul
theorem A0(h:xy F G A B U V U' V' a b d):A≠0:=aS.mp (by have:=h.lt;lia)
theorem F0(h:xy F G A B U V U' V' a b d):F≠0:=aS.mp (by have:=h.vl;lia)
theorem G0(h:xy F G A B U V U' V' a b d):G≠0:=aS.mp (by have:=h.ul;lia)
theorem V0(h:xy F G A B U V U' V' a b d):V'≠0:=λe=>by have:=h.sv;rw[e,show(0:ag Int)*A=0 by grind,ff]at this;exact h.F0 (iG.mp this.symm)
theorem U0(h:xy F G A B U V U' V' a b d):U'≠0:=λe=>by have:=h.su;rw[e,show(0:ag Int)*A=0 by grind,ff]at this;exact h.G0 (iG.mp this.symm)
theorem sv'(h:xy F G A B U V U' V' a b d):V'.size+A.size=F.size+1:=by have:=bM h.V0 h.A0;rw[h.sv]at this;lia
theorem su'(h:xy F G A B U V U' V' a b d):U'.size+A.size=G.size+1:=by have:=bM h.U0 h.A0;rw[h.su]at this;lia
theorem one(h:xy F G A B U V U' V' a b d)(hB:B.e9){X Y:ag Int}{u w:Nat}(hu:F.size=A.size+u)(hw:A.size=1+w)(hY:Y.Lt (u+1))(hR:(X*F+Y*G).Lt w)(hne:X≠0\/Y≠0):∃x,x≠0/\X*F+Y*G=C x*B:=by
 have hlt:=h.lt;have hsv:=h.sv';generalize ZL:X*F+Y*G=R at*;have agr:U'*Y-X*V'=0:=by(have e:F*(U'*Y-X*V')=C b*(Y*B)-V'*R:=by have:=h.eB;rw[<-ZL];grind);apply ae;intro hc;have h1:=bM h.F0 hc;(have h2:(C b*(Y*B)-V'*R).Lt (w+u):=by refine Lt.sub (Lt.z4 _ (hY.mul (cS (n:=w) ⋯) ⋯)) ?_;exact(cS (n:=u+1) ⋯).mul hR ⋯);have h3:=dS h2;rw[<-e]at h3;have:=aS.mpr h.F0;have:=aS.mpr hc;lia
 have hy:C d*Y=V'*(U*Y-V*X):=by rw[<-h.det];grind
 have hx:C d*X=U'*(U*Y-V*X):=by rw[<-h.det];grind
 generalize hE:U*Y-V*X=E at*;have hE0:E≠0:=by intro e;rw[e]at hx hy;rcases hne with k|k;(·exact iC.jm (MJ h.d0) k (by rw[hx];grind));exact iC.jm (MJ h.d0) k (by rw[hy];grind)
 have hEs:E.Lt 1:=by have h1:=bM h.V0 hE0;rw[<-hy,iz h.d0]at h1;have h2:=dS hY;exact cS ⋯
 have hEC:=hEs.o_;have VB:E.c 0≠0:=λe=>hE0 (by rw[hEC,e,jI]);generalize E.c 0=e at*;have ZM:C d*R=B*C (e*b):=by have h1:=h.eB;rw[<-ZL,dw];(have h2:C d*(X*F+Y*G)=E*(U'*F+V'*G):=by grind);rw[h2,<-h1,hEC];grind
 obtain⟨g,Vz,ZF⟩:=hB.et h.d0 ZM;have hgs:g.Lt 1:=by have:=iz h.d0 g;rw[<-Vz,fP (cF VB h.b0)]at this;exact cS ⋯
 have hgC:=hgs.o_;refine⟨g.c 0,λk=>?_,?_⟩;.rw[k,jI]at hgC;rw[hgC]at Vz;exact MJ (cF VB h.b0) (by rw[Vz];grind)
 rw[ZF,hgC];have:(C (g.c 0):ag Int).c 0=g.c 0:=rfl;rw[this];grind
theorem small(h:xy F G A B U V U' V' a b d)(hB:B.e9){N:Nat}(hN:eG F F.size+eG G G.size<=N)(i:Nat):(B.c i).natAbs<=(2*N+1)^(F.size+G.size+2-2*A.size):=by have hBs:=aS.mpr hB.ne;have hlt:=h.lt;have hsv:=h.sv';have hsu:=h.su';have hVs:=aS.mpr h.V0;have hUs:=aS.mpr h.U0;obtain⟨u,hu⟩:=eK (show A.size<=F.size by lia);obtain⟨v,hv⟩:=eK (show A.size<=G.size by lia);obtain⟨w,hw⟩:=eK (show 1<=A.size by lia);clear hsv hsu hVs hUs hBs hlt;obtain⟨X,Y,h1,h2,hnz,hz,hb⟩:=JI F.b_ G.b_ hN (v+1) (u+1) w (oq _);have um:(X*F+Y*G).Lt (w+(v+1+u)):=(h1.mul F.b_ ⋯).add (h2.mul G.b_ ⋯);obtain⟨y,hy,e⟩:=h.one hB hu hw h2 (λi hi=>by by_cases hh:i<w+(v+1+u);(·exact hz i hi hh);exact um i (mU hh)) hnz;have h3:=hb i;rw[e,cA,cP]at h3;refine br (rC _ (Bj.mpr hy)) (br h3 ?_);rw[hu,hv,show A.size+u+(A.size+v)+2=2*A.size+(v+1+u+1) by lia,cT,cv,du];exact di _ ⋯
theorem next(h:xy F G A B U V U' V' a b d)(hl:l≠0)(hs:s≠0)(e:C l*A=q*B+C s*R)(hR:R.size<B.size):
  xy F G B R U' V' (C (b*l)*U-C a*q*U') (C (b*l)*V-C a*q*V') b (a*b*s) (-(b*l*d)) where
 a0:=h.b0
 b0:=cF (cF h.a0 h.b0) hs
 d0:=λk=>by
  have:b*l*d=0:=⋯
  exact cF (cF h.b0 hl) h.d0 this
 eA:=h.eB
 eB:=by
  have h1:=h.eA
  have h2:=h.eB
  rw[dw,dw,dw]
  generalize C a=ca at*
  generalize C b=cb at*
  generalize C l=cl at*
  generalize C s=cs at*
  have h3:cs*R=cl*A-q*B:=by grind
  have h4:ca*cb*cs*R=ca*cb*(cl*A-q*B):=by rw[<-h3];grind
  rw[h4]
  have h5:cb*cl*(U*F+V*G)-ca*q*(U'*F+V'*G)=ca*cb*(cl*A-q*B):=by
   rw[<-h1,<-h2];grind
  rw[<-h5];grind
 det:=by
  have h3:=h.det
  have e1:C (-(b*l*d))=-(C (b*l)*C d):=by
   rw[<-dw]
   apply ext;intro i
   rw[tP,yz,yz];split<;>lia
  rw[e1,<-h3];grind
 vl:=by
  have:=h.sv'
  have:=aS.mpr h.V0
  by_cases e:R=0
  .rw[e,show V'*(0:ag Int)=0 by grind,ff]
   exact aS.mpr h.F0
  .have h1:=bM h.V0 e
   have:=h.lt
   lia
 ul:=by
  have:=h.su'
  have:=aS.mpr h.U0
  by_cases e:R=0
  .rw[e,show U'*(0:ag Int)=0 by grind,ff]
   exact aS.mpr h.G0
  .have h1:=bM h.U0 e
   have:=h.lt
   lia
 lt:=hR
theorem start(hF:F≠0)(hG:G≠0)(hl:l≠0)(hs:s≠0)(hFG:G.size<=F.size)(e:C l*F=q*G+C s*R)(hR:R.size<G.size):xy F G G R 0 1 (C l) (-q) 1 s (-l) where
 a0:=by decide
 b0:=hs
 d0:=⋯
 eA:=by rw[eC];grind
 eB:=by grind
 det:=by
  have e1:C (-l)=-(C l:ag Int):=by
   apply ext;intro i
   rw[tP,yz,yz];split<;>lia
  rw[e1];grind
 vl:=by rw[show(1:ag Int)*R=R by grind];lia
 ul:=by rw[show(0:ag Int)*R=0 by grind,ff];exact aS.mpr hG
 lt:=hR
theorem Wc{l s t:Int}(hF:F≠0)(ht:t≠0)(hl:l≠0)(hs:s≠0)(hF1:F=C t*F1)(hFG:F.size<G.size)(e:C l*G=q*F1+C s*R)(hR:R.size<F1.size):xy F G F1 R 1 0 (-q) (C (t*l)) t (t*s) (t*l) where
 a0:=ht
 b0:=cF ht hs
 d0:=cF ht hl
 eA:=by rw[<-hF1];grind
 eB:=by
  rw[dw,dw,hF1]
  generalize C t=ct at*
  generalize C l=cl at*
  generalize C s=cs at*
  grind
 det:=by grind
 vl:=by rw[show(0:ag Int)*R=0 by grind,ff];exact aS.mpr hF
 ul:=by
  rw[show(1:ag Int)*R=R by grind]
  rw[hF1,iz ht]at hFG
  lia
 lt:=hR
end xy
end ag
theorem Af.back(hl:l≠0)(hs:s≠0)(e:ag.C l*A=q*B+ag.C s*R)(h:Af D B R):Af D A B:=by
 obtain⟨x,hx⟩:=h.dp;obtain⟨y,hy⟩:=h.dq;obtain⟨c,u,v,hc,k⟩:=h.Ih;refine⟨h.prim,h.aT,?_,h.dp,c*s,v*ag.C l,u*ag.C s-v*q,cF hc hs,?_⟩;·(have k2:ag.C l*A=D*(q*x+ag.C s*y):=by rw[e,hx,hy];grind);obtain⟨z,_,hz⟩:=h.prim.et hl k2;exact⟨z,hz⟩
 rw[ag.dw];generalize ag.C l=cl at*;generalize ag.C s=cs at*;generalize ag.C c=cc at*;have h1:cc*cs*D=cs*(u*B+v*R):=by rw[<-k];grind
 rw[h1];grind
end Tk
end
section
namespace Tk
open Lean.Grind
section
variable {K:Type}[bI K]
noncomputable def dot(n:Nat)(r v:Nat->K):K:=bZ n (λi=>r i*v i)
theorem vq(n:Nat)(r q v:Nat->K)(c:K):dot n (λi=>r i-c*q i) v=dot n r v-c*dot n q v:=by unfold dot;rw[<-jV,<-n9];exact bJ λi _=>by grind
theorem Cm(n:Nat)(r v:Nat->K)(c:K):dot n (λi=>c*r i) v=c*dot n r v:=by unfold dot;rw[<-jV];exact bJ λi _=>by grind
structure NH(n:Nat)(pv:List (Nat×(Nat->K))):Prop where
 lt:∀x,x∈pv->x.1<n
 one:∀x,x∈pv->x.2 x.1=1
 off:∀x y,x∈pv->y∈pv->x.1≠y.1->x.2 y.1=0
 nd:(pv.map (·.1)).Nodup
def Rf(n:Nat)(pv:List (Nat×(Nat->K)))(v:Nat->K):Prop:=∀x,x∈pv->dot n x.2 v=0
theorem NH.nil(n:Nat):NH (K:=K) n []:=⟨by simp,by simp,by simp,by simp⟩
noncomputable def clear(ch:Nat)(row:Nat->K)(x:Nat×(Nat->K)):Nat×(Nat->K):=(x.1,λi=>x.2 i-x.2 ch*row i)
theorem NH.more{pv:List (Nat×(Nat->K))}(h:NH n pv){row:Nat->K}(hc:ch<n)(h1:row ch=1)(h0:∀x,x∈pv->row x.1=0)(hn:∀x,x∈pv->x.1≠ch):NH n (pv.map (clear ch row)++[(ch,row)]):=by
 refine⟨?_,?_,?_,?_⟩;.intro x hx;rcases aO.mp hx with h2|h2;(·obtain⟨y,hy,rfl⟩:=ao.mp h2;exact h.lt y hy);rw[a6]at h2;rw[h2];exact hc
 .intro x hx;rcases aO.mp hx with h2|h2;(·obtain⟨y,hy,rfl⟩:=ao.mp h2;show y.2 y.1-y.2 ch*row y.1=1;rw[h.one y hy,h0 y hy];grind);rw[a6]at h2;rw[h2];exact h1
 .intro x y hx hy hne;rcases aO.mp hx with h2|h2<;>rcases aO.mp hy with h3|h3;(·obtain⟨a,ha,rfl⟩:=ao.mp h2;obtain⟨b,hb,rfl⟩:=ao.mp h3;show a.2 b.1-a.2 ch*row b.1=0;rw[h.off a b ha hb hne,h0 b hb];grind);(·obtain⟨a,ha,rfl⟩:=ao.mp h2;rw[a6]at h3;rw[h3];show a.2 ch-a.2 ch*row ch=0;rw[h1];grind);(·obtain⟨b,hb,rfl⟩:=ao.mp h3;rw[a6]at h2;rw[h2];exact h0 b hb);rw[a6]at h2 h3;rw[h2,h3]at hne;exact ap rfl hne
 rw[aF,be];have e:(pv.map ((λx:Nat×(Nat->K)=>x.1)∘clear ch row))=pv.map (·.1):=cY λx _=>rfl;rw[e];refine jP.mpr ⟨h.nd,by simp,?_⟩;intro a ha b hb;obtain⟨x,hx,rfl⟩:=ao.mp ha;simp at hb;rw[hb];exact hn x hx
theorem EU{pv:List (Nat×(Nat->K))}{row:Nat->K}{v:Nat->K}:Rf n (pv.map (clear ch row)++[(ch,row)]) v↔Rf n pv v/\dot n row v=0:=by
 constructor;.intro h;have hr:=h (ch,row) (bF _ (a6.mpr rfl));refine⟨λx hx=>?_,hr⟩;have h2:=h (clear ch row x) (bq _ (ao.mpr ⟨x,hx,rfl⟩));have h3:dot n (clear ch row x).2 v=dot n x.2 v-x.2 ch*dot n row v:=vq n x.2 row v (x.2 ch);rw[h3,hr]at h2;grind
 rintro⟨h,hr⟩ x hx;rcases aO.mp hx with h2|h2;.obtain⟨y,hy,rfl⟩:=ao.mp h2;have h3:dot n (clear ch row y).2 v=dot n y.2 v-y.2 ch*dot n row v:=vq n y.2 row v (y.2 ch);rw[h3,hr,h y hy];grind
 rw[a6]at h2;rw[h2];exact hr
structure ZY(n:Nat)(pv:List (Nat×(Nat->K)))(f:Nat)(b:Nat->K):Prop where
 one:b f=1
 piv:∀x,x∈pv->b x.1=-x.2 f
 zero:∀i,i<n->i≠f->(∀x,x∈pv->x.1≠i)->b i=0
theorem ZY.sol{pv:List (Nat×(Nat->K))}{b:Nat->K}(hE:NH n pv)(h:ZY n pv f b)(hf:f<n)(A1:∀x,x∈pv->x.1≠f):Rf n pv b:=by
 intro x hx;unfold dot;have hne:=A1 x hx;have e:bZ n (λi=>x.2 i*b i)=bZ n (λi=>(if i=f then x.2 f else 0)+(if i=x.1 then-x.2 f else 0)):=by apply bJ;intro i hi;by_cases h1:i=f;(·rw[aj h1,ah (by rw[h1];exact λe=>hne e.symm),h1,h.one];grind);rw[ah h1];by_cases h2:i=x.1;(·rw[aj h2,h2,h.piv x hx,hE.one x hx];grind);rw[ah h2];by_cases h3:∃y,y∈pv/\y.1=i;(·obtain⟨y,hy,e⟩:=h3;have:=hE.off x y hx hy (λe2=>h2 (by rw[<-e,e2]));rw[e]at this;rw[this];grind);rw[h.zero i hi h1 (λy hy e=>h3 ⟨y,hy,e⟩)];grind
 rw[e,kN,iF hf (λi _ h=>ah h),iF (hE.lt x hx) (λi _ h=>ah h),aj rfl,aj rfl];grind
theorem ET{pv:List (Nat×(Nat->K))}(hE:NH n pv)(fr:Nat->Bool)(A1:∀i,i<n->(fr i=true↔∀x,x∈pv->x.1≠i))(b:Nat->Nat->K)(hb:∀f,f<n->fr f=true->ZY n pv f (b f)){v:Nat->K}(hv:Rf n pv v):∀i,i<n->v i=bZ n (λf=>if fr f=true then v f*b f i else 0):=by
 intro i hi;by_cases h1:fr i=true;.have hn:=(A1 i hi).mp h1;rw[iF hi,aj h1,(hb i hi h1).one];(·grind);intro f hf hne;by_cases h2:fr f=true;(·rw[aj h2,(hb f hf h2).zero i hi (λe=>hne e.symm) hn];grind);rw[ah h2]
 have h2:∃x,x∈pv/\x.1=i:=by apply ae;intro hc;exact h1 ((A1 i hi).mpr λx hx e=>hc ⟨x,hx,e⟩)
 obtain⟨x,hx,rfl⟩:=h2;have h3:=hv x hx;unfold dot at h3;have e:bZ n (λj=>x.2 j*v j)=bZ n (λj=>(if j=x.1 then v x.1 else 0)-(if fr j=true then v j*b j x.1 else 0)):=by apply bJ;intro j hj;by_cases h4:j=x.1;(·rw[aj h4,h4,ah h1,hE.one x hx];grind);rw[ah h4];by_cases h5:fr j=true;(·rw[aj h5,(hb j hj h5).piv x hx];grind);rw[ah h5];(have h6:∃y,y∈pv/\y.1=j:=by apply ae;intro hc;exact h5 ((A1 j hj).mpr λy hy e=>hc ⟨y,hy,e⟩));obtain⟨y,hy,rfl⟩:=h6;rw[hE.off x y hx hy (λe=>h4 e.symm)];grind
 rw[e,n9,iF hi (λj _ h=>ah h),aj rfl]at h3;grind
theorem wY{A:Type}[bI A](fr:Nat->Bool)(g:Nat->A)(d:Nat):∀n,bZ n (λf=>if fr f=true then g f else 0)=bZ ((aX n).filter fr).length (λi=>g (((aX n).filter fr).getD i d)):=by
 intro n;induction n with
  |zero=>rfl
  |succ n ih=>rw[bE,ih,gD,ig];by_cases h:fr n=true;(·rw[aj h,gc,aj h,nr,bw,ck,bE];congr 1;(·apply bJ;intro i hi;congr 1;simp only[aD,bA hi]);simp[aD]);rw[ah h,gc,ah h,nr,eN];grind
end
end Tk
end
section
namespace Tk
open Lean.Grind
namespace ag
theorem DN{R:Type}[bI R](n:Nat)(g:Nat->ag R)(k:Nat):(bZ n g).c k=bZ n (λi=>(g i).c k):=by
 induction n with
  |zero=>exact dj k
  |succ n ih=>rw[bE,g9,ih,bE]
theorem Y7{R:Type}[bI R]{v:ag R}(h:v.Lt n):v=bZ n (λi=>C (v.c i)*X^i):=by
 apply ext;intro k;rw[DN];by_cases hk:k<n;.rw[iF hk,cA,wI,aj rfl];(·grind);intro i _ hne;rw[cA,wI,ah (λe=>hne e.symm)];grind
 rw[h k ⋯,eR];intro i hi;rw[cA,wI,ah ⋯];grind
end ag
section
variable {p:Nat}(hp:Pr p)
include hp
theorem Qz(n:Nat)(c:Nat->Zp p):(bZ n (λi=>ag.C (c i)*ag.X^i):ag (Zp p))^p=bZ n (λi=>ag.C (c i)*ag.X^(p*i)):=by
 have:=pc hp;have h2:=hp.1;induction n with
  |zero=>rw[dN,dN];obtain⟨q,rfl⟩:∃q,p=q+1:=⟨p-1,⋯⟩;rw[ay];grind
  |succ n ih=>rw[bE,vi,ih,bE];congr 1;have e1:(ag.C (c n)*ag.X^n:ag (Zp p))^p=ag.C (c n)^p*(ag.X^n)^p:=CommSemiring.mul_pow _ _ _;have e2:(ag.C (c n):ag (Zp p))^p=ag.C (c n^p):=(ag.sA (R:=Zp p)).pow _ _ |>.symm;rw[e1,e2,wD hp,du,iI]
theorem KL(hm:f.bD n)(rows:Nat->ag (Zp p))(hrl:∀i,i<n->(rows i).Lt n)(hr:∀i,i<n->Dv f (ag.X^(p*i)-rows i))(hv:v.Lt n):Dv f (v^p-v)↔∀k,k<n->dot n (λi=>(rows i).c k-if i=k then 1 else 0) v.c=0:=by
 let S:ag (Zp p):=bZ n (λi=>ag.C (v.c i)*rows i);have hS:S.Lt n:=by intro k hk;show(bZ n (λi=>ag.C (v.c i)*rows i)).c k=0;rw[ag.DN];apply eR;intro i hi;rw[ag.cA,hrl i hi k hk];grind
 have h1:Dv f (v^p-S):=by(have e:v^p=bZ n (λi=>ag.C (v.c i)*ag.X^(p*i)):=by have:=Qz hp n v.c;rwa[<-ag.Y7 hv]at this);rw[e];show Dv f (bZ n (λi=>ag.C (v.c i)*ag.X^(p*i))-bZ n (λi=>ag.C (v.c i)*rows i));rw[<-n9];apply DF hp;intro i hi;have:=(hr i hi).mul_left (ag.C (v.c i));(have e2:ag.C (v.c i)*(ag.X^(p*i)-rows i)=ag.C (v.c i)*ag.X^(p*i)-ag.C (v.c i)*rows i:=by grind);rw[<-e2];exact this
 have hc:∀k,k<n->(S-v).c k=dot n (λi=>(rows i).c k-if i=k then 1 else 0) v.c:=by intro k hk;rw[ag.i8];show(bZ n (λi=>ag.C (v.c i)*rows i)).c k-v.c k=_;rw[ag.DN];unfold dot;(have e:bZ n (λi=>((rows i).c k-if i=k then 1 else 0)*v.c i)=bZ n (λi=>(ag.C (v.c i)*rows i).c k-(if i=k then v.c k else 0)):=by apply bJ;intro i _;rw[ag.cA];by_cases h:i=k;(·rw[aj h,aj h,h];grind);rw[ah h,ah h];grind);rw[e,n9,iF hk (λi _ h=>ah h),aj rfl]
 constructor;.intro h k hk;(have h2:Dv f (S-v):=by have:=h.sub h1;(have e:v^p-v-(v^p-S)=S-v:=by grind);rwa[e]at this);obtain⟨q,hq⟩:=h2;have h3:=hm.o7 (q:=q) (by rw[<-hq];exact hS.sub hv);rw[h3]at hq;rw[<-hc k hk,hq];(have:f*(0:ag (Zp p))=0:=by grind);rw[this,ag.dj]
 intro h;have h2:S-v=0:=by apply ag.ext;intro k;rw[ag.dj];by_cases hk:k<n;(·rw[hc k hk,h k hk]);exact(hS.sub hv) k ⋯
 have e:v^p-v=(v^p-S)+(S-v):=by grind
 rw[e,h2];have e2:v^p-S+0=v^p-S:=by grind
 rw[e2];exact h1
end
end Tk
end
section
namespace Tk
open Lean.Grind
section
variable {K:Type}[bI K][nU K]
theorem F9{g R w:ag K}(hs:(g*R).pC)(h0:g*R≠0)(hg:Jg g (g*R) w):kC R w:=by
 obtain⟨u,x,e⟩:=hg.Ih;obtain⟨a,b,h⟩:=hs.cop h0;refine⟨a*u*g+b,a*x,?_⟩;have:a*(u*(g*R)+x*w)+b*R=1:=by rw[<-e];exact h
 grind
theorem qS{l:List (ag K)}(hs:(ag.prod l).pC)(h0:ag.prod l≠0):l.Pairwise kC:=by
 induction l with
  |nil=>exact kJ
  |cons a l ih=>have e:ag.prod (a::l)=a*ag.prod l:=rfl;rw[e]at hs h0;have h1:ag.prod l≠0:=λh=>h0 (by rw[h];grind);refine iX (λb hb=>(hs.cop h0).jt (ag.gy hb)) (ih (hs.jt (Dv.right _ _)) h1)
theorem sL{g q f:ag K}(hg:g.bD m)(hf:f.bD n)(e:f=g*q):q.bD (q.size-1)/\n+1=m+q.size/\1<=q.size:=by
 have hq:q≠0:=by rintro rfl;exact hf.ne (by rw[e];grind)
 have hsz:=ag.bM (p:=g) (q:=q) hg.ne hq;rw[<-e,hf.size,hg.size]at hsz;have hq1:=ag.aS.mpr hq;refine⟨⟨?_,?_⟩,⋯,hq1⟩;.exact q.b_.mono ⋯
 have h1:=hf.one;have h2:q.Lt (q.size-1+1):=q.b_.mono ⋯;rw[e,show n=m+(q.size-1) by lia,ag.iA hg.lt h2,hg.one]at h1;grind
end
section
variable {p:Nat}(hp:Pr p)
include hp
theorem E2(hv:Dv F (v^p-v))(hR:Dv R F)(hm:R.bD n)(h:∀s,s<p->kC R (v-ag.C (zm p s))):n=0:=by have mj:=cn hp;apply ae;intro hn;obtain⟨P,hP,mP,dP⟩:=ag.kQ (f:=R) (by rw[hm.size];lia);obtain⟨s,hs,hd⟩:=T8 hp hv hP (dP.trans hR);obtain⟨a,b,e⟩:=h s hs;exact hP.oN (by rw[<-e];exact(dP.mul_left a).add (hd.mul_left b))
theorem FT{n:Nat}{bs:List (ag (Zp p))}(hm:f.bD n)(hs:f.pC)(hb:Ae f n bs){m:Nat}(hG:G.bD m)(h1:1<=m)(hd:Dv G f)(h:∀b,b∈bs->∃s,Dv G (b-ag.C s)):G.ir:=by
 have mj:=cn hp;obtain⟨l,hl,e⟩:=ag.Dz hG.mon;have hsG:(ag.prod l).pC:=by rw[<-e];exact hs.jt hd
 have hnd:=hsG.nodup hl;cases l with
  |nil=>have:G=1:=e;have h2:=hG.size;rw[this,ag.bD.size ag.bD.unit]at h2;lia
  |cons P l=>
   cases l with
    |nil=>(have:G=P:=by rw[e];show P*1=P;grind);rw[this];exact(hl P (.head _)).1
    |cons Q l=>exfalso;have hPQ:P≠Q:=λh=>(bO.mp hnd).1 (by rw[h];exact .head _);(have dP:Dv P G:=by rw[e];exact ag.gy (.head _));(have dQ:Dv Q G:=by rw[e];exact ag.gy (.tail _ (.head _)));obtain⟨b,hbm,uE⟩:=HE hp hm hs hb (hl P (.head _)).1 (hl Q (.tail _ (.head _))).1 (hl P (.head _)).2 (hl Q (.tail _ (.head _))).2 (dP.trans hd) (dQ.trans hd) hPQ;obtain⟨s,zH⟩:=h b hbm;exact uE s ⟨dP.trans zH,dQ.trans zH⟩
theorem KJ{F G v w:ag (Zp p)}(hv:Dv F (v^p-v))(hG:Dv G F)(hw:Dv G (v-w)):Dv G (w^p-w):=by
 have h1:Dv G (v^p-w^p):=by obtain⟨q,hq⟩:=hw;have:=pc hp;have e:v^p-w^p=(v-w)^p:=(QA v w).symm;(have e2:(v-w)^p=(v-w)^(p-1)*(v-w):=by rw[<-ay];congr 1;have:=hp.1;lia);rw[e,e2];exact Dv.mul_left _ ⟨q,hq⟩
 have h2:=hG.trans hv;have e:w^p-w=(v^p-v)-(v^p-w^p)+(v-w):=by grind
 rw[e];exact(h2.sub h1).add hw
end
end Tk
end
section
namespace Tk
open Lean.Grind
theorem EY(h:Ek s)(h2:1<s.size)(hs:Ac s)(good:Nat->Bool)(hg:∀q,Pr q->¬(q:Int)∣s.aT->kC (s.map (red q)) (ag.fz (s.map (red q)))->good q=true):6<=((aX 2000).filter good).length:=by
 obtain⟨u,v,D,hD,e,hb⟩:=h.res h2 hs;have Cb:s.aT≠0:=ag.fS (ag.aS.mp ⋯);have hl:=h.c (s.size-1);have hN0:D.natAbs*s.aT.natAbs≠0:=Nat.mul_ne_zero ⋯ ⋯;have hNb:D.natAbs*s.aT.natAbs<=2^2005:=by(have:(2:Nat)^2005=2^1953*2^52:=by rw[<-iW]);rw[this];exact dJ hb hl
 have h6:=Mc hN0 hNb (λx=>decide (¬x∣D.natAbs*s.aT.natAbs)) (λx=>by simp);refine br h6 ?_;unfold small;rw[List.filter_filter,<-yI,<-yI];refine List.countP_mono_left λx hx hh=>?_;simp only[cR,decide_eq_true_eq]at hh;have hpx:=(OV (by have:=cr.mp hx;lia)).mp hh.2;refine hg x hpx (λhd=>hh.1 ?_) (z0 hpx e λhd=>hh.1 ?_);.exact Nat.dvd_mul_left_of_dvd (dc.mp hd) _
 exact Nat.dvd_mul_right_of_dvd (dc.mp hd) _
end Tk
end
section
namespace Tk
noncomputable def qh(n:Nat):Nat->List Nat->Prop
 |_,[]=>True
 |lo,x::l=>lo<=x/\x<n/\qh n (x+1) l
noncomputable def rk(n:Nat):List Nat->Nat
 |[]=>0
 |x::l=>x*(n+1)^l.length+rk n l
noncomputable def eS(a:Nat):Nat->List Nat
 |0=>[]
 |t+1=>a::eS (a+1) t
theorem lG(a t:Nat):(eS a t).length=t:=by
 induction t generalizing a with
  |zero=>rfl
  |succ t ih=>simp[eS,ih]
theorem run_get(a t i:Nat)(h:i<t):(eS a t)[i]?=some (a+i):=by
 induction t generalizing a i with
  |zero=>lia
  |succ t ih=>
   cases i with
    |zero=>rfl
    |succ i=>rw[eS,ji,ih (a+1) i ⋯];congr 1;lia
theorem qh.weak(h:qh n lo l)(hl:lo'<=lo):qh n lo' l:=by
 cases l with
  |nil=>trivial
  |cons x l=>exact⟨br hl h.1,h.2⟩
theorem qh.len(h:qh n lo l)(hl:lo<=n):lo+l.length<=n:=by
 induction l generalizing lo with
  |nil=>simpa using hl
  |cons x l ih=>have h1:=ih h.2.2 h.2.1;have h2:=h.1;rw[a7];lia
theorem qh.lt(h:qh n lo l):∀x,x∈l->x<n:=by
 induction l generalizing lo with
  |nil=>intro x hx;cases hx
  |cons y l ih=>intro x hx;rcases bi.mp hx with rfl|hx;(·exact h.2.1);exact ih h.2.2 x hx
theorem qh.ge(h:qh n lo l):∀x,x∈l->lo<=x:=by
 induction l generalizing lo with
  |nil=>intro x hx;cases hx
  |cons y l ih=>intro x hx;rcases bi.mp hx with rfl|hx;(·exact h.1);have:=ih h.2.2 x hx;have:=h.1;lia
theorem qh.nodup(h:qh n lo l):l.Nodup:=by
 induction l generalizing lo with
  |nil=>exact lV
  |cons y l ih=>refine bO.mpr ⟨λhy=>?_,ih h.2.2⟩;have:=h.2.2.ge y hy;lia
theorem yt(h:a+t<=n)(lo:Nat)(hl:lo<=a):qh n lo (eS a t):=by
 induction t generalizing a lo with
  |zero=>trivial
  |succ t ih=>exact⟨hl,⋯,ih ⋯ _ (aw _)⟩
theorem w9(h:∀x,x∈l->x<=n):rk n l<(n+1)^l.length:=by
 induction l with
  |nil=>simp[rk]
  |cons x l ih=>have h1:=ih λy hy=>h y (.tail _ hy);have h2:=h x (.head _);rw[rk,a7,cv];have h3:(x+1)*(n+1)^l.length<=(n+1)*(n+1)^l.length:=bu _ ⋯;lia
theorem HM(h:qh n lo l):rk n (eS lo l.length)<=rk n l:=by
 induction l generalizing lo with
  |nil=>exact aw _
  |cons x l ih=>have h1:=ih (h.2.2.weak (show lo+1<=x+1 by have:=h.1;lia));show lo*(n+1)^(eS (lo+1) l.length).length+rk n (eS (lo+1) l.length)<=x*(n+1)^l.length+rk n l;rw[lG];exact Bh (bu _ h.1) h1
theorem C8(h:qh n lo l):rk n l<=rk n (eS (n-l.length) l.length):=by
 induction l generalizing lo with
  |nil=>exact aw _
  |cons x l ih=>have h1:=ih h.2.2;have h2:=h.2.2.len h.2.1;(have e:eS (n-(x::l).length) (x::l).length=(n-(l.length+1))::eS (n-l.length) l.length:=by rw[a7];show(n-(l.length+1))::eS (n-(l.length+1)+1) l.length=_;rw[show n-(l.length+1)+1=n-l.length by lia]);rw[e];show x*(n+1)^l.length+rk n l<=(n-(l.length+1))*(n+1)^(eS (n-l.length) l.length).length+rk n (eS (n-l.length) l.length);rw[lG];exact Bh (bu _ ⋯) h1
theorem OI(hl:a.length=b.length)(ha:∀x,x∈a->x<=n)(hb:∀x,x∈b->x<=n)(e:rk n a=rk n b):a=b:=by
 induction a generalizing b with
  |nil=>cases b with
   |nil=>rfl
   |cons=>simp at hl
  |cons x a ih=>cases b with
   |nil=>simp at hl
   |cons y b=>simp only[a7,Nat.add_right_cancel_iff]at hl;have h1:=w9 λz hz=>ha z (.tail _ hz);have h2:=w9 λz hz=>hb z (.tail _ hz);rw[rk,rk,hl]at e;rw[hl]at h1;(have Im:x=y:=by rcases fM x y with h|h|h;(·have:=bu ((n+1)^b.length) (show x+1<=y from h);rw[jz]at this;lia);(·exact h);have:=bu ((n+1)^b.length) (show y+1<=x from h);rw[jz]at this;lia);subst Im;rw[ih hl (λz hz=>ha z (.tail _ hz)) (λz hz=>hb z (.tail _ hz)) ⋯]
theorem qh.mid(h:qh n lo (a++x::tl)):x<n/\qh n (x+1) tl:=by
 induction a generalizing lo with
  |nil=>exact⟨h.2.1,h.2.2⟩
  |cons z a ih=>exact ih h.2.2
theorem JZ(hc:qh n lo (a++x::tl))(ht:tl=eS (n-tl.length) tl.length)(hx:x+1+tl.length<n)(hd:qh n lo d)(hl:d.length=(a++x::tl).length)(hlt:rk n (a++x::tl)<rk n d):rk n (a++eS (x+1) (tl.length+1))<=rk n d:=by
 induction a generalizing d lo with
  |nil=>
   cases d with
    |nil=>simp at hl
    |cons y e=>(have GU:e.length=tl.length:=by simpa using hl);(have h1:rk n e<=rk n tl:=by have:=C8 hd.2.2;rwa[GU,<-ht]at this);have TQ:x*(n+1)^tl.length+rk n tl<y*(n+1)^e.length+rk n e:=hlt;rw[GU]at TQ;(have Im:x<y:=by apply ae;intro h;have:=bu ((n+1)^tl.length) (show y<=x by lia);lia);have h2:qh n (x+1) (y::e):=⟨Im,hd.2⟩;have:=HM h2;rwa[a7,GU]at this
  |cons z a ih=>
   cases d with
    |nil=>simp at hl
    |cons y e=>(have GU:e.length=(a++x::tl).length:=by simpa using hl);(have mJ:(a++eS (x+1) (tl.length+1)).length=(a++x::tl).length:=by simp[lG]);have TQ:z*(n+1)^(a++x::tl).length+rk n (a++x::tl)<y*(n+1)^e.length+rk n e:=hlt;rw[GU]at TQ;show z*(n+1)^(a++eS (x+1) (tl.length+1)).length+rk n (a++eS (x+1) (tl.length+1))<=y*(n+1)^e.length+rk n e;rw[mJ,GU];(have he:rk n e<(n+1)^(a++x::tl).length:=by rw[<-GU];exact w9 λw hw=>bV (hd.2.2.lt w hw));rcases fM z y with h|h|h;(·have h3:=bu ((n+1)^(a++x::tl).length) (show z+1<=y from h);rw[jz]at h3;(have h4:rk n (a++eS (x+1) (tl.length+1))<(n+1)^(a++x::tl).length:=by rw[<-mJ];refine w9 λw hw=>?_;rcases aO.mp hw with hw|hw;(·exact bV (hc.2.2.lt w (bq _ hw)));exact bV ((yt (n:=n) (a:=x+1) (t:=tl.length+1) ⋯ 0 (bX _)).lt w hw));lia);(·subst h;have:=ih hc.2.2 hd.2.2 GU ⋯;lia);have h3:=bu ((n+1)^(a++x::tl).length) (show y+1<=z from h);rw[jz]at h3;lia
theorem J0(hx:x+1+tl.length<n)(TD:∀y,y∈tl->y<=n):rk n (a++x::tl)<rk n (a++eS (x+1) (tl.length+1)):=by
 induction a with
  |nil=>show x*(n+1)^tl.length+rk n tl<(x+1)*(n+1)^(eS (x+1+1) tl.length).length+rk n (eS (x+1+1) tl.length);rw[lG,jz];have:=w9 TD;lia
  |cons z a ih=>(have mJ:(a++eS (x+1) (tl.length+1)).length=(a++x::tl).length:=by simp[lG]);show z*(n+1)^(a++x::tl).length+rk n (a++x::tl)<z*(n+1)^(a++eS (x+1) (tl.length+1)).length+rk n (a++eS (x+1) (tl.length+1));rw[mJ];lia
theorem Fz(hc:qh n lo (a++x::tl))(hx:x+1+tl.length<n):qh n lo (a++eS (x+1) (tl.length+1)):=by
 induction a generalizing lo with
  |nil=>exact yt ⋯ lo (by have:=hc.1;lia)
  |cons z a ih=>exact⟨hc.1,hc.2.1,ih hc.2.2⟩
end Tk
end
section
namespace Tk
open Lean.Grind
section
variable {α:Type}
noncomputable def sel(d:α)(l:List α)(cs:List Nat):List α:=cs.map λi=>l.getD i d
noncomputable def rem(d:α)(l:List α)(cs:List Nat):List α:=sel d l ((aX l.length).filter λi=>decide (i∉cs))
noncomputable def idx(P:α->Bool):Nat->List α->List Nat
 |_,[]=>[]
 |k,x::l=>if P x=true then k::idx P (k+1) l else idx P (k+1) l
theorem TC(P:α->Bool)(l:List α)(k n:Nat)(h:k+l.length<=n):qh n k (idx P k l):=by
 induction l generalizing k with
  |nil=>trivial
  |cons x l ih=>rw[a7]at h;rw[idx];split;(·exact⟨aw _,⋯,ih (k+1) ⋯⟩);exact(ih (k+1) ⋯).weak ⋯
theorem TB(P:α->Bool)(d:α)(l:List α)(k:Nat)(m:List α)(h:∀i,i<l.length->m.getD (k+i) d=l.getD i d):sel d m (idx P k l)=l.filter P:=by
 induction l generalizing k with
  |nil=>rfl
  |cons x l ih=>have h0:=h 0 (by simp);(have hr:∀i,i<l.length->m.getD (k+1+i) d=l.getD i d:=λi hi=>by have:=h (i+1) (by simpa using hi);rw[show k+(i+1)=k+1+i by lia]at this;simpa using this);rw[idx,gc];split;(·show(m.getD k d)::sel d m (idx P (k+1) l)=_;rw[ih (k+1) hr];congr 1);exact ih (k+1) hr
open Classical in
theorem Co(d:α){l s t:List α}(hn:l.Nodup)(h:(s++t).Perm l):∃cs,qh l.length 0 cs/\cs.length=s.length/\s.Perm (sel d l cs):=by
 have hnd:=h.nodup_iff.mpr hn;have ago:∀x,x∈s->x∈t->False:=λx h1 h2=>(jP.mp hnd).2.2 x h1 x h2 rfl;have hp:s.Perm (l.filter λx=>decide (x∈s)):=by have h1:=h.filter (λx=>decide (x∈s));rw[ig]at h1;(have e1:s.filter (λx=>decide (x∈s))=s:=List.filter_eq_self.mpr λx hx=>by simpa using hx);(have e2:t.filter (λx=>decide (x∈s))=[]:=List.filter_eq_nil_iff.mpr λx hx=>by simp only[decide_eq_true_eq];exact λh=>ago x h hx);rwa[e1,e2,eN]at h1
 have hs:=TB (λx=>decide (x∈s)) d l 0 l (λi hi=>by rw[fL]);refine⟨idx (λx=>decide (x∈s)) 0 l,TC _ _ _ _ ⋯,?_,by rw[hs];exact hp⟩;have:=aK fR hs;rw[sel,ab]at this;rw[this];exact hp.length_eq.symm
theorem wo(d:α)(l:List α):sel d l (aX l.length)=l:=by
 apply iT;intro i;rw[sel,aE];by_cases hi:i<l.length;.rw[t_ hi,aa hi];simp[aD,aa hi]
 rw[aG (by simp;lia),aG ⋯];rfl
theorem C5(d:α)(l:List α)(h:qh l.length 0 cs):(sel d l cs++rem d l cs).Perm l:=by
 have h1:((aX l.length).filter λi=>decide (i∈cs)).Perm cs:=by refine(oz (x_ _ kE) h.nodup).mpr λx=>?_;rw[dF,cr];constructor;(·rintro⟨_,h2⟩;simpa using h2);intro hx;exact⟨h.lt x hx,by simpa using hx⟩
 have h2:=Ea (λi=>decide (i∈cs)) (aX l.length);have h3:(cs++(aX l.length).filter λi=>decide (i∉cs)).Perm (aX l.length):=by refine kG (List.Perm.append h1.symm ?_) h2;(have:(λi=>decide (i∉cs))=λi=>!decide (i∈cs):=by funext i;by_cases hi:i∈cs<;>simp[hi]);rw[this]
 have h4:=h3.map λi=>l.getD i d;rw[aF]at h4;have e:(aX l.length).map (λi=>l.getD i d)=l:=wo d l;rwa[e]at h4
end
section
variable {p M:Nat}{iQ:p∣M}(hp:Pr p)
include hp
theorem fE.fit{l:List (Pair p M)}(h:fE p M iQ f l)(e:f=g*k){s t:List (Pair p M)}(i5:(s++t).Perm l)(hs:Gr g s t)(hz:(red M).f z=(ag.C ((red M).f f.aT)*ag.prod (s.map dt)).c 0)(hb:2*z.natAbs<=M):z=k.aT*g.c 0:=by
 have hA:(ag.C k.aT*g).map (red M)=ag.C ((red M).f f.aT)*ag.prod (s.map dt):=by rw[ag.cj,ag.np,h.key g ⟨k,e⟩ s t i5 hs,e,ag.df,gJ.mul,ag.dw];grind
 have hbd:=h.bound g k e 0;rw[<-hA]at hz;have h1:(red M).f z=(red M).f (k.aT*g.c 0):=by rw[hz];show(red M).f ((ag.C k.aT*g).c 0)=_;rw[ag.cA]
 have h2:(red M).f (z-k.aT*g.c 0)=0:=by rw[gJ.sub,h1];grind
 exact Ke (gr.mp (cp.dh.mp h2)) hb hbd
theorem Ch{f g k:ag Int}(e:f=g*k)(hk:k≠0){z:Int}(hz:z=k.aT*g.c 0):if z=0 then f.c 0=0 else z∣f.aT*f.c 0:=by
 have h0:f.c 0=g.c 0*k.c 0:=by rw[e,ag.qU,bE,dN];show 0+g.c 0*k.c (0-0)=_;rw[lY,GL]
 split;.rename_i hz0;have:=ag.fS hk;(have:g.c 0=0:=by rcases As.mp (hz.symm.trans hz0)with h|h;(·exact ap h this);exact h);rw[h0,this,Int.zero_mul]
 rw[h0,e,ag.df,hz];exact⟨g.aT*k.c 0,by grind⟩
end
end Tk
end
section
namespace L2
open PySem PySem.Spec PyProof.Rows
noncomputable abbrev Key:=Sum Int cJ
noncomputable def xh:Key->aI->Bool
 |.inl k,v=>aI.isInt k v
 |.inr x,v=>R6 x v
noncomputable def ae0(w:eU):Key->Int
 |.inl k=>hashInt k
 |.inr x=>hashStr w x
theorem gP:∀{k:Key} {v:aI},xh k v=true->(∃i t,k=gB i/\v=cH i t)\/(∃x t,k=wO x/\v=CB x t)
 |.inl i,v,h=>by obtain⟨t,e⟩:=aI.isInt_shape (k:=i) (v:=v) h;exact .inl ⟨i,t,rfl,e⟩
 |.inr x,v,h=>by obtain⟨t,e⟩:=aI.isStrOf_shape (x:=x) (v:=v) h;exact .inr ⟨x,t,rfl,e⟩
theorem Mg(i:Int)(t:Tok):xh (.inl i) (.int i t)=true:=by simp[xh,aI.isInt]
theorem Mf(x:cJ)(t:Tok):xh (.inr x) (.str x t)=true:=by simp[xh,R6]
theorem XH(a b:Int):decide ((gB a:Key)=gB b)=(a==b):=by
 by_cases e:a=b;.subst e;simp
 have h:¬(gB a:Key)=gB b:=λq=>e (vZ q);rw[decide_eq_false h];exact(beq_eq_false_iff_ne.mpr e).symm
theorem XE(a b:cJ):decide ((wO a:Key)=wO b)=decide (a=b):=by
 by_cases e:a=b;.subst e;simp
 have h:¬(wO a:Key)=wO b:=λq=>e (wO.inj q);rw[decide_eq_false h,decide_eq_false e]
theorem XG(a:Int)(b:cJ):decide ((gB a:Key)=wO b)=false:=decide_eq_false (λq=>nomatch q)
theorem XF(a:cJ)(b:Int):decide ((wO a:Key)=gB b)=false:=decide_eq_false (λq=>nomatch q)
noncomputable def iM(prog:cI)(w:eU):PySem.KeyKind prog w Key where
 is:=xh
 hash:=ae0 w
 inj:=λv a b ha hb=>by
  rcases gP ha with⟨i,t,rfl,rfl⟩|⟨x,t,rfl,rfl⟩
  .rcases gP hb with⟨j,u,rfl,e⟩|⟨y,u,rfl,e⟩
   .injection e with e1 _;rw[e1]
   .exact nomatch e
  .rcases gP hb with⟨j,u,rfl,e⟩|⟨y,u,rfl,e⟩
   .exact nomatch e
   .injection e with e1 _;rw[e1]
 byValue:=λk v h=>by
  rcases gP h with⟨i,t,rfl,rfl⟩|⟨x,t,rfl,rfl⟩<;>rfl
 pyHash:=λhv h=>by
  rcases gP hv with⟨i,t,rfl,rfl⟩|⟨x,t,rfl,rfl⟩
  .exact wpAny_pyHash_int h
  .exact wpAny_pyHash_str h
 eqBool:=λhu hv h=>by
  rcases gP hu with⟨i,t,rfl,rfl⟩|⟨x,t,rfl,rfl⟩
  .rcases gP hv with⟨j,u,rfl,rfl⟩|⟨y,u,rfl,rfl⟩
   .rw[XH]at h;exact wpAny_eqBool_int h
   .rw[XG]at h;exact CD i t y u _ _ _ _ h
  .rcases gP hv with⟨j,u,rfl,rfl⟩|⟨y,u,rfl,rfl⟩
   .rw[XF]at h;exact CC x t j u _ _ _ _ h
   .rw[XE]at h;exact wpAny_eqBool_str h
 «strs»:=λk x t v h=>by
  rcases gP h with⟨i,u,rfl,e⟩|⟨y,u,rfl,e⟩
  .exact nomatch e
  .injection e with e1 _
   subst e1
   cases v<;>rfl
theorem Fm(prog:cI)(w:eU)(i:Int)(t:Tok):(iM prog w).is (.inl i) (.int i t)=true:=Mg i t
theorem Fl(prog:cI)(w:eU)(x:cJ)(t:Tok):(iM prog w).is (.inr x) (.str x t)=true:=Mf x t
inductive V where
 |jk|bl (b:Bool)|int (i:Int)|str (x:cJ)|Gg (b:Array UInt8)|flt (b:UInt64)|ref (a:aH)|ty (n:String)
 deriving DecidableEq
noncomputable def eM:V->aI->Prop
 |.jk,u=>u=uu
 |.bl b,u=>u=Ao b
 |.int i,u=>∃t,u=cH i t
 |.str x,u=>∃t,u=CB x t
 |.Gg b,u=>∃t,u=aI.bytes b t
 |.flt b,u=>∃t,u=aI.float b t
 |.ref a,u=>u=ci a
 |.ty n,u=>u=oo n
noncomputable abbrev dk:List V->List aI->Prop:=Paired eM
theorem dk.length{xs:List V}(r:dk xs us):xs.length=us.length:=jy r
theorem dk.get:∀{xs:List V} {us:List aI} {i:Nat} {x:V},dk xs us->xs[i]?=some x->∃u,us[i]?=some u/\eM x u
 |_,_,_,_,.nil,e=>by simp at e
 |_,_,0,_,.cons r _,e=>by simp at e;subst e;exact⟨_,rfl,r⟩
 |_,_,i+1,x,.cons _ t,e=>by obtain⟨u,h1,h2⟩:=dk.get (i:=i) (x:=x) t (by simpa using e);exact⟨u,by simpa using h1,h2⟩
theorem dk.set{x:V}(r:eM x u):∀{xs:List V} {us:List aI} (i:Nat),dk xs us->dk (xs.set i x) (us.set i u)
 |_,_,_,.nil=>.nil
 |_,_,0,.cons _ t=>.cons r t
 |_,_,i+1,.cons q t=>.cons q (dk.set r i t)
theorem dk.append:∀{xs ys:List V} {us ws:List aI},dk xs us->dk ys ws->dk (xs++ys) (us++ws):=by
 intro xs ys us ws h s;induction h with
  |nil=>exact s
  |cons r t ih=>exact .cons r ih
theorem dk.take:∀{xs:List V} {us:List aI} (n:Nat),dk xs us->dk (xs.take n) (us.take n)
 |_,_,0,_=>.nil
 |_,_,_+1,.nil=>.nil
 |_,_,n+1,.cons r t=>.cons r (dk.take n t)
theorem dk.drop:∀{xs:List V} {us:List aI} (n:Nat),dk xs us->dk (xs.drop n) (us.drop n)
 |_,_,0,r=>r
 |_,_,_+1,.nil=>.nil
 |_,_,n+1,.cons _ t=>dk.drop n t
noncomputable def tF:Option V->Option aI->Prop
 |some v,some u=>eM v u
 |none,none=>True
 |_,_=>False
noncomputable def KV{κ:Type}:List (κ×V)->List (κ×aI)->Prop:=Paired λ(p:κ×V) (q:κ×aI)=>p.1=q.1/\eM p.2 q.2
noncomputable def kV:Key->V
 |.inl i=>.int i
 |.inr x=>.str x
inductive HO where|lst (xs:List V)|tup (xs:List V)|dK (kvs:List (Key×V))|dT (kvs:List (List Key×V))|set (S:Int->Bool) (n:Nat)|ins (C dx:aH) (fs:List (cJ×V))|own (x:aH)|xd (fs:List (cJ×V))|met (f x:aH)|zc (lo hi:Int)|lQ (o:kY) (u:HO)|V5 (ps:Array aI)|ext (φ:f9->Prop)
noncomputable abbrev Hp:=aH->Option HO
noncomputable def cE(H:Hp)(a:aH)(o:HO):Hp:=λb=>if b=a then some o else H b
theorem am{H:Hp}{a:aH}{o:HO}:cE H a o a=some o:=by unfold cE;rw[aj rfl]
theorem aM{H:Hp}{a b:aH}{o:HO}(h:b≠a):cE H a o b=H b:=by unfold cE;rw[ah h]
theorem ya:cE (cE H a o) a u=cE H a u:=by funext b;unfold cE;split<;>rfl
theorem zr{H:Hp}{a b:aH}{o u:HO}(h:H a=some o)(h':H b=some u)(d:o≠u):a≠b:=by intro e;subst e;rw[h]at h';exact d (aZ h')
theorem bB{H:Hp}{a b:aH}{o:HO}(h:H a=some o)(h':H b=none):a≠b:=by intro e;subst e;rw[h]at h';cases h'
section
variable (P:cI)(w:eU)
noncomputable def iq(H:Hp)(h:f9)(a:aH):HO->Prop
 |.lst xs=>xs.length<=bn/\∃(its:List aI) (n:Nat),dk xs its/\h.get? a=some {cls:=.type "list",data:=.seq its.toArray n}
 |.tup xs=>xs.length<=bn/\∃its:List aI,dk xs its/\IsTup h a its.toArray
 |.dK kvs=>kvs.length<=bn/\(a==kR)=false/\∃vs,KV kvs vs/\h.DictOf (iM P w) a vs
 |.dT kvs=>kvs.length<=bn/\(a==kR)=false/\∃xs:List (List Key×aH×aI),Paired (λ(p:List Key×V) (q:List Key×aH×aI)=>p.1=q.1/\H q.2.1=some (.tup (p.1.map kV))/\eM p.2 q.2.2) kvs xs/\∃o es ep,h.get? a=some o/\o.ExactDict/\o.data=.dict es ep/\es.toList=xs.map (entryOfKey (Bf (iM P w)))/\(xs.map (·.1)).Nodup
 |.set S n=>h.SetOf (intKind P w) a S n
 |.ins C dx fs=>H dx=some (.own a)/\fs.length<=1000/\dx≠a/\h.get? a=some (iw C dx)/\∃mA,h.Ns1 dx mA/\(∀f,tF (fs.lookup f) (mA f))/\D8 mA (fs.map (·.1))
 |.own _=>∃o,h.get? a=some o
 |.xd fs=>∃mA,h.Ns1 a mA/\∀f,tF (fs.lookup f) (mA f)
 |.zc lo hi=>∃t u v,h.get? a=some {cls:=.type "range",data:=.fields #[.int lo t,.int hi u,.int 1 v]}
 |.lQ o u=>h.get? a=some o/\iq H h a u
 |.V5 ps=>h.get? a=some {cls:=.none,data:=.fields ps}
 |.met f x=>h.get? a=some (G9 (.ref f) (.ref x))
 |.ext φ=>φ h/\(∃o,h.get? a=some o)/\∀h1 h2:f9,φ h1->(∀o,h1.get? a=some o->h2.get? a=some o)->φ h2
def sx(H:Hp)(h:f9):Prop:=∀a o,H a=some o->iq P w H h a o
end
section
variable {P:cI}{w:eU}{H H':Hp}{h h':f9}{a:aH}{o:HO}
theorem iq.lt(x:iq P w H h a o):a<h.objs.size:=by
 cases o with
  |lst xs=>obtain⟨_,_,_,_,e⟩:=x;exact bG e
  |tup xs=>obtain⟨_,_,_,p⟩:=x;exact p.lt
  |dK kvs=>obtain⟨_,_,_,_,o,_,_,e,_⟩:=x;exact bG e
  |dT kvs=>obtain⟨_,_,_,_,o,_,_,e,_⟩:=x;exact bG e
  |set S n=>obtain⟨o,_,_,_,e,_⟩:=x;exact bG e
  |ins C dx fs=>obtain⟨_,_,_,e,_⟩:=x;exact bG e
  |own y=>obtain⟨_,e⟩:=x;exact bG e
  |xd fs=>obtain⟨_,⟨_,_,_,e,_⟩,_⟩:=x;exact bG e
  |zc lo hi=>obtain⟨_,_,_,e⟩:=x;exact bG e
  |lQ ob u=>obtain⟨e,_⟩:=x;exact bG e
  |V5 ps=>exact bG (show h.get? a=some _ from x)
  |met f y=>exact bG (show h.get? a=some _ from x)
  |ext φ=>obtain⟨_,⟨_,e⟩,_⟩:=x;exact bG e
theorem Paired.abx{α β:Type}{F G:α->β->Prop}:∀{l₁:List α} {l₂:List β},Paired F l₁ l₂->(∀a b,F a b->G a b)->Paired G l₁ l₂:=by
 intro a b h f;induction h with
  |nil=>exact .nil
  |cons r t ih=>exact .cons (f _ _ r) ih
theorem iq.stay(x:iq P w H h a o)(k:∀b u,(b=a\/H b=some (.own a))->h.get? b=some u->h'.get? b=some u)(ho:∀b,H b=some (.own a)->H' b=some (.own a))(ht:∀b xs,H b=some (.tup xs)->H' b=some (.tup xs)):iq P w H' h' a o:=by
 induction o with
  |lst xs=>obtain⟨z,its,n,r,e⟩:=x;exact⟨z,its,n,r,k _ _ (.inl rfl) e⟩
  |tup xs=>obtain⟨z,its,r,ob,e,c⟩:=x;exact⟨z,its,r,ob,k _ _ (.inl rfl) e,c⟩
  |dK kvs=>obtain⟨z,y,vs,r,ob,es,ep,e,c⟩:=x;exact⟨z,y,vs,r,ob,es,ep,k _ _ (.inl rfl) e,c⟩
  |dT kvs=>obtain⟨z,y,xs,r,ob,es,ep,e,c⟩:=x;exact⟨z,y,xs,Paired.abx r λp q z=>⟨z.1,ht _ _ z.2.1,z.2.2⟩,ob,es,ep,k _ _ (.inl rfl) e,c⟩
  |set S n=>obtain⟨ob,es,ep,t,e,c⟩:=x;exact⟨ob,es,ep,t,k _ _ (.inl rfl) e,c⟩
  |ins C dx fs=>obtain⟨d,z,ne,e,mA,⟨od,es,ep,e2,c⟩,r⟩:=x;exact⟨ho _ d,z,ne,k _ _ (.inl rfl) e,mA,⟨od,es,ep,k _ _ (.inr d) e2,c⟩,r⟩
  |own y=>obtain⟨ob,e⟩:=x;exact⟨ob,k _ _ (.inl rfl) e⟩
  |xd fs=>obtain⟨mA,⟨od,es,ep,e,c⟩,r⟩:=x;exact⟨mA,⟨od,es,ep,k _ _ (.inl rfl) e,c⟩,r⟩
  |zc lo hi=>obtain⟨t,u,v,e⟩:=x;exact⟨t,u,v,k _ _ (.inl rfl) e⟩
  |lQ ob u ih=>obtain⟨e,q⟩:=x;exact⟨k _ _ (.inl rfl) e,ih q⟩
  |V5 ps=>have e:=x;show h'.get? a=some {cls:=.none,data:=.fields ps};exact k a _ (.inl rfl) e
  |met f y=>have e:=x;show h'.get? a=some (G9 (.ref f) (.ref y));exact k a _ (.inl rfl) e
  |ext φ=>obtain⟨p,⟨o,e⟩,st⟩:=x;exact⟨st _ _ p λo q=>k _ _ (.inl rfl) q,⟨o,k _ _ (.inl rfl) e⟩,st⟩
theorem sx.lt(x:sx P w H h)(e:H a=some o):a<h.objs.size:=(x a o e).lt
theorem sx.fresh(x:sx P w H h)(e:h.objs.size<=a):H a=none:=by
 cases q:H a with
  |none=>rfl
  |some u=>exact ap (bh (x.lt q) e) (fH _)
theorem sx.kept(x:sx P w H h)(k:∀b u,h.get? b=some u->h'.get? b=some u):sx P w H h':=λa o e=>(x a o e).stay (λb u _ q=>k b u q) (λ_ q=>q) λ_ _ q=>q
theorem sx.laid(x:sx P w H h)(k:∀b u,h.get? b=some u->h'.get? b=some u)(hp:h.objs.size<=a)(new:iq P w (cE H a o) h' a o):sx P w (cE H a o) h':=λb u e=>by
 have hn:=x.fresh hp;by_cases hb:b=a;.subst hb;rw[am]at e;cases e;exact new
 rw[aM hb]at e;exact(x b u e).stay (λc v _ q=>k c v q) (λc q=>by rw[aM (bB q hn)];exact q) λc xs q=>by rw[aM (bB q hn)];exact q
end
def Rd(H:Hp)(a:aH)(u:HO):Prop:=H a=some u\/∃o,H a=some (.lQ o u)
theorem Rd.ok(r:Rd H a u)(x:sx P w H h):iq P w H h a u:=by
 rcases r with r|⟨o,r⟩;.exact x a u r
 obtain⟨_,q⟩:=x a _ r;exact q
noncomputable def VV:Option HO->Prop
 |some (.lst _)=>True
 |some (.dK _)=>True
 |some (.dT _)=>True
 |some (.set _ _)=>True
 |some (.ins _ _ _)=>True
 |some (.ext _)=>True
 |_=>False
section
variable {P:cI}{w:eU}{H:Hp}{h h':f9}{x e:aH}{o':HO}
theorem sx.write(ok:sx P w H h)(mu:VV (H x))(he:e=x\/H e=some (.own x))(k:∀b u,b≠e->h.get? b=some u->h'.get? b=some u)(ZH:∃u,h'.get? e=some u)(new:iq P w (cE H x o') h' x o'):sx P w (cE H x o') h':=λb u q=>by
 have abu:∀c y,H c=some (.own y)->c≠x:=λc y r z=>by subst z;rwa[r]at mu
 have aeR:∀c xs,H c=some (.tup xs)->c≠x:=λc xs r z=>by subst z;rwa[r]at mu
 by_cases hb:b=x;.subst hb;rw[am]at q;cases q;exact new
 rw[aM hb]at q;by_cases Ix:b=e;·(have q':H b=some (.own x):=by rcases he with z|z;(·exact ap (Ix.trans z) hb);rw[Ix];exact z);rw[q]at q';cases q';obtain⟨v,hv⟩:=ZH;exact⟨v,by rw[Ix];exact hv⟩
 refine(ok b u q).stay (λc v hc r=>k c v ?_ r) (λc r=>by rw[aM (abu c b r)];exact r) λc xs r=>by rw[aM (aeR c xs r)];exact r
 rcases hc with rfl|hc;.exact Ix
 rintro rfl;rcases he with z|z;.exact abu c b hc z
 rw[hc]at z;cases z;exact hb rfl
end
structure Un(fs ex:List aH)(H H':Hp)(h h':f9):Prop where
 keep:∀b o,h.get? b=some o->H b=none->b∉fs->b∉ex->h'.get? b=some o
 slot:∀b o,h.get? b=some o->H b=none->b∈fs->b∉ex->∃sl,h'.get? b=some {o with slots:=sl}
 free:∀b o,h.get? b=some o->H b=none->b∉ex->H' b=none
 there:∀b o,h.get? b=some o->b∉ex->∃o',h'.get? b=some o'
 tups:∀b xs,H b=some (.tup xs)->H' b=some (.tup xs)
 zN:∀b o u,H b=some (.lQ o u)->H' b=some (.lQ o u)
 CU:∀b ps,H b=some (.V5 ps)->∃more,H' b=some (.V5 (ps++more))
section
variable {fs fs' ex ex':List aH}{H H1 H2:Hp}{h h1 h2 h':f9}{a x e:aH}{o:HO}
theorem Un.any(u:Un fs ex H H1 h h1)(q:h.get? b=some ob)(n:H b=none)(hx:b∉ex):∃sl,h1.get? b=some {ob with slots:=sl}:=by
 by_cases hb:b∈fs;.exact u.slot b ob q n hb hx
 exact⟨ob.slots,u.keep b ob q n hb hx⟩
theorem Un.kept(k:∀b u,h.get? b=some u->h'.get? b=some u):Un fs ex H H h h':=⟨λb ob q _ _ _=>k b ob q,λb ob q _ _ _=>⟨ob.slots,k b ob q⟩,λ_ _ _ n _=>n,λb ob q _=>⟨ob,k b ob q⟩,λ_ _ q=>q,λ_ _ _ q=>q,λ_ ps q=>⟨#[],by rw[q];simp⟩⟩
theorem Un.refl:Un fs ex H H h h:=Un.kept λ_ _ q=>q
theorem Un.laid(k:∀b u,h.get? b=some u->h'.get? b=some u)(hp:h.objs.size<=a)(hn:H a=none):Un fs ex H (cE H a o) h h' where
 keep:=λb u q _ _ _=>k b u q
 slot:=λb u q _ _ _=>⟨u.slots,k b u q⟩
 free:=λb u q n _=>by rw[aM (cN (bh (bG q) hp))];exact n
 there:=λb u q _=>⟨u,k b u q⟩
 tups:=λb xs q=>by rw[aM (bB q hn)];exact q
 zN:=λb u xs q=>by rw[aM (bB q hn)];exact q
 CU:=λb ps q=>⟨#[],by rw[aM (bB q hn),q];simp⟩
theorem Un.write(mu:VV (H x))(he:e=x\/H e=some (.own x))(k:∀b u,b≠e->h.get? b=some u->h'.get? b=some u)(ZH:∃u,h'.get? e=some u):Un fs ex H (cE H x o) h h':=by
 have hx:∀b,H b=none->b≠x:=λb n z=>by subst z;rwa[n]at mu
 have hb:∀b,H b=none->b≠e:=λb n z=>by subst z;rcases he with r|r;(·exact hx b n r);rw[n]at r;cases r
 have hm:∀b u,H b=some u->¬VV (some u)->b≠x:=λb u q nm z=>by subst z;rw[q]at mu;exact nm mu
 refine⟨λb u q n _ _=>k b u (hb b n) q,λb u q n _ _=>⟨u.slots,k b u (hb b n) q⟩,λb u q n _=>by rw[aM (hx b n)];exact n,λb u q _=>?_,λb xs q=>by rw[aM (hm b _ q λz=>z)];exact q,λb u xs q=>by rw[aM (hm b _ q λz=>z)];exact q,λb ps q=>⟨#[],by rw[aM (hm b _ q λz=>z),q];simp⟩⟩;by_cases Ix:b=e;.subst Ix;exact ZH
 exact⟨u,k b u Ix q⟩
end
noncomputable def trk(h:f9)(H:Hp):List aH:=(aX h.objs.size).filter λa=>(H a).isSome
noncomputable def Du(h:f9)(H:Hp):f9:=PySem.W.hideAll h (trk h H)
theorem Mt(h:f9)(H:Hp):(Du h H).objs.size=h.objs.size:=PySem.W.hideAll_size _ _
theorem P_(e:h.get? b=some o)(n:H b=none):(Du h H).get? b=some o:=PySem.W.hideAll_get _ e λhm=>by have q:=(dF.mp hm).2;rw[n]at q;simp at q
theorem Te(e:(Du h H).get? b=some o):h.get? b=some o/\H b=none:=by
 have e':=PySem.W.of_hideAll (trk h H) e;refine⟨e',?_⟩;cases q:H b with
  |none=>rfl
  |some x=>have hm:b∈trk h H:=dF.mpr ⟨cr.mpr (bG e'),by simp[q]⟩;have z:(Du h H).get? b=none:=PySem.W.hideAll_none (trk h H) hm;rw[z]at e;cases e
structure Mod(K:ai)(mg:cJ->Option aI)(base:f9):Prop where
 kin:K.In base
 glob:base.Ns fF mg
 blt:∃mb,base.Ns Gv mb/\∀x:cJ,x≠"__name__"->mb x=pk x
 nolimit:base.NoLimit
structure Cx where
 prog:cI
 w:eU
 K:ai
 mg:cJ->Option aI
 base:f9
 A:jQ
 N:List cJ
 BE:aU
 RZ:Hp
 env:Nr
 outer:List Nr
 stack:List Nr
 ex:List aH
 fn:cJ->Bool
 calm:Bool
 pn:List (aH×kY)
 xe:aI->aU->Prop
noncomputable def frs(l:List Nr):List aH:=l.filterMap (·.frame)
noncomputable abbrev Cx.fs(X:Cx):List aH:=frs X.outer
def ZU(sc:oU)(x:cJ):Prop:=sc.names.lookup x=some .local\/sc.names.lookup x=some .cell\/sc.names.lookup x=some .free
def Loc(sc:oU)(x:cJ):Prop:=sc.names.lookup x=some .local\/sc.names.lookup x=some .cell
def Look(env:Nr)(h:f9)(m:cJ->Option aI)(x:cJ)(u:aI):Prop:=(env.kindOf x=some .local/\m x=some u)\/((env.kindOf x=some .cell\/env.kindOf x=some .free)/\∃c,env.cells.lookup x=some c/\h.IsCell c (some u))
structure Cx.Ok(X:Cx):Prop where
 mod:Mod X.K X.mg X.base
 kind:X.env.scope.kind=.function
 glob:X.env.globals=fF
 blt:X.env.builtins=Gv
 above:X.BE.heap.objs.size<=X.env.locals
 inj:∀x y c,X.env.cells.lookup x=some c->X.env.cells.lookup y=some c->x=y
 has:∀x,(X.env.kindOf x=some .cell\/X.env.kindOf x=some .free)->∃c,X.env.cells.lookup x=some c
 cab:∀x c,X.fn x=true->X.env.cells.lookup x=some c->X.BE.heap.objs.size<=c
 hd:X.calm=true->X.A.handled=none
 frames:X.A.frames=some X.stack
 stk:X.stack=X.outer\/(X.stack=X.env::X.outer/\X.env.frame=some X.env.locals)
 exf:∀b∈X.ex,b≠X.env.locals/\∀x c,X.env.cells.lookup x=some c->c≠b
 bs:∀b o,X.base.get? b=some o->X.BE.heap.get? b=some o/\X.RZ b=none
 RX:X.base.objs.size<=X.BE.heap.objs.size
 Pj:∀b o,X.base.get? b=some o->b∉X.ex
 QD:∀b∈X.ex,b∉X.fs
 wC:X.BE.heap.FunFrames X.base X.outer
 VI:∀b∈X.fs,X.RZ b=none
structure cG(X:Cx)(au:List (aH×kY))(Z:List (Option V))(H:Hp)(s:aU):Prop where
 ok:X.Ok
 os:s.os=X.BE.os
 bare:Aw s.gens
 base:Un X.fs X.ex X.RZ H X.BE.heap s.heap
 loc:∃m,s.heap.Ns X.env.locals m/\∀(i:Nat) (x:cJ) (v:V),X.N[i]?=some x->Z[i]?=some (some v)->ZU X.env.scope x->∃u,eM v u/\Look X.env s.heap m x u
 cell:∀x c,X.env.cells.lookup x=some c->∃v,s.heap.IsCell c v
 free:H X.env.locals=none
 pX:∀x c,X.env.cells.lookup x=some c->H c=none
 pin:∀p∈X.pn++au,s.heap.get? p.1=some p.2/\H p.1=none/\p.1≠X.env.locals/\p.1∉X.fs/\∀v,p.2.data≠.cell v
 fQ:sx X.prog X.w H s.heap
 len:Z.length=X.N.length
section
variable {X:Cx}{au:List (aH×kY)}{Z:List (Option V)}{H H':Hp}{s:aU}{h':f9}
theorem Cx.Ok.aeT(ok:X.Ok)(e:X.base.get? b=some o):b∉X.fs:=λhb=>by have:=(ok.wC.mem hb).1;rw[e]at this;cases this
theorem cG.bs(I:cG X au Z H s):∀b o,X.base.get? b=some o->s.heap.get? b=some o/\H b=none:=λb o e=>⟨I.base.keep b o (I.ok.bs b o e).1 (I.ok.bs b o e).2 (I.ok.aeT e) (I.ok.Pj b o e),I.base.free b o (I.ok.bs b o e).1 (I.ok.bs b o e).2 (I.ok.Pj b o e)⟩
theorem cG.bk(I:cG X au Z H s):∀b o,X.base.get? b=some o->s.heap.get? b=some o:=λb o e=>(I.bs b o e).1
theorem cG.mod(I:cG X au Z H s):Mod X.K X.mg X.base:=I.ok.mod
theorem cG.Ij(I:cG X au Z H s):X.K.In s.heap:=I.ok.mod.kin.keeps I.bk
theorem cG.lt(I:cG X au Z H s):X.env.locals<s.heap.objs.size:=let ⟨_,hn,_⟩:=I.loc;hn.lt
theorem cG.sz(I:cG X au Z H s):X.BE.heap.objs.size<=s.heap.objs.size:=br I.ok.above (bV I.lt)
theorem cG.aeS(I:cG X au Z H s)(h:s.heap.objs.size<=a):a∉X.fs:=λhb=>by obtain⟨_,o,ho,_⟩:=I.ok.wC.mem hb;exact ap (bh (bG ho) (br I.sz h)) (fH _)
theorem cG.MJ(I:cG X au Z H s):∀x c,X.env.cells.lookup x=some c->c≠X.env.locals:=λx c e z=>by obtain⟨v,o,ho,hd⟩:=I.cell x c e;obtain⟨m,⟨o',es,ep,RP,hd',_⟩,_⟩:=I.loc;rw[z,RP]at ho;cases ho;rw[hd']at hd;cases hd
theorem cG.wC(I:cG X au Z H s):s.heap.FunFrames X.base X.outer:=by
 have all:∀l,(∀b∈frs l,b∈X.fs)->X.BE.heap.FunFrames X.base l->s.heap.FunFrames X.base l:=by
  intro l;induction l with
   |nil=>intro _ _;trivial
   |cons env r ih=>intro hs hl;obtain⟨hk,⟨L,o,hf,hn,ho,hd⟩,hr⟩:=hl;have hL:=hs L (by unfold frs;rw[nE,hf];exact aq);obtain⟨sl,e⟩:=I.base.slot L o ho (I.ok.VI L hL) hL λz=>I.ok.QD L z hL;exact⟨hk,⟨L,_,hf,hn,e,hd⟩,ih (λb hb=>hs b (by unfold frs;rw[nE,hf];exact al _ hb)) hr⟩
 exact all X.outer (λ_ hb=>hb) I.ok.wC
theorem cG.stack(I:cG X au Z H s):s.heap.FunFrames X.base X.stack:=by
 rcases I.ok.stk with e|⟨e,hf⟩;.rw[e];exact I.wC
 rw[e];obtain⟨m,hn,_⟩:=I.loc;refine .cons (by rw[I.ok.kind];decide) hf hn ?_ I.wC;exact f9.get?_none_of_le (br I.ok.RX I.ok.above)
theorem cG.HA(I:cG X au Z H s):∀b∈frs X.stack,b∈X.env.locals::X.fs:=λb hb=>by
 rcases I.ok.stk with e|⟨e,hf⟩;.rw[e]at hb;exact al _ hb
 rw[e]at hb;unfold frs at hb;rwa[nE,hf]at hb
theorem cG.JR(I:cG X au Z H s):∀b∈frs X.stack,H b=none:=λb hb=>by
 rcases bi.mp (I.HA b hb)with e|hb;.rw[e];exact I.free
 obtain⟨_,o,ho,_⟩:=I.ok.wC.mem hb;exact I.base.free b o ho (I.ok.VI b hb) λz=>I.ok.QD b z hb
theorem cG.step{t':Nat}{ch:List aH}(I:cG X au Z H s)(Cd:∀b∈ch,(b∈X.ex\/X.BE.heap.objs.size<=b)/\b≠X.env.locals/\(∀x c,X.env.cells.lookup x=some c->c≠b)/\∀p∈X.pn++au,p.1≠b)(keep:∀b o,b≠X.env.locals->b∉X.fs->b∉ch->s.heap.get? b=some o->H b=none->h'.get? b=some o)(slot:∀b o,b≠X.env.locals->b∈X.fs->b∉ch->s.heap.get? b=some o->H b=none->∃sl,h'.get? b=some {o with slots:=sl})(free:∀b o,b∉ch->s.heap.get? b=some o->H b=none->H' b=none)(there:∀b o,b∉ch->s.heap.get? b=some o->∃o',h'.get? b=some o')(tups:∀b xs,H b=some (.tup xs)->H' b=some (.tup xs))(zN:∀b o u,H b=some (.lQ o u)->H' b=some (.lQ o u))(CU:∀b ps,H b=some (.V5 ps)->∃more,H' b=some (.V5 (ps++more)))(ns:∀m,s.heap.Ns X.env.locals m->h'.Ns X.env.locals m)(fQ:sx X.prog X.w H' h')(hg:Aw g'):cG X au Z H' {s with heap:=h',gens:=g',drawn:=d',toks:=t'}:=by
 have neL:∀b o,X.BE.heap.get? b=some o->b≠X.env.locals:=λb o e=>cN (bh (bG e) I.ok.above);have neC:∀b o,X.BE.heap.get? b=some o->b∉X.ex->b∉ch:=λb o e hx hb=>by rcases(Cd b hb).1 with z|z;(·exact hx z);exact ap (bh (bG e) z) (fH _)
 have VS:∀x c,X.env.cells.lookup x=some c->∀v,s.heap.IsCell c v->h'.IsCell c v:=λx c e v ⟨o,ho,hd⟩=>by have nch:c∉ch:=λz=>(Cd c z).2.2.1 x c e rfl;by_cases hc:c∈X.fs;(·obtain⟨sl,q⟩:=slot c o (I.MJ x c e) hc nch ho (I.pX x c e);exact⟨_,q,hd⟩);exact⟨o,keep c o (I.MJ x c e) hc nch ho (I.pX x c e),hd⟩
 refine⟨I.ok,I.os,hg,⟨λb o e n hb hx=>?_,λb o e n hb hx=>?_,λb o e n hx=>?_,λb o e hx=>?_,λb xs e=>tups b xs (I.base.tups b xs e),λb o xs e=>zN b o xs (I.base.zN b o xs e),λb ps e=>?_⟩,?_,λx c e=>?_,?_,λx c e=>?_,λp hp=>?_,fQ,I.len⟩;.exact keep b o (neL b o e) hb (neC b o e hx) (I.base.keep b o e n hb hx) (I.base.free b o e n hx)
 .obtain⟨sl,e1⟩:=I.base.slot b o e n hb hx;obtain⟨sl',e2⟩:=slot b _ (neL b o e) hb (neC b o e hx) e1 (I.base.free b o e n hx);exact⟨sl',e2⟩
 .obtain⟨o',e1⟩:=I.base.there b o e hx;exact free b o' (neC b o e hx) e1 (I.base.free b o e n hx)
 .obtain⟨o',e1⟩:=I.base.there b o e hx;exact there b o' (neC b o e hx) e1
 .obtain⟨m1,e1⟩:=I.base.CU b ps e;obtain⟨m2,e2⟩:=CU b _ e1;exact⟨m1++m2,by rw[e2,Array.append_assoc]⟩
 .obtain⟨m,hn,hl⟩:=I.loc;refine⟨m,ns m hn,λi x v e1 e2 e3=>?_⟩;obtain⟨u,r,l⟩:=hl i x v e1 e2 e3;refine⟨u,r,?_⟩;rcases l with l|⟨k,c,e,z⟩;(·exact .inl l);exact .inr ⟨k,c,e,VS x c e _ z⟩
 .obtain⟨v,z⟩:=I.cell x c e;exact⟨v,VS x c e v z⟩
 .obtain⟨m,⟨o,_,_,ho,_⟩,_⟩:=I.loc;exact free _ o (λz=>(Cd _ z).2.1 rfl) ho I.free
 .obtain⟨v,o,ho,hd⟩:=I.cell x c e;exact free c o (λz=>(Cd c z).2.2.1 x c e rfl) ho (I.pX x c e)
 obtain⟨e,n,ne,nf,d⟩:=I.pin p hp;have nch:p.1∉ch:=λz=>(Cd p.1 z).2.2.2 p hp rfl;exact⟨keep p.1 p.2 ne nf nch e n,free p.1 p.2 nch e n,ne,nf,d⟩
theorem cG.un{t':Nat}(I:cG X au Z H s)(u:Un X.fs [] H H' s.heap h')(fQ:sx X.prog X.w H' h'):cG X au Z H' {s with heap:=h',toks:=t'}:=by obtain⟨m,⟨o,es,ep,ho,r⟩,_⟩:=id I.loc;obtain⟨sl,hL⟩:=u.any ho I.free (by simp);exact I.step (g':=s.gens) (d':=s.drawn) (ch:=[]) (λ_ z=>nomatch z) (λb o _ hb _ e n=>u.keep b o e n hb (by simp)) (λb o _ hb _ e n=>u.slot b o e n hb (by simp)) (λb o _ e n=>u.free b o e n (by simp)) (λb o _ e=>u.there b o e (by simp)) u.tups u.zN u.CU (λm' hm=>by obtain⟨o',VN,VP,RP,r'⟩:=hm;rw[ho]at RP;cases RP;exact⟨_,VN,VP,hL,r'⟩) fQ I.bare
theorem cG.call{t':Nat}{ch:List aH}(I:cG X au Z H s)(u:Un (frs X.stack) ch H H' s.heap h')(fQ:sx X.prog X.w H' h')(hg:Aw g')(Cd:∀b∈ch,(b∈X.ex\/X.BE.heap.objs.size<=b)/\b≠X.env.locals/\(∀x c,X.env.cells.lookup x=some c->c≠b)/\∀p∈X.pn++au,p.1≠b):cG X au Z H' {s with heap:=h',gens:=g',drawn:=d',toks:=t'}:=by obtain⟨m,⟨o,es,ep,ho,r⟩,_⟩:=id I.loc;obtain⟨sl,hL⟩:=u.any ho I.free λz=>(Cd _ z).2.1 rfl;exact I.step (ch:=ch) Cd (λb o hL hb hc e n=>u.keep b o e n (λz=>(bi.mp (I.HA b z)).elim hL hb) hc) (λb o _ _ hc e n=>u.any e n hc) (λb o hc e n=>u.free b o e n hc) (λb o hc e=>u.there b o e hc) u.tups u.zN u.CU (λm' hm=>by obtain⟨o',VN,VP,RP,r'⟩:=hm;rw[ho]at RP;cases RP;exact⟨_,VN,VP,hL,r'⟩) fQ hg
theorem cG.oY{t':Nat}(I:cG X au Z H s)(k:∀b o,b≠it->s.heap.get? b=some o->h'.get? b=some o)(hn:H it=none)(hL:it≠X.env.locals)(h1:it∈X.ex\/X.BE.heap.objs.size<=it)(h2:∀x c,X.env.cells.lookup x=some c->c≠it)(h3:∀p∈X.pn++au,p.1≠it):cG X au Z H {s with heap:=h',toks:=t'}:=by
 have Vl:∀b u,H b=some u->b≠it:=λb u e z=>by rw[z,hn]at e;cases e
 refine I.step (g':=s.gens) (d':=s.drawn) (ch:=[it]) (λb hb=>?_) (λb o _ _ hc e _=>k b o (λz=>hc (by simp[z])) e) (λb o _ _ hc e _=>⟨o.slots,k b o (λz=>hc (by simp[z])) e⟩) (λ_ _ _ _ n=>n) (λb o hc e=>⟨o,k b o (λz=>hc (by simp[z])) e⟩) (λ_ _ e=>e) (λ_ _ _ e=>e) (λb ps e=>⟨#[],by rw[e];simp⟩) (λm hm=>?_) (λb u e=>?_) I.bare;·(have e:b=it:=by simpa using hb);subst e;exact⟨h1,hL,h2,h3⟩
 .obtain⟨o,es,ep,ho,r⟩:=hm;exact⟨o,es,ep,k _ o (lC hL) ho,r⟩
 refine(I.fQ b u e).stay (λc v hc q=>k c v ?_ q) (λ_ q=>q) λ_ _ q=>q;rcases hc with z|z;.rw[z];exact Vl b u e
 exact Vl c _ z
theorem cG.tok(I:cG X au Z H s)(t:Nat):cG X au Z H {s with toks:=t}:=I.un (h':=s.heap) (t':=t) Un.refl I.fQ
theorem cG.kept(I:cG X au Z H s)(k:∀b u,s.heap.get? b=some u->h'.get? b=some u):cG X au Z H {s with heap:=h',toks:=t'}:=I.un (Un.kept k) (I.fQ.kept k)
theorem cG.laid(I:cG X au Z H s)(k:∀b u,s.heap.get? b=some u->h'.get? b=some u)(hp:s.heap.objs.size<=a)(new:iq X.prog X.w (cE H a o) h' a o):cG X au Z (cE H a o) {s with heap:=h',toks:=t'}:=I.un (Un.laid k hp (I.fQ.fresh hp)) (I.fQ.laid k hp new)
theorem cG.write(I:cG X au Z H s)(mu:VV (H x))(he:e=x\/H e=some (.own x))(k:∀b u,b≠e->s.heap.get? b=some u->h'.get? b=some u)(ZH:∃u,h'.get? e=some u)(new:iq X.prog X.w (cE H x o) h' x o):cG X au Z (cE H x o) {s with heap:=h',toks:=t'}:=I.un (Un.write mu he k ZH) (I.fQ.write mu he k ZH new)
theorem cG.weak{Z':List (Option V)}(I:cG X au Z H s)(hl:Z'.length=Z.length)(w:∀(i:Nat) v,Z'[i]?=some (some v)->Z[i]?=some (some v)):cG X au Z' H s:=⟨I.ok,I.os,I.bare,I.base,let ⟨m,hn,GU⟩:=I.loc;⟨m,hn,λi x v e1 e2 e3=>GU i x v e1 (w i v e2) e3⟩,I.cell,I.free,I.pX,I.pin,I.fQ,hl.trans I.len⟩
theorem cG.J8(I:cG X au Z H s)(h:∀p∈aaW,s.heap.get? p.1=some p.2/\H p.1=none/\p.1≠X.env.locals/\p.1∉X.fs/\∀v,p.2.data≠.cell v):cG X aaW Z H s:=⟨I.ok,I.os,I.bare,I.base,I.loc,I.cell,I.free,I.pX,λp hp=>(aO.mp hp).elim (λz=>I.pin p (bq _ z)) (h p),I.fQ,I.len⟩
theorem zq{N:List cJ}(hN:N.Nodup){i j:Nat}(a:N[i]?=some x)(b:N[j]?=some x):i=j:=by obtain⟨h1,e1⟩:=ax.mp a;obtain⟨h2,e2⟩:=ax.mp b;exact(List.getElem_inj hN).mp (e1.trans e2.symm)
theorem Bu{E:aI->aU->Prop}{i:Nat}{v:V}{Q:Unit->aU->Prop}(I:cG X au Z H s)(hN:X.N.Nodup)(hi:X.N[i]?=some x)(hx:Loc X.env.scope x)(r:eM v u)(h:∀s',cG X au (Z.set i (some v)) H s'->(∃a,wc a s.heap s'.heap/\(a=X.env.locals\/X.env.cells.lookup x=some a))->Q () s')(hf:X.fn x=true\/X.env.scope.names.lookup x=some .local:=by first|exact .inl rfl|exact .inr rfl|assumption):wpAny M A (storeName X.env x u) Q E s:=by
 obtain⟨m,hn,hl⟩:=id I.loc;have agu:(X.env.scope.kind==.class||(X.env.scope.kind==.module&&X.env.locals !=X.env.globals))=false:=by rw[I.ok.kind];rfl
 have hiZ:i<Z.length:=by rw[I.len];exact(ax.mp hi).1
 have MJ:=I.MJ;have JJ:∀{a:aH} {h':f9},(∃o,s.heap.get? a=some o/\H a=none)->wc a s.heap h'->sx X.prog X.w H h':=λ{a h'} ha hs b ob e=>by obtain⟨_,_,Cc⟩:=ha;refine(I.fQ b ob e).stay (λc w' hc q=>(hs.2 c ?_).trans q) (λ_ q=>q) λ_ _ q=>q;rintro rfl;rcases hc with rfl|hc;(·rw[Cc]at e;cases e);rw[Cc]at hc;cases hc
 rcases hx with hk|hk;.refine wpAny_storeName_local hk hn (λh' hn' hs=>?_) agu;obtain⟨oL,_,_,hoL,_⟩:=id hn;refine h _ ⟨I.ok,I.os,I.bare,⟨λb o e n hb hx=>?_,λb o e n hb hx=>?_,I.base.free,λb o e hx=>?_,I.base.tups,I.base.zN,I.base.CU⟩,⟨_,hn',λj y v' e1 e2 e3=>?_⟩,λy c e=>?_,I.free,I.pX,λp hp=>?_,JJ ⟨oL,hoL,I.free⟩ hs,by simpa using I.len⟩ ⟨_,hs,.inl rfl⟩;(·exact(hs.2 b (cN (bh (bG e) I.ok.above))).trans (I.base.keep b o e n hb hx));(·obtain⟨sl,e1⟩:=I.base.slot b o e n hb hx;exact⟨sl,(hs.2 b (cN (bh (bG e) I.ok.above))).trans e1⟩);(·obtain⟨o',e1⟩:=I.base.there b o e hx;exact⟨o',(hs.2 b (cN (bh (bG e) I.ok.above))).trans e1⟩);(·by_cases hj:j=i;(·subst hj;rw[hi]at e1;cases e1;rw[lW hiZ]at e2;cases e2;exact⟨u,r,.inl ⟨hk,by simp⟩⟩);rw[sZ (lC hj)]at e2;obtain⟨u',r',q⟩:=hl j y v' e1 e2 e3;refine⟨u',r',?_⟩;rcases q with⟨k,e⟩|⟨k,c,e,z⟩;(·refine .inl ⟨k,?_⟩;have:y≠x:=λe=>hj (zq hN e1 (e ▸ hi));simp[this,e]);exact .inr ⟨k,c,e,z.sameBut hs (MJ y c e)⟩);(·obtain⟨w',z⟩:=I.cell y c e;exact⟨w',z.sameBut hs (MJ y c e)⟩);obtain⟨e,n,ne,nf,d⟩:=I.pin p hp;exact⟨(hs.2 p.1 ne).trans e,n,ne,nf,d⟩
 have hfn:X.fn x=true:=by rcases hf with z|z;(·exact z);rw[z]at hk;cases hk
 obtain⟨c,hc⟩:=I.ok.has x (.inl hk);obtain⟨w',z⟩:=I.cell x c hc;refine wpAny_storeName_cell I.ok.kind hk hc z (λh' T1 hs=>?_);obtain⟨oc,hoc,afE⟩:=id z;refine h {s with heap:=h'} ⟨I.ok,I.os,I.bare,⟨λb o e n hb hx=>?_,λb o e n hb hx=>?_,I.base.free,λb o e hx=>?_,I.base.tups,I.base.zN,I.base.CU⟩,⟨m,hn.sameBut hs (lC (MJ x c hc)),λj y v' e1 e2 e3=>?_⟩,λy c' e=>?_,I.free,I.pX,λp hp=>?_,JJ ⟨oc,hoc,I.pX x c hc⟩ hs,by simpa using I.len⟩ ⟨c,hs,.inr hc⟩;.exact(hs.2 b (cN (bh (bG e) (I.ok.cab x c hfn hc)))).trans (I.base.keep b o e n hb hx)
 .obtain⟨sl,e1⟩:=I.base.slot b o e n hb hx;exact⟨sl,(hs.2 b (cN (bh (bG e) (I.ok.cab x c hfn hc)))).trans e1⟩
 .obtain⟨o',e1⟩:=I.base.there b o e hx;exact⟨o',(hs.2 b (cN (bh (bG e) (I.ok.cab x c hfn hc)))).trans e1⟩
 .by_cases hj:j=i;(·subst hj;rw[hi]at e1;cases e1;rw[lW hiZ]at e2;cases e2;exact⟨u,r,.inr ⟨.inl hk,c,hc,T1⟩⟩);rw[sZ (lC hj)]at e2;obtain⟨u',r',q⟩:=hl j y v' e1 e2 e3;refine⟨u',r',?_⟩;rcases q with q|⟨k,c',e,z'⟩;(·exact .inl q);refine .inr ⟨k,c',e,z'.sameBut hs ?_⟩;rintro rfl;exact hj (zq hN e1 (I.ok.inj _ _ _ e hc ▸ hi))
 .by_cases hcc:c'=c;(·subst hcc;exact⟨_,T1⟩);obtain⟨w2,z2⟩:=I.cell y c' e;exact⟨w2,z2.sameBut hs hcc⟩
 obtain⟨e,n,ne,nf,d⟩:=I.pin p hp;refine⟨(hs.2 p.1 ?_).trans e,n,ne,nf,d⟩;intro q;rw[q,hoc]at e;have q':=aZ e;exact d w' (by rw[<-q'];exact afE)
theorem yY{E:aI->aU->Prop}{v:V}{Q:Unit->aU->Prop}(I:cG X au Z H s)(hN:X.N.Nodup)(hi:X.N[i]?=some x)(hx:Loc X.env.scope x)(r:eM v u)(h:∀s',cG X au (Z.set i (some v)) H s'->Q () s')(hf:X.fn x=true\/X.env.scope.names.lookup x=some .local:=by first|exact .inl rfl|exact .inr rfl|assumption):wpAny M A (storeName X.env x u) Q E s:=Bu I hN hi hx r (λs' I' _=>h s' I') hf
theorem cG.acW(I:cG X au Z H s)(ho:s'.os=s.os)(u:Un (frs X.stack) ch H H' s.heap s'.heap)(fQ:sx X.prog X.w H' s'.heap)(hg:Aw s'.gens)(Cd:∀b∈ch,(b∈X.ex\/X.BE.heap.objs.size<=b)/\b≠X.env.locals/\(∀x c,X.env.cells.lookup x=some c->c≠b)/\∀p∈X.pn++au,p.1≠b):cG X au Z H' s':=by obtain⟨h',g',d',t',o'⟩:=s';have e:=ho;subst e;exact I.call (g':=g') (t':=t') (d':=d') u fQ hg Cd
end
noncomputable abbrev XK:=aI->Option aH->Hp->Prop
noncomputable abbrev St:=List (Option V)
noncomputable abbrev VK:=V->Hp->Prop
noncomputable abbrev TE:=St->Hp->VK->Prop
noncomputable abbrev TT:=St->Hp->(Bool->Hp->Prop)->Prop
noncomputable abbrev TA:=St->Hp->(List V->Hp->Prop)->Prop
structure Ends where
 nx:St->Hp->Prop
 rt:VK
 bk:St->Hp->Prop:=λ_ _=>False
 ct:St->Hp->Prop:=λ_ _=>False
noncomputable abbrev TS:=Ends->St->Hp->Prop
def EP(X:Cx)(au:List (aH×kY))(Z:St)(Q:VK)(u:aI)(s':aU):Prop:=∃v H',cG X au Z H' s'/\eM v u/\Q v H'
def TP(X:Cx)(au:List (aH×kY))(Z:St)(Q:Bool->Hp->Prop)(b:Bool)(s':aU):Prop:=∃H',cG X au Z H' s'/\Q b H'
def AP(X:Cx)(au:List (aH×kY))(Z:St)(Q:List V->Hp->Prop)(us:List aI)(s':aU):Prop:=∃vs H',cG X au Z H' s'/\dk vs us/\Q vs H'
def SP(X:Cx)(au:List (aH×kY))(D:Ends)(f:Flow)(s':aU):Prop:=match f with
  |.next=>∃Z' H',cG X au Z' H' s'/\D.nx Z' H'
  |.brk=>∃Z' H',cG X au Z' H' s'/\D.bk Z' H'
  |.cont=>∃Z' H',cG X au Z' H' s'/\D.ct Z' H'
  |.ret u=>∃v Z' H',cG X au Z' H' s'/\eM v u/\D.rt v H'
def PE(X:Cx)(e:gA)(t:TE):Prop:=∀(au:List (aH×kY)) (s:aU) (Z:St) (H:Hp) (Q:VK),cG X au Z H s->t Z H Q->wpAny (b7 X.prog X.w) X.A (gG e X.env) (EP X au Z Q) X.xe s
def PT(X:Cx)(e:gA)(t:TT):Prop:=∀(au:List (aH×kY)) (s:aU) (Z:St) (H:Hp) (Q:Bool->Hp->Prop),cG X au Z H s->t Z H Q->wpAny (b7 X.prog X.w) X.A (UK e X.env (gG e X.env)) (TP X au Z Q) X.xe s
def PW(X:Cx)(e:gA)(t:TT):Prop:=∀(whole:Sem aI) (au:List (aH×kY)) (s:aU) (Z:St) (H:Hp) (Q:Bool->Hp->Prop),cG X au Z H s->t Z H Q->wpAny (b7 X.prog X.w) X.A (UK e X.env whole) (TP X au Z Q) X.xe s
theorem PW.pt(h:PW X e t):PT X e t:=h _
def PA(X:Cx)(es:List gA)(t:TA):Prop:=∀(pos:Et) (au:List (aH×kY)) (s:aU) (Z:St) (H:Hp) (Q:List V->Hp->Prop),cG X au Z H s->t Z H Q->wpAny (b7 X.prog X.w) X.A (spliced (lX pos (b8 es X.env))) (AP X au Z Q) X.xe s
def PS(X:Cx)(st:rm)(t:TS):Prop:=∀(au:List (aH×kY)) (s:aU) (Z:St) (H:Hp) (D:Ends),cG X au Z H s->t D Z H->wpAny (b7 X.prog X.w) X.A (exec st X.env) (SP X au D) X.xe s
def K_(X:Cx)(st:List rm)(t:TS):Prop:=∀(au:List (aH×kY)) (s:aU) (Z:St) (H:Hp) (D:Ends),cG X au Z H s->t D Z H->wpAny (b7 X.prog X.w) X.A (execs st X.env) (SP X au D) X.xe s
theorem i4{α:Type}{t:Sem α}{Q Q':α->aU->Prop}{E:aI->aU->Prop}(h:wpAny M A t Q E s)(hQ:∀a s,Q a s->Q' a s):wpAny M A t Q' E s:=gw h hQ λ_ _ x=>x
section
variable {X:Cx}
def Sg(i:Nat):TE:=λZ H Q=>∃v,Z[i]?=some (some v)/\Q v H
def tC(v:V):TE:=λ_ H Q=>Q v H
theorem WW(hN:X.N[i]?=some x)(hv:ZU X.env.scope x)(hd:(x==("__debug__":cJ))=false:=by decide)(hcd:(x==("__classdict__":cJ))=false:=by decide):PE X (.Name x pos) (Sg i):=by
 intro au s Z H Q I h;obtain⟨v,e,h⟩:=h;obtain⟨m,hn,hl⟩:=I.loc;obtain⟨u,r,l⟩:=hl i x v hN e hv;have fin:EP X au Z Q u s:=⟨v,H,I,r,h⟩;rcases l with⟨hk,hm⟩|⟨hk,c,hc,hcell⟩;.exact UH (Rw I.ok.kind hk hn hm fin) hd
 rcases hk with hk|hk;.exact UH (R0 I.ok.kind hk hc hcell fin) hd
 exact UH (wpAny_loadName_free I.ok.kind hk hc hcell fin hcd) hd
theorem aY{i j pos}:PE X (.Constant (.int i) j pos) (tC (.int i)):=λ_ _ _ H _ I h=>wpAny_Constant_int ⟨.int i,H,I.tok _,⟨_,rfl⟩,h⟩
theorem O2{b j pos}:PE X (.Constant (.bool b) j pos) (tC (.bl b)):=λ_ _ _ H _ I h=>Constant_bool ⟨.bl b,H,I,rfl,h⟩
theorem wr{j pos}:PE X (.Constant .none j pos) (tC .jk):=λ_ _ _ H _ I h=>JE ⟨.jk,H,I,rfl,h⟩
def Gl(X:Cx)(x:cJ):Prop:=X.env.kindOf x=some .globalImplicit
theorem yq{E:aI->aU->Prop}{Q:aI->aU->Prop}(I:cG X au Z H s)(hg:Gl X x)(hm:X.mg x=some u)(h:Q u s)(hd:(x==("__debug__":cJ))=false:=by decide):wpAny (b7 X.prog X.w) X.A (gG (.Name x pos) X.env) Q E s:=Au I.ok.kind hg (Calls.loadGlobal_global (by rw[I.ok.glob];exact I.mod.glob.keeps I.bk) hm h) hd
theorem qC{E:aI->aU->Prop}{Q:aI->aU->Prop}(I:cG X au Z H s)(hg:Gl X x)(hm:X.mg x=none)(hv:pk x=some u)(h:Q u s)(hn:x≠"__name__":=by decide)(hd:(x==("__debug__":cJ))=false:=by decide):wpAny (b7 X.prog X.w) X.A (gG (.Name x pos) X.env) Q E s:=by obtain⟨mb,h1,h2⟩:=I.mod.blt;exact Au I.ok.kind hg (Calls.loadGlobal_builtin (by rw[I.ok.glob];exact I.mod.glob.keeps I.bk) hm (by rw[I.ok.blt];exact h1.keeps I.bk) ((h2 x hn).trans hv) h) hd
theorem SI{v:V}(hg:Gl X x)(hm:X.mg x=some u)(r:eM v u)(hd:(x==("__debug__":cJ))=false:=by decide):PE X (.Name x pos) (tC v):=λ_ _ _ H _ I h=>yq I hg hm ⟨v,H,I,r,h⟩ hd
variable {a b:gA}{ta tb:TE}{pos:Et}
def PC(X:Cx)(op:CmpOp)(a b:gA)(t:TE):Prop:=∀(au:List (aH×kY)) (s:aU) (Z:St) (H:Hp) (Q:VK),cG X au Z H s->t Z H Q->wpAny (b7 X.prog X.w) X.A (gG a X.env) (λv s₁=>wpAny (b7 X.prog X.w) X.A (gG b X.env) (λu s₂=>wpAny (b7 X.prog X.w) X.A (gx op v u) (EP X au Z Q) X.xe s₂) X.xe s₁) X.xe s
theorem Pl(b:gA)(h:op≠.In)(h2:op≠.NotIn):kf op b=false:=by
 have e1:(op==CmpOp.In)=false:=by cases op<;>first|rfl|exact ap rfl h
 have e2:(op==CmpOp.NotIn)=false:=by cases op<;>first|rfl|exact ap rfl h2
 cases b<;>simp[kf,e1,e2]
def Z6(ta:TE):TE:=λZ H Q=>ta Z H λx H1=>Q (.bl (decide (x=.jk))) H1
def Oc(ta:TE):TE:=λZ H Q=>ta Z H λx H1=>Q (.bl (!decide (x=.jk))) H1
theorem eM.Ff{x:V}(r:eM x v):(v==uu)=decide (x=.jk):=by
 cases x with
  |jk=>cases r;rfl
  |bl _=>cases r;rfl
  |int _=>obtain⟨t,rfl⟩:=r;rfl
  |str _=>obtain⟨t,rfl⟩:=r;rfl
  |Gg _=>obtain⟨t,rfl⟩:=r;rfl
  |flt _=>obtain⟨t,rfl⟩:=r;rfl
  |ref _=>cases r;rfl
  |ty _=>cases r;rfl
theorem O3{j oB}(ha:PE X a ta):PC X .Is a (.Constant .none j oB) (Z6 ta):=by intro au s Z H Q I h;refine i4 (ha au s Z H _ I h) λv s1 hq=>?_;obtain⟨x,H1,I1,r1,q1⟩:=hq;exact JE (is_none_gen ⟨.bl _,H1,I1,by rw[r1.Ff];rfl,q1⟩)
theorem yp{j oB}(ha:PE X a ta):PC X .IsNot a (.Constant .none j oB) (Oc ta):=by intro au s Z H Q I h;refine i4 (ha au s Z H _ I h) λv s1 hq=>?_;obtain⟨x,H1,I1,r1,q1⟩:=hq;exact JE (isnot_none_gen ⟨.bl _,H1,I1,by rw[r1.Ff];rfl,q1⟩)
def tB(t:TE):TT:=λZ H Q=>t Z H λx H1=>∃c,x=.bl c/\Q c H1
theorem uf(h:PC X op a b t)(h1:kf op b=false:=by first|exact Pl _ ∅ ∅|rfl):PT X (.Compare a [op] [b] pos) (tB t):=by intro au s Z H Q I hw;refine NJ (i4 (h au s Z H _ I hw) λv s1 h1=>i4 h1 λu s2 h2=>i4 h2 λc s3 hq=>?_) h1;obtain⟨x,H1,I1,r1,q1⟩:=hq;obtain⟨d,rfl,q⟩:=q1;cases r1;exact qX ⟨H1,I1,q⟩
theorem zf(h:PE X e t)(he:∀whole,UK e X.env whole=(do let v <-whole;standAt e.pos;Am [v] (truthy v)):=by intro _;rfl):PT X e (tB t):=by intro au s Z H Q I hw;refine isTrue_plain (i4 (h au s Z H _ I hw) λv s1 hq=>?_) (he _);obtain⟨x,H1,I1,r1,q1⟩:=hq;obtain⟨d,rfl,q⟩:=q1;cases r1;exact qX ⟨H1,I1,q⟩
variable {tA tB':TT}{rest:List gA}
def aaa(t u:TT):TT:=λZ H Q=>t Z H λc H1=>if c=true then u Z H1 Q else Q false H1
def tOr(t u:TT):TT:=λZ H Q=>t Z H λc H1=>if c=true then Q true H1 else u Z H1 Q
theorem yj(ha:PT X a tA):PW X (.BoolOp .And [a] pos) tA:=by
 intro wh au s Z H Q I h;refine isTrue_and (i4 (ha au s Z H Q I h) λc s1 e=>?_);cases c with
  |true=>exact isTrue_and_nil e
  |false=>exact e
theorem zd(ha:PT X a tA):PW X (.BoolOp .Or [a] pos) tA:=by
 intro wh au s Z H Q I h;refine isTrue_or (i4 (ha au s Z H Q I h) λc s1 e=>?_);cases c with
  |false=>exact isTrue_or_nil e
  |true=>exact e
theorem Db(ha:PT X a tA)(hb:PW X (.BoolOp .And (b::rest) pos) tB'):PW X (.BoolOp .And (a::b::rest) pos) (aaa tA tB'):=by
 intro wh au s Z H Q I h;refine isTrue_and (i4 (ha au s Z H _ I h) λc s1 hq=>?_);obtain⟨H1,I1,q1⟩:=hq;cases c with
  |true=>exact hb wh au s1 Z H1 Q I1 q1
  |false=>exact⟨H1,I1,q1⟩
theorem ze(ha:PT X a tA)(hb:PW X (.BoolOp .Or (b::rest) pos) tB'):PW X (.BoolOp .Or (a::b::rest) pos) (tOr tA tB'):=by
 intro wh au s Z H Q I h;refine isTrue_or (i4 (ha au s Z H _ I h) λc s1 hq=>?_);obtain⟨H1,I1,q1⟩:=hq;cases c with
  |true=>exact⟨H1,I1,q1⟩
  |false=>exact hb wh au s1 Z H1 Q I1 q1
def tIf(t:TT)(ta tb:TE):TE:=λZ H Q=>t Z H λc H1=>if c=true then ta Z H1 Q else tb Z H1 Q
theorem og(hc:PT X c tA)(ha:PE X a ta)(hb:PE X b tb):PE X (.IfExp c a b pos) (tIf tA ta tb):=by
 intro au s Z H Q I h;refine wpAny_IfExp (i4 (hc au s Z H _ I h) λd s1 hq=>?_);obtain⟨H1,I1,q1⟩:=hq;cases d with
  |true=>exact ha au s1 Z H1 Q I1 q1
  |false=>exact hb au s1 Z H1 Q I1 q1
end
def cu(K:ai)(H:Hp)(a:aH)(xs:List V):Prop:=Rd H a (.lst xs)\/∃(o:kY) (its:Array aI) (n:Nat),K.lookup a=some o/\o.cls=.type "list"/\o.dict=none/\o.data=.seq its n/\its.size<=bn/\dk xs its.toList
def Ad(K:ai)(H:Hp)(a:aH)(xs:List V):Prop:=Rd H a (.tup xs)\/∃(o:kY) (its:Array aI) (n:Nat),K.lookup a=some o/\o.cls=.type "tuple"/\o.data=.seq its n/\its.size<=bn/\dk xs its.toList
noncomputable def ahi:aI->Option V
 |.none=>some .jk
 |.bool b=>some (.bl b)
 |.int i _=>some (.int i)
 |.str x _=>some (.str x)
 |.bytes b _=>some (.Gg b)
 |.float b _=>some (.flt b)
 |.ref a=>some (.ref a)
 |.type n=>some (.ty n)
 |_=>none
theorem eM.abs{x:V}(r:eM x u):ahi u=some x:=by
 cases x with
  |jk=>cases r;rfl
  |bl _=>cases r;rfl
  |int _=>obtain⟨t,rfl⟩:=r;rfl
  |str _=>obtain⟨t,rfl⟩:=r;rfl
  |Gg _=>obtain⟨t,rfl⟩:=r;rfl
  |flt _=>obtain⟨t,rfl⟩:=r;rfl
  |ref _=>cases r;rfl
  |ty _=>cases r;rfl
theorem eM.inj{x y:V}(r:eM x u)(q:eM y u):x=y:=aZ (r.abs.symm.trans q.abs)
theorem dk.inj:∀{xs ys:List V} {us:List aI},dk xs us->dk ys us->xs=ys:=by
 intro xs ys us h;induction h generalizing ys with
  |nil=>intro k;cases k;rfl
  |cons r t ih=>intro k;cases k with|cons r2 t2=>rw[r.inj r2,ih t2]
section
variable {X:Cx}{au:List (aH×kY)}{Z:St}{H:Hp}{s:aU}{a:aH}{xs ys:List V}
theorem cu.of{K:ai}(h:H a=some (.lst xs)):cu K H a xs:=.inl (.inl h)
theorem Ad.of{K:ai}(h:H a=some (.tup xs)):Ad K H a xs:=.inl (.inl h)
theorem cG.list(I:cG X au Z H s)(h:cu X.K H a xs):∃its,dk xs its/\PlainL s.heap a its.toArray/\xs.length<=bn:=by
 rcases h with h|⟨o,its,n,hk,hc,hd,hs,hz,r⟩;.obtain⟨z,its,n,r,e⟩:=h.ok I.fQ;exact⟨its,r,⟨_,n,e,rfl,rfl,rfl⟩,z⟩
 refine⟨its.toList,r,⟨o,n,I.Ij a o hk,hc,hd,by simpa using hs⟩,?_⟩;have e:=r.length;simp only[cX]at e;omega
theorem cG.tuple(I:cG X au Z H s)(h:Ad X.K H a xs):∃its,dk xs its/\IsTup s.heap a its.toArray/\xs.length<=bn:=by
 rcases h with h|⟨o,its,n,hk,hc,hs,hz,r⟩;.obtain⟨z,its,r,p⟩:=h.ok I.fQ;exact⟨its,r,p,z⟩
 refine⟨its.toList,r,⟨o,I.Ij a o hk,hc,n,by simpa using hs⟩,?_⟩;have e:=r.length;simp only[cX]at e;omega
theorem cG.u_(I:cG X au Z H s)(h:cu X.K H a xs)(h':cu X.K H a ys):xs=ys:=by
 obtain⟨its,r,⟨o,n,e,_,_,d⟩,_⟩:=I.list h;obtain⟨its',r',⟨o',n',e',_,_,d'⟩,_⟩:=I.list h';rw[e]at e';cases e';rw[d]at d';injection d' with d1 _;have:its=its':=by simpa using aK US d1
 subst this;exact r.inj r'
end
noncomputable abbrev Cx.AI(X:Cx)(E:aI->aU->Prop):Cx:={X with xe:=E}
noncomputable abbrev Cx.Zi(X:Cx):Cx:=X.AI λ_ _=>False
theorem Cx.Ok.AI{X:Cx}(ok:X.Ok)(E:aI->aU->Prop):(X.AI E).Ok:=⟨ok.mod,ok.kind,ok.glob,ok.blt,ok.above,ok.inj,ok.has,ok.cab,ok.hd,ok.frames,ok.stk,ok.exf,ok.bs,ok.RX,ok.Pj,ok.QD,ok.wC,ok.VI⟩
theorem Cx.Ok.rO{X:Cx}{E:aI->aU->Prop}(ok:(X.AI E).Ok):X.Ok:=⟨ok.mod,ok.kind,ok.glob,ok.blt,ok.above,ok.inj,ok.has,ok.cab,ok.hd,ok.frames,ok.stk,ok.exf,ok.bs,ok.RX,ok.Pj,ok.QD,ok.wC,ok.VI⟩
section
variable {X:Cx}{au:List (aH×kY)}{Z:St}{H:Hp}{s:aU}{E:aI->aU->Prop}
theorem cG.AI(I:cG X au Z H s)(E:aI->aU->Prop):cG (X.AI E) au Z H s:=⟨I.ok.AI E,I.os,I.bare,I.base,I.loc,I.cell,I.free,I.pX,I.pin,I.fQ,I.len⟩
theorem cG.rO(I:cG (X.AI E) au Z H s):cG X au Z H s:=⟨I.ok.rO,I.os,I.bare,I.base,I.loc,I.cell,I.free,I.pX,I.pin,I.fQ,I.len⟩
theorem SP.rO(h:SP (X.AI E) au D f s'):SP X au D f s':=by
 cases f with
  |next=>obtain⟨Z',H',I,q⟩:=h;exact⟨Z',H',I.rO,q⟩
  |brk=>obtain⟨Z',H',I,q⟩:=h;exact⟨Z',H',I.rO,q⟩
  |cont=>obtain⟨Z',H',I,q⟩:=h;exact⟨Z',H',I.rO,q⟩
  |ret u=>obtain⟨v,Z',H',I,r,q⟩:=h;exact⟨v,Z',H',I.rO,r,q⟩
theorem K_.Zi{st:List rm}(h:K_ X.Zi st t):K_ X st t:=λau s Z H D I hw=>gw (h au s Z H D (I.AI _) hw) (λ_ _ q=>q.rO) λ_ _ z=>dY z
end
section
variable {X:Cx}{st:rm}{rest:List rm}{t u:TS}{e:gA}{te:TE}{pos:Et}
def UW:TS:=λD Z H=>D.nx Z H
def V6(t u:TS):TS:=λD Z H=>t {D with nx:=u D} Z H
theorem dg:K_ X [] UW:=λ_ _ Z H _ I h=>tS ⟨Z,H,I,h⟩
theorem ak(h1:PS X st t)(h2:K_ X rest u):K_ X (st::rest) (V6 t u):=by
 intro au s Z H D I h;refine wpAny_execs_cons (i4 (h1 au s Z H {D with nx:=u D} I h) λf s1 q=>?_);cases f with
  |next=>obtain⟨Z',H',I',q⟩:=q;exact h2 au s1 Z' H' D I' q
  |ret v=>exact q
  |brk=>exact q
  |cont=>exact q
theorem aJ(h1:PS X st t):K_ X [st] t:=by
 intro au s Z H D I h;refine wpAny_execs_cons (i4 (h1 au s Z H D I h) λf s1 q=>?_);cases f with
  |next=>exact tS q
  |ret v=>exact q
  |brk=>exact q
  |cont=>exact q
def wg:TS:=λD Z H=>D.bk Z H
theorem zg:PS X (.Break pos) wg:=λ_ _ Z H _ I h=>wpAny_Break ⟨Z,H,I,h⟩
theorem cG.quiet(I:cG X au Z H s):interactive X.env=false:=by simp[interactive,I.ok.kind]
def UY(te:TE):TS:=λD Z H=>te Z H λ_ H1=>D.nx Z H1
theorem oK(he:PE X e te)(hs:nz e none pos.line X.env=pure false:=by rfl):PS X (.Expr e pos) (UY te):=by intro au s Z H D I h;exact wpAny_Expr_any (i4 (he au s Z H _ I h) λv s1 ⟨x,H1,I1,r1,q1⟩=>⟨Z,H1,I1,q1⟩) I.quiet hs
def V8(te:TE):TS:=λD Z H=>te Z H D.rt
theorem bQ(he:PE X e te):PS X (.Return (some e) pos) (V8 te):=by intro au s Z H D I h;exact wpAny_Return_some (i4 (he au s Z H _ I h) λv s1 ⟨x,H1,I1,r1,q1⟩=>⟨x,Z,H1,I1,r1,q1⟩)
def Z7(c:TT)(t u:TS):TS:=λD Z H=>c Z H λb H1=>if b=true then t D Z H1 else u D Z H1
theorem fO(hc:PT X c tc)(ha:K_ X a t)(hb:K_ X b u):PS X (.If c a b pos) (Z7 tc t u):=by
 intro au s Z H D I h;refine wpAny_If (i4 (hc au s Z H _ I h) λd s1 hq=>?_);obtain⟨H1,I1,q1⟩:=hq;cases d with
  |true=>exact ha au s1 Z H1 D I1 q1
  |false=>exact hb au s1 Z H1 D I1 q1
end
noncomputable abbrev TG:=V->St->Hp->(St->Hp->Prop)->Prop
noncomputable abbrev TGs:=List V->St->Hp->(St->Hp->Prop)->Prop
def PG(X:Cx)(yW:gA)(t:TG):Prop:=∀(au:List (aH×kY)) (s:aU) (Z:St) (H:Hp) (v:V) (u:aI) (Q:St->Hp->Prop),cG X au Z H s->eM v u->t v Z H Q->wpAny (b7 X.prog X.w) X.A (Gy yW X.env u) (λ_ s'=>∃Z' H',cG X au Z' H' s'/\Q Z' H') X.xe s
def PGs(X:Cx)(ts:List gA)(t:TGs):Prop:=∀(au:List (aH×kY)) (s:aU) (Z:St) (H:Hp) (vs:List V) (us:List aI) (Q:St->Hp->Prop),cG X au Z H s->dk vs us->t vs Z H Q->wpAny (b7 X.prog X.w) X.A (assignInOrder ((nA ts X.env).map (·.2)) us) (λ_ s'=>∃Z' H',cG X au Z' H' s'/\Q Z' H') X.xe s
noncomputable abbrev Y9:=V->V->V->Hp->(Hp->Prop)->Prop
def Za(X:Cx)(t:Y9):Prop:=∀(au:List (aH×kY)) (s:aU) (Z:St) (H:Hp) (o i v:V) (ov iv u:aI) (Q:Hp->Prop),cG X au Z H s->eM o ov->eM i iv->eM v u->t o i v H Q->wpAny (b7 X.prog X.w) X.A (setItem ov iv u) (λ_ s'=>∃H',cG X au Z H' s'/\Q H') X.xe s
noncomputable abbrev ZV:=V->V->Hp->VK->Prop
def PIp(X:Cx)(op:Operator)(t:ZV):Prop:=∀(au:List (aH×kY)) (s:aU) (Z:St) (H:Hp) (x y:V) (v u:aI) (Q:VK),cG X au Z H s->eM x v->eM y u->t x y H Q->wpAny (b7 X.prog X.w) X.A (inplaceOp op v u) (EP X au Z Q) X.xe s
section
variable {X:Cx}{pos:Et}
def jl(i:Nat):TG:=λv Z H Q=>Q (Z.set i (some v)) H
theorem SH(hN:X.N.Nodup)(hi:X.N[i]?=some x)(hx:Loc X.env.scope x)(hf:X.fn x=true\/X.env.scope.names.lookup x=some .local:=by first|exact .inl rfl|exact .inr rfl|assumption):PG X (.Name x pos) (jl i):=by intro au s Z H v u Q I r h;exact wpAny_assign_Name (yY I hN hi hx r (λs' I'=>⟨_,H,I',h⟩) hf)
noncomputable def Qx:TGs:=λvs Z H Q=>vs=[]/\Q Z H
noncomputable def xl(t:TG)(u:TGs):TGs:=λvs Z H Q=>∃v r,vs=v::r/\t v Z H λZ' H'=>u r Z' H' Q
theorem kU:PGs X [] Qx:=by intro au s Z H vs us Q I r h;obtain⟨e,h⟩:=h;subst e;cases r;exact assignInOrder_nil ⟨Z,H,I,h⟩
theorem eu(h1:PG X e t)(h2:PGs X es u)(hs:(nA (e::es) X.env).map (·.2)=Gy e X.env::(nA es X.env).map (·.2):=by rfl):PGs X (e::es) (xl t u):=by
 intro au s Z H vs us Q I r h;obtain⟨v,vr,e1,h⟩:=h;subst e1;cases r with
  |cons r rr=>rw[hs];refine assignInOrder_cons (i4 (h1 au s Z H _ _ _ I r h) λ_ s1 hq=>?_);obtain⟨σ1,H1,I1,q1⟩:=hq;exact h2 au s1 σ1 H1 _ _ Q I1 rr q1
def MB(K:ai)(n:Nat)(t:TGs):TG:=λv Z H Q=>∃a xs,v=.ref a/\Ad K H a xs/\xs.length=n/\t xs Z H Q
theorem WV(hc:X.calm=true)(h:PGs X es t)(hn:(nA es X.env).length=n:=by rfl)(i5:(nA es X.env).findIdx? (·.1)=none:=by rfl):PG X (.Tuple es k pos) (MB X.K n t):=by intro au s Z H v u Q I r hw;obtain⟨a,xs,e1,hq,hl,hw⟩:=hw;subst e1;cases r;obtain⟨its,rv,ht,hz⟩:=I.tuple hq;refine assign_Tuple_tuple (I.ok.hd hc) ht (by simp[hn,<-hl,rv.length]) i5 λh' hx=>?_;have I1:=I.kept (t':=s.toks) λb o e=>hx b o (cN (bG e)) e;exact h au _ Z H xs _ Q I1 (by simpa using rv) hw
def acN(to ti:TE)(t:Y9):TG:=λv Z H Q=>to Z H λo H1=>ti Z H1 λi H2=>t o i v H2 λH3=>Q Z H3
theorem zj(ho:PE X o to)(hi:PE X i ti)(hs:Za X t)(ha:∀v,Gy (.Subscript o i pos) X.env v=(do
  let ov <-Am [v] (gG o X.env)
  let iv <-Am [v,ov] (gG i X.env)
  standAt pos
  Am [v,ov,iv] (setItem ov iv v)
  release [v,ov,iv] []):=by intro _;rfl):PG X (.Subscript o i pos) (acN to ti t):=by intro au s Z H v u Q I r h;rw[ha];refine bv (rh (i4 (ho au s Z H _ I h) λov s1 hq=>?_));obtain⟨x,H1,I1,r1,q1⟩:=hq;refine bv (rh (i4 (hi au s1 Z H1 _ I1 q1) λiv s2 hq=>?_));obtain⟨y,H2,I2,r2,q2⟩:=hq;refine bv (Jl (bv (rh (i4 (hs au s2 Z H2 x y v ov iv u _ I2 r1 r2 r q2) λ_ s3 hq=>?_))));obtain⟨H3,I3,q3⟩:=hq;exact wpAny_release ⟨Z,H3,I3,q3⟩
def Hz(te:TE)(g:TG):TS:=λD Z H=>te Z H λx H1=>g x Z H1 D.nx
theorem zh(he:PE X e te)(hg:PG X tg g)(hs:swapsWithSole [tg] e pos.line X.env=pure false:=by rfl)(hw:swappedStores [tg] e X.env=pure none:=by rfl)(h1:(nA [tg] X.env).map (·.2)=[Gy tg X.env]:=by rfl):PS X (.Assign [tg] e pos) (Hz te g):=by intro au s Z H D I h;refine wpAny_Assign_stores (i4 (he au s Z H _ I h) λv s1 hq=>?_) hs hw;obtain⟨x,H1,I1,r1,q1⟩:=hq;rw[h1];exact i4 (hg au s1 Z H1 x v _ I1 r1 q1) λ_ s2 q=>q
theorem WO(hN:X.N.Nodup)(hi:X.N[i]?=some x)(hx:Loc X.env.scope x)(he:PE X e te)(hs:nz e (some (.Name x oB)) pos.line X.env=pure false:=by rfl)(hf:X.fn x=true\/X.env.scope.names.lookup x=some .local:=by first|exact .inl rfl|exact .inr rfl|assumption):PS X (.Assign [.Name x oB] e pos) (Hz te (jl i)):=by intro au s Z H D I h;refine wpAny_Assign_Name (i4 (he au s Z H _ I h) λv s1 hq=>?_) hs;obtain⟨y,H1,I1,r1,q1⟩:=hq;exact yY I1 hN hi hx r1 (λs2 I2=>⟨_,H1,I2,q1⟩) hf
def Z9(i:Nat)(te:TE)(ti:ZV):TS:=λD Z H=>∃x,Z[i]?=some (some x)/\te Z H λy H1=>ti x y H1 λz H2=>D.nx (Z.set i (some z)) H2
theorem WP(hN:X.N.Nodup)(hi:X.N[i]?=some x)(hx:Loc X.env.scope x)(he:PE X e te)(ho:PIp X op ti)(hf:X.fn x=true\/X.env.scope.names.lookup x=some .local:=by first|exact .inl rfl|exact .inr rfl|assumption):PS X (.AugAssign (.Name x oB) op e pos) (Z9 i te ti):=by
 intro au s Z H D I h;obtain⟨v,e1,h⟩:=h;obtain⟨m,hn,hl⟩:=I.loc;have vis:ZU X.env.scope x:=by rcases hx with k|k;exact .inl k;exact .inr (.inl k)
 obtain⟨u,r,l⟩:=hl i x v hi e1 vis;refine wpAny_AugAssign_Name ?_;have go:wpAny (b7 X.prog X.w) X.A (gG e X.env) (λw s₂=>wpAny (b7 X.prog X.w) X.A (inplaceOp op u w) (λr s₃=>wpAny (b7 X.prog X.w) X.A (storeName X.env x r) (λ_=>SP X au D .next) X.xe s₃) X.xe s₂) X.xe s:=by refine i4 (he au s Z H _ I h) λw s1 hq=>?_;obtain⟨y,H1,I1,r1,q1⟩:=hq;refine i4 (ho au s1 Z H1 v y u w _ I1 r r1 q1) λz s2 hq=>?_;obtain⟨zv,H2,I2,r2,q2⟩:=hq;exact yY I2 hN hi hx r2 (λs3 I3=>⟨_,H2,I3,q2⟩) hf
 rcases l with⟨hk,hm⟩|⟨hk,c,hc,hcell⟩;.exact Rw I.ok.kind hk hn hm go
 rcases hk with hk|hk;.exact R0 I.ok.kind hk hc hcell go
 rcases hx with k|k;.have:X.env.scope.names.lookup x=some .free:=hk;rw[k]at this;cases this
 have:X.env.scope.names.lookup x=some .free:=hk;rw[k]at this;cases this
def U1(to ti te:TE)(Hw:V->V->Hp->VK->Prop)(tip:ZV)(V4:Y9):TS:=λD Z H=>to Z H λo H1=>ti Z H1 λi H2=>Hw o i H2 λx H3=>te Z H3 λy H4=>tip x y H4 λz H5=>V4 o i z H5 λH6=>D.nx Z H6
def Zb(X:Cx)(t:V->V->Hp->VK->Prop):Prop:=∀(au:List (aH×kY)) (s:aU) (Z:St) (H:Hp) (o i:V) (ov iv:aI) (Q:VK),cG X au Z H s->eM o ov->eM i iv->t o i H Q->wpAny (b7 X.prog X.w) X.A (An ov iv) (EP X au Z Q) X.xe s
theorem uP{Hw:V->V->Hp->VK->Prop}(ho:PE X o to)(hi:PE X i ti)(hg:Zb X Hw)(he:PE X e te)(hp:PIp X op tip)(hs:Za X V4)(ha:∀ov iv new,augStore i ov iv new=(do Am [new,ov,iv] (setItem ov iv new);release [new,ov,iv] [];pure .next):=by intros;rfl):PS X (.AugAssign (.Subscript o i uK) op e pos) (U1 to ti te Hw tip V4):=by intro au s Z H D I h;refine wpAny_AugAssign_SubscriptAny (i4 (ho au s Z H _ I h) λov s1 hq=>?_) ha;obtain⟨x1,H1,I1,r1,q1⟩:=hq;refine i4 (hi au s1 Z H1 _ I1 q1) λiv s2 hq=>?_;obtain⟨x2,H2,I2,r2,q2⟩:=hq;refine i4 (hg au s2 Z H2 x1 x2 ov iv _ I2 r1 r2 q2) λVj s3 hq=>?_;obtain⟨x3,H3,I3,r3,q3⟩:=hq;refine i4 (he au s3 Z H3 _ I3 q3) λv s4 hq=>?_;obtain⟨x4,H4,I4,r4,q4⟩:=hq;refine i4 (hp au s4 Z H4 x3 x4 Vj v _ I4 r3 r4 q4) λnew s5 hq=>?_;obtain⟨x5,H5,I5,r5,q5⟩:=hq;exact i4 (hs au s5 Z H5 x1 x2 x5 ov iv new _ I5 r1 r2 r5 q5) λ_ s6 ⟨H6,I6,q6⟩=>⟨Z,H6,I6,q6⟩
noncomputable def Zl(f:Int->Int->Int):ZV:=λx y H Q=>∃i j,x=.int i/\y=.int j/\Q (.int (f i j)) H
theorem nc:PIp X .Add (Zl λi j=>i+j):=by intro au s Z H x y v u Q I r1 r2 h;obtain⟨i,j,e1,e2,q⟩:=h;subst e1;subst e2;obtain⟨t,rfl⟩:=r1;obtain⟨t',rfl⟩:=r2;exact iadd_int ⟨.int _,H,I.tok _,⟨_,rfl⟩,q⟩
theorem zF:PIp X .Sub (Zl λi j=>i-j):=by intro au s Z H x y v u Q I r1 r2 h;obtain⟨i,j,e1,e2,q⟩:=h;subst e1;subst e2;obtain⟨t,rfl⟩:=r1;obtain⟨t',rfl⟩:=r2;exact isub_int ⟨.int _,H,I.tok _,⟨_,rfl⟩,q⟩
end
section
variable {X:Cx}{pos:Et}
def N_(c:TT)(tb:TS):TS:=λD Z H=>∃W:Nat->St->Hp->Prop,(∃m,W m Z H)/\∀m Z H,W m Z H->c Z H λb H1=>if b=true then ∃N:St->Hp->Prop,(∀Z' H',N Z' H'->∃m',m'<m/\W m' Z' H')/\tb {D with nx:=N,ct:=N,bk:=D.nx} Z H1 else D.nx Z H1
theorem gp(hp:PassesOwn (b7 X.prog X.w) X.A X.env X.xe)(hc:PT X c tc)(hb:K_ X body tb):PS X (.While c body [] pos) (N_ tc tb):=by
 intro au s Z H D I h;obtain⟨W,⟨m0,w0⟩,turn⟩:=h;refine wpAny_While (codeAny_whileLoop (λn s'=>∃Z' H',cG X au Z' H' s'/\W n Z' H') ?_ m0 ⟨Z,H,I,w0⟩);rintro n s1 ⟨σ1,H1,I1,w1⟩;refine ka hp (i4 (hc au s1 σ1 H1 _ I1 (turn n σ1 H1 w1)) λb s2 hq=>?_);obtain⟨H2,I2,q2⟩:=hq;cases b with
  |true=>
   obtain⟨N,hN,q2⟩:=q2;rw[aj rfl];refine ka hp (i4 (hb au s2 σ1 H2 _ I2 q2) λf s3 q3=>?_);cases f with
    |next=>obtain⟨σ3,H3,I3,n3⟩:=q3;obtain⟨m',hm,w3⟩:=hN σ3 H3 n3;exact⟨m',hm,σ3,H3,I3,w3⟩
    |cont=>obtain⟨σ3,H3,I3,n3⟩:=q3;obtain⟨m',hm,w3⟩:=hN σ3 H3 n3;exact⟨m',hm,σ3,H3,I3,w3⟩
    |brk=>exact q3
    |ret v=>exact q3
  |false=>rw[ah bN];exact tS ⟨σ1,H2,I2,q2⟩
end
structure It where
 go:Nat->Hp->Prop
 Lr:Nat->Hp->V->Hp->Prop
 stop:Nat->Hp->Prop
def xU(X:Cx)(au:List (aH×kY))(H:Hp)(b:aH):Prop:=H b=none/\b≠X.env.locals/\b∉X.fs/\(b∈X.ex\/X.BE.heap.objs.size<=b)/\(∀x c,X.env.cells.lookup x=some c->c≠b)/\∀p∈X.pn++au,p.1≠b
theorem cG.MD(I:cG X au Z H s)(hb:s.heap.objs.size<=b)(hn:H' b=none):xU X au H' b:=by
 refine⟨hn,rA (bh I.lt hb),I.aeS hb,.inr (br I.sz hb),λx c e z=>?_,λp hp z=>?_⟩;.obtain⟨v,q⟩:=I.cell x c e;exact ap (bh q.lt (by rw[z];exact hb)) (fH _)
 exact ap (bh (bG (I.pin p hp).1) (by rw[z];exact hb)) (fH _)
structure Turn(P:cI)(w:eU)(K:ai)(tg:gA)(J:It)(fp:List aH)(it:aH)(tn:Nat->f9->Prop):Prop where
 mem:it∈fp
 obj:∀i h,tn i h->∀b∈fp,∃o,h.get? b=some o/\∀v,o.data≠.cell v
 keep:∀i h h',tn i h->(∀b∈fp,∀o,h.get? b=some o->h'.get? b=some o)->tn i h'
 item:∀(X:Cx),X.prog=P->X.w=w->X.K=K->X.calm=true->∀(i:Nat) (au:List (aH×kY)) (s:aU) (Z:St) (H:Hp) (E:aI->aU->Prop),cG X au Z H s->(∀b∈fp,xU X au H b)->tn i s.heap->J.go i H->
  wpAny (b7 P w) X.A (pyNext (.ref it)) (λr s1=>∃u,r=some u/\
   wpAny (b7 P w) X.A (tU tg (.ref it) u) (λ_ s2=>∃x H',cG X au Z H' s2/\eM x u/\J.Lr i H x H'/\tn (i+1) s2.heap/\∀b∈fp,H' b=none) E s1) E s
 done:∀(X:Cx),X.prog=P->X.w=w->X.K=K->X.calm=true->∀(i:Nat) (au:List (aH×kY)) (s:aU) (Z:St) (H:Hp) (E:aI->aU->Prop),cG X au Z H s->(∀b∈fp,xU X au H b)->tn i s.heap->J.stop i H->
  wpAny (b7 P w) X.A (pyNext (.ref it)) (λr s1=>r=none/\cG X au Z H s1) E s
 self:∀(A:jQ) (i:Nat) (s:aU) (Q:aI->aU->Prop) (E:aI->aU->Prop),tn i s.heap->Q (.ref it) s->wpAny (b7 P w) A (UJ (.ref it)) Q E s
noncomputable abbrev TI:=St->Hp->(It->Hp->Prop)->Prop
def PIE(X:Cx)(au:List (aH×kY))(Z:St)(tg:gA)(R:It->Hp->Prop)(itv:aI)(s2:aU):Prop:=∃(it:aH) (fp:List aH) (tn:Nat->f9->Prop) (J:It) (H':Hp),itv=.ref it/\cG X au Z H' s2/\Turn X.prog X.w X.K tg J fp it tn/\tn 0 s2.heap/\(∀b∈fp,xU X au H' b)/\R J H'
def PI(X:Cx)(tg lA:gA)(wi:TI):Prop:=∀(au:List (aH×kY)) (s:aU) (Z:St) (H:Hp) (R:It->Hp->Prop),cG X au Z H s->wi Z H R->wpAny (b7 X.prog X.w) X.A (gG lA X.env) (λv s1=>wpAny (b7 X.prog X.w) X.A (UJ v) (PIE X au Z tg R) X.xe s1) X.xe s
theorem Qt {E : aI -> aU -> Prop} {Q : Unit -> aU -> Prop} (ho : s.heap.get? it = some o) (hc : o.cls = .type n) (hd : o.data = .fields vs)
    (hn : ["enumerate", "zip", "dict_itemiterator", "dict_reverseitemiterator", "odict_iterator", "itertools.zip_longest", "itertools.pairwise"].contains n = false) (hQ : Q () s) : wpAny M A (tU tg (.ref it) u) Q E s := by
  unfold tU
  cases tg <;> first
    | exact cM hQ
    | (cases u <;> first
        | exact cM hQ
        | (refine bv (wpAny_load ho ?_)
           rw [hc, hd]
           show wpAny M A (if (["enumerate", "zip", "dict_itemiterator", "dict_reverseitemiterator", "odict_iterator", "itertools.zip_longest", "itertools.pairwise"].contains n && vs[0]? == some (rawInt _)) = true then _ else _) Q E s
           rw [ah (by intro h; rw [hn, Bool.false_and] at h; cases h)]
           exact cM hQ))
noncomputable def Jf(K:ai)(a:aH):It:=⟨λi H=>∃xs x,cu K H a xs/\xs[i]?=some x,λi H x H'=>H'=H/\∀xs,cu K H a xs->xs[i]?=some x,λi H=>∃xs,cu K H a xs/\xs.length<=i⟩
noncomputable def RY(lo:Int)(n:Nat):It:=⟨λi _=>i<n,λi H x H'=>H'=H/\x=.int (lo+i),λi _=>n<=i⟩
theorem Lu{P:cI}{w:eU}{K:ai}{tg:gA}(a it:aH):Turn P w K tg (Jf K a) [it] it (λi h=>h.IsListIter it a i) where
 mem:=by simp
 obj:=λi h st b hb=>by
  have e:b=it:=by simpa using hb
  subst e
  obtain⟨o,e,c,d⟩:=st
  exact⟨o,e,λv z=>by rw[d]at z;cases z⟩
 keep:=λi h h' st k=>st.at λo e=>k it (by simp) o e
 item:=by
  intro X hP hw hK hc i au s Z H E I hf st hg
  subst hP hw hK
  obtain⟨xs,x,hq,hx⟩:=hg
  obtain⟨its,rv,p,hz⟩:=I.list hq
  obtain⟨u,hu,ru⟩:=rv.get hx
  obtain⟨f0,f1,f2,f3,f4,f5⟩:=hf it (by simp)
  refine wpAny_pyNext_list_item st p.isList (x:=u) (by simpa using hu) λh' Sm sb=>?_
  have I1:=I.oY (t':=s.toks) (λb o hb e=>(sb.2 b hb).trans e) f0 f1 f3 f4 f5
  obtain⟨o,e,c,d⟩:=id Sm
  exact⟨u,rfl,Qt (s:={s with heap:=h'}) e c d ∅ ⟨x,H,I1,ru,⟨rfl,λys hy=>by rw[I.u_ hy hq];exact hx⟩,Sm,λb hb=>(hf b hb).1⟩⟩
 done:=by
  intro X hP hw hK hc i au s Z H E I hf st hg
  subst hP hw hK
  obtain⟨xs,hq,hx⟩:=hg
  obtain⟨its,rv,p,hz⟩:=I.list hq
  obtain⟨f0,f1,f2,f3,f4,f5⟩:=hf it (by simp)
  have hl:=rv.length
  exact wpAny_pyNext_list_end (I.ok.hd hc) st p.isList (by simp;omega) λh' eb=>⟨rfl,I.oY (t':=s.toks) (λb o hb e=>eb b o hb e) f0 f1 f3 f4 f5⟩
 self:=λ_ _ _ _ _ st h=>wpAny_pyIter_listiter st h
theorem Hr{P:cI}{w:eU}{K:ai}{tg:gA}(it:aH)(lo:Int)(n:Nat):Turn P w K tg (RY lo n) [it] it (λi h=>CK h it (lo+(i:Nat)*1) ((n:Int)-(i:Nat)) 1) where
 mem:=by simp
 obj:=λi h st b hb=>by
  have e:b=it:=by simpa using hb
  subst e
  exact⟨_,st,λv z=>by
   have z':=z
   cases z'⟩
 keep:=λi h h' st k=>k it (by simp) _ st
 item:=by
  intro X hP hw hK hc i au s Z H E I hf st hg
  subst hP hw hK
  obtain⟨f0,f1,f2,f3,f4,f5⟩:=hf it (by simp)
  have W:=Walks.range (prog:=X.prog) (w:=X.w) (I.ok.hd hc) it lo 1 n
  refine W.item i s _ _ hg st λv h' tk hv Sm kk=>?_
  obtain⟨t,rfl⟩:=hv
  have I1:cG X au Z H {s with heap:=h',toks:=tk}:=I.oY (λb o hb e=>kk b o (by simpa using hb) e) f0 f1 f3 f4 f5
  refine⟨_,rfl,Qt (s:={s with heap:=h',toks:=tk}) (n:="range_iterator") Sm rfl rfl ∅ ⟨.int (lo+i),H,I1,⟨t,?_⟩,⟨rfl,rfl⟩,Sm,λb hb=>(hf b hb).1⟩⟩
  rw[JC]
 done:=by
  intro X hP hw hK hc i au s Z H E I hf st hg
  subst hP hw hK
  obtain⟨f0,f1,f2,f3,f4,f5⟩:=hf it (by simp)
  exact Nb (I.ok.hd hc) st (by have:n<=i:=hg;omega) λh' eb=>⟨rfl,I.oY (t':=s.toks) (λb o hb e=>eb b o hb e) f0 f1 f3 f4 f5⟩
 self:=λ_ _ _ _ _ st h=>Nc st h
section
variable {X:Cx}{tg:gA}
def tN(K:ai)(tl:TE):TI:=λZ H R=>tl Z H λx H1=>∃a,x=.ref a/\(∃xs,cu K H1 a xs)/\R (Jf K a) H1
theorem SG{l:gA}{tl:TE}(hl:PE X l tl):PI X tg l (tN X.K tl):=by
 intro au s Z H R I h;refine i4 (hl au s Z H _ I h) λv s1 hq=>?_;obtain⟨x,H1,I1,r1,q1⟩:=hq;obtain⟨a,e,⟨xs,hq⟩,q⟩:=q1;subst e;cases r1;obtain⟨its,rv,p,hz⟩:=I1.list hq;refine wpAny_pyIter_list p.isList ?_;refine⟨s1.heap.objs.size,[s1.heap.objs.size],_,_,H1,rfl,I1.kept (t':=s1.toks) λb o e=>bx _ e,Lu a _,⟨_,cD _ rfl,rfl,rfl⟩,λb hb=>?_,q⟩;have e:b=s1.heap.objs.size:=by simpa using hb
 subst e;exact I1.MD (aw _) (I1.fQ.fresh (aw _))
theorem OL{R:It->Hp->Prop}{E:aI->aU->Prop}{lo hi:Int}{tk:Nat}(I:cG X au Z H s)(h1:-(2^62)<=lo)(h2:lo<2^62)(h3:-(2^62)<=hi)(h4:hi<2^62)(q:R (RY lo (hi-lo).toNat) H):wpAny (b7 X.prog X.w) X.A (UJ (.ref s.heap.objs.size)) (PIE X au Z tg R) E {s with heap:=s.heap.push {cls:=.type "range",data:=.fields #[.int lo t,.int hi u,.int 1 v]},toks:=tk}:=by
 refine UF (Eb ..) (small_one h1 h2 h3 h4) ?_;have I1:cG X au Z H {s with heap:=s.heap.push {cls:=.type "range",data:=.fields #[.int lo t,.int hi u,.int 1 v]},toks:=tk}:=I.kept λb o e=>bx _ e;refine⟨(s.heap.push {cls:=.type "range",data:=.fields #[.int lo t,.int hi u,.int 1 v]}).objs.size,[(s.heap.push {cls:=.type "range",data:=.fields #[.int lo t,.int hi u,.int 1 v]}).objs.size],_,_,H,rfl,I1.kept (t':=tk) λb o e=>bx _ e,Hr _ lo (hi-lo).toNat,?_,λb hb=>?_,q⟩;·(have e1:lo+((0:Nat):Int)*1=lo:=by simp);(have e2:(((hi-lo).toNat:Nat):Int)-((0:Nat):Int)=nF lo hi 1:=by rw[rangeSize_one];split<;>omega);show CK _ _ (lo+((0:Nat):Int)*1) ((((hi-lo).toNat:Nat):Int)-((0:Nat):Int)) 1;rw[e1,e2];exact cD _ rfl
 have e:b=(s.heap.push {cls:=.type "range",data:=.fields #[.int lo t,.int hi u,.int 1 v]}).objs.size:=by simpa using hb
 subst e;exact I1.MD (aw _) (I1.fQ.fresh (aw _))
def Ks(ta:TA):TI:=λZ H R=>ta Z H λvs H1=>∃j:Int,vs=[.int j]/\-(2^62)<=j/\j<2^62/\R (RY 0 j.toNat) H1
theorem nL(hg:Gl X "range")(hm:X.mg "range"=none)(ha:PA X [a] ta)(hs:b8 [a] X.env=[(false,gG a X.env)]:=by rfl):PI X tg (.Call (.Name "range" p) [a] [] pos) (Ks ta):=by
 intro au s Z H R I h;refine Call_ (qC I hg hm UL (d_ (i4 (ha pos au s Z H _ I h) λus s1 hq=>?_) hs rfl));obtain⟨vs,H1,I1,r1,q1⟩:=hq;obtain⟨j,e,q1,q2,q⟩:=q1;subst e;cases r1 with
  |cons r rr=>cases rr;obtain⟨t,rfl⟩:=r;exact call_range_1 (OL I1 (by omega) (by omega) q1 q2 (by simpa using q))
def EN(wi:TI)(g:TG)(tb:TS):TS:=λD Z H=>wi Z H λJ H1=>∃W:Nat->Nat->St->Hp->Prop,(∃m,W 0 m Z H1)/\∀i m Z H,W i m Z H->(J.stop i H/\D.nx Z H)\/(J.go i H/\∃N:St->Hp->Prop,(∀Z' H',N Z' H'->∃m',m'<m/\W (i+1) m' Z' H')/\∀x H',J.Lr i H x H'->g x Z H' λσ2 H2=>tb {D with nx:=N,ct:=N,bk:=D.nx} σ2 H2)
noncomputable def zi(fp:List aH)(h:f9):List (aH×kY):=fp.filterMap λb=>(h.get? b).map λo=>(b,o)
theorem uj(hb:b∈fp)(e:h.get? b=some o):(b,o)∈zi fp h:=Ll.mpr ⟨b,hb,by rw[e];rfl⟩
theorem L5(hp:p∈zi fp h):p.1∈fp/\h.get? p.1=some p.2:=by
 obtain⟨b,hb,e⟩:=Ll.mp hp;cases q:h.get? b with
  |none=>rw[q]at e;cases e
  |some o=>rw[q]at e;have e':=aZ e;subst e';exact⟨hb,q⟩
theorem cG.pinned(I:cG X au Z H s)(hf:∀b∈fp,xU X au H b)(ho:∀b∈fp,∃o,s.heap.get? b=some o/\∀v,o.data≠.cell v):cG X (au++zi fp s.heap) Z H s:=I.J8 λp hp=>(aO.mp hp).elim (λz=>I.pin p (bF _ z)) λz=>by obtain⟨hb,e⟩:=L5 z;obtain⟨f0,f1,f2,_⟩:=hf p.1 hb;obtain⟨o,e',d⟩:=ho p.1 hb;rw[e]at e';cases e';exact⟨e,f0,f1,f2,d⟩
theorem cG.uI(I:cG X (au++pl) Z H s):cG X au Z H s:=I.J8 λp hp=>I.pin p (bF _ (bq _ hp))
theorem gM(hp:PassesOwn (b7 X.prog X.w) X.A X.env X.xe)(hc:X.calm=true)(hi:PI X tg lA wi)(hg:PG X tg g)(hb:K_ X body tb)(hs:∀x,kD lA X.env x=pure x:=by intro _;rfl):PS X (.For tg lA body [] pos) (EN wi g tb):=by
 intro au s Z H D I h;refine wpAny_For (i4 (hi au s Z H _ I h) λv s1 h1=>i4 h1 λitv s2 h2=>?_) hs;obtain⟨it,fp,tn,J,H2,e,I2,T,st2,f2,W,⟨m0,w0⟩,turn⟩:=h2;subst e;have HB:∀{H':Hp},(∀b∈fp,H' b=none)->∀b∈fp,xU X au H' b:=λhn b hb=>⟨hn b hb,(f2 b hb).2⟩;refine codeAny_forLoop_any (λn s'=>∃i Z' H',cG X au Z' H' s'/\tn i s'.heap/\(∀b∈fp,H' b=none)/\W i n Z' H') ?_ m0 ⟨0,Z,H2,I2,st2,λb hb=>(f2 b hb).1,w0⟩;rintro n s3 ⟨i,σ3,H3,I3,st3,fr3,w3⟩;rcases turn i n σ3 H3 w3 with⟨stop,qn⟩|⟨go,N,hN,step⟩;.refine ka hp (i4 (T.done X rfl rfl rfl hc i au s3 σ3 H3 X.xe I3 (HB fr3) st3 stop) λr s4 ⟨hr,I4⟩=>?_);subst hr;exact tS ⟨σ3,H3,I4,qn⟩
 refine ka hp (i4 (T.item X rfl rfl rfl hc i au s3 σ3 H3 X.xe I3 (HB fr3) st3 go) λr s4 hq=>?_);obtain⟨u,hr,h4⟩:=hq;subst hr;refine ka hp (i4 h4 λ_ s5 hq=>?_);obtain⟨x,H5,I5,r5,y5,Zf,fr5⟩:=hq;have I5':=I5.pinned (HB fr5) (T.obj _ _ Zf);refine ka hp (i4 (hg _ s5 σ3 H5 x u _ I5' r5 (step x H5 y5)) λ_ s6 hq=>?_);obtain⟨σ6,H6,I6,q6⟩:=hq;refine ka hp (i4 (hb _ s6 σ6 H6 _ I6 q6) λf s7 q7=>?_);have again:∀{σ7:St} {H7:Hp},cG X (au++zi fp s5.heap) σ7 H7 s7->N σ7 H7->∃m,m<n/\∃i Z' H',cG X au Z' H' s7/\tn i s7.heap/\(∀b∈fp,H' b=none)/\W i m Z' H':=λ{σ7 H7} I7 n7=>by obtain⟨m',hm,w7⟩:=hN σ7 H7 n7;refine⟨m',hm,i+1,σ7,H7,I7.uI,T.keep _ _ _ Zf λb hb o e=>(I7.pin (b,o) (bF _ (bF _ (uj hb e)))).1,λb hb=>?_,w7⟩;obtain⟨o,e,d⟩:=T.obj _ _ Zf b hb;exact(I7.pin (b,o) (bF _ (bF _ (uj hb e)))).2.1
 cases f with
  |next=>obtain⟨σ7,H7,I7,n7⟩:=q7;exact again I7 n7
  |cont=>obtain⟨σ7,H7,I7,n7⟩:=q7;exact again I7 n7
  |brk=>obtain⟨σ7,H7,I7,q7⟩:=q7;exact⟨σ7,H7,I7.uI,q7⟩
  |ret v=>obtain⟨x7,σ7,H7,I7,r7,q7⟩:=q7;exact⟨x7,σ7,H7,I7.uI,r7,q7⟩
end
theorem FR{K:ai}{a:aH}{xs:List V}{g:TG}{tb:TS}{D:Ends}{Z:St}{H:Hp}(Pv:Nat->St->Hp->Prop)(h0:Pv 0 Z H)(hl:∀i Z H,i<=xs.length->Pv i Z H->cu K H a xs)(hs:∀i x Z H,xs[i]?=some x->Pv i Z H->g x Z H λσ2 H2=>tb {D with nx:=Pv (i+1),ct:=Pv (i+1),bk:=D.nx} σ2 H2)(hd:∀Z H,Pv xs.length Z H->D.nx Z H):∃W:Nat->Nat->St->Hp->Prop,(∃m,W 0 m Z H)/\∀i m Z H,W i m Z H->((Jf K a).stop i H/\D.nx Z H)\/((Jf K a).go i H/\∃N:St->Hp->Prop,(∀Z' H',N Z' H'->∃m',m'<m/\W (i+1) m' Z' H')/\∀x H',(Jf K a).Lr i H x H'->g x Z H' λσ2 H2=>tb {D with nx:=N,ct:=N,bk:=D.nx} σ2 H2):=by
 refine⟨λi m Z H=>m=xs.length-i/\i<=xs.length/\Pv i Z H,⟨xs.length,by simp,bX _,h0⟩,?_⟩;rintro i m Z H ⟨rfl,hi,p⟩;have q:=hl i Z H hi p;by_cases hlt:i<xs.length;.refine .inr ⟨⟨xs,xs[i],q,by simp[hlt]⟩,Pv (i+1),λZ' H' p'=>⟨xs.length-(i+1),by omega,rfl,hlt,p'⟩,λx H' y=>?_⟩;obtain⟨e,y⟩:=y;subst e;exact hs i x Z _ (y xs q) p
 have e:i=xs.length:=by omega
 subst e;exact .inl ⟨⟨xs,q,aw _⟩,hd Z H p⟩
theorem ME{lo:Int}{n:Nat}{g:TG}{tb:TS}{D:Ends}{Z:St}{H:Hp}(Pv:Nat->St->Hp->Prop)(h0:Pv 0 Z H)(hs:∀i Z H,i<n->Pv i Z H->g (.int (lo+i)) Z H λσ2 H2=>tb {D with nx:=Pv (i+1),ct:=Pv (i+1),bk:=D.nx} σ2 H2)(hd:∀Z H,Pv n Z H->D.nx Z H):∃W:Nat->Nat->St->Hp->Prop,(∃m,W 0 m Z H)/\∀i m Z H,W i m Z H->((RY lo n).stop i H/\D.nx Z H)\/((RY lo n).go i H/\∃N:St->Hp->Prop,(∀Z' H',N Z' H'->∃m',m'<m/\W (i+1) m' Z' H')/\∀x H',(RY lo n).Lr i H x H'->g x Z H' λσ2 H2=>tb {D with nx:=N,ct:=N,bk:=D.nx} σ2 H2):=by
 refine⟨λi m Z H=>m=n-i/\i<=n/\Pv i Z H,⟨n,by simp,bX _,h0⟩,?_⟩;rintro i m Z H ⟨rfl,hi,p⟩;by_cases hlt:i<n;.refine .inr ⟨hlt,Pv (i+1),λZ' H' p'=>⟨n-(i+1),by omega,rfl,hlt,p'⟩,λx H' y=>?_⟩;obtain⟨e,y⟩:=y;subst e y;exact hs i Z _ hlt p
 have e:i=n:=by omega
 subst e;exact .inl ⟨aw _,hd Z H p⟩
noncomputable abbrev R2:=V->V->Hp->VK->Prop
def tQ(X:Cx)(f:aI->aI->Sem aI)(r:R2):Prop:=∀(au:List (aH×kY)) (s:aU) (Z:St) (H:Hp) (x y:V) (v u:aI) (Q:VK),cG X au Z H s->eM x v->eM y u->r x y H Q->wpAny (b7 X.prog X.w) X.A (f v u) (EP X au Z Q) X.xe s
def UnR(X:Cx)(f:aI->Sem aI)(r:V->Hp->VK->Prop):Prop:=∀(au:List (aH×kY)) (s:aU) (Z:St) (H:Hp) (x:V) (v:aI) (Q:VK),cG X au Z H s->eM x v->r x H Q->wpAny (b7 X.prog X.w) X.A (f v) (EP X au Z Q) X.xe s
def qV(X:Cx)(f:aI)(r:List V->Hp->VK->Prop):Prop:=∀(au:List (aH×kY)) (s:aU) (Z:St) (H:Hp) (xs:List V) (us:List aI) (Q:VK),cG X au Z H s->dk xs us->r xs H Q->wpAny (b7 X.prog X.w) X.A (call f us) (EP X au Z Q) X.xe s
def UV(r:R2)(ta tb:TE):TE:=λZ H Q=>ta Z H λx H1=>tb Z H1 λy H2=>r x y H2 Q
def tUn(r:V->Hp->VK->Prop)(ta:TE):TE:=λZ H Q=>ta Z H λx H1=>r x H1 Q
def rI(C:Int->Int->Prop)(g:Int->Int->V):R2:=λx y H Q=>∃i j,x=.int i/\y=.int j/\C i j/\Q (g i j) H
def HP(g:Int->Int->V):R2:=λx y H Q=>∃i j,x=.int i/\y=.int j/\Q (g i j) H
noncomputable def rU(g:Int->V):V->Hp->VK->Prop:=λx H Q=>∃i,x=.int i/\Q (g i) H
section
variable {X:Cx}{a b c:gA}{ta tb tc:TE}{pos:Et}
theorem Y1(ha:PE X a ta)(hb:PE X b tb){au:List (aH×kY)}{s:aU}{Z:St}{H:Hp}{R:V->V->Hp->Prop}(I:cG X au Z H s)(h:ta Z H λx H1=>tb Z H1 λy H2=>R x y H2){Q:aI->aU->Prop}{f:aI->aI->Sem aI}(hf:∀v u s2 x y H2,cG X au Z H2 s2->eM x v->eM y u->R x y H2->wpAny (b7 X.prog X.w) X.A (f v u) Q X.xe s2):wpAny (b7 X.prog X.w) X.A (gG a X.env) (λv s₁=>wpAny (b7 X.prog X.w) X.A (gG b X.env) (λu s₂=>wpAny (b7 X.prog X.w) X.A (f v u) Q X.xe s₂) X.xe s₁) X.xe s:=by refine i4 (ha au s Z H _ I h) λv s1 hq=>?_;obtain⟨x,H1,I1,r1,q1⟩:=hq;refine i4 (hb au s1 Z H1 _ I1 q1) λu s2 hq=>?_;obtain⟨y,H2,I2,r2,q2⟩:=hq;exact hf v u s2 x y H2 I2 r1 r2 q2
theorem bW(ho:tQ X (mO op) r)(ha:PE X a ta)(hb:PE X b tb):PE X (.BinOp a op b pos) (UV r ta tb):=by intro au s Z H Q I h;exact wpAny_BinOp (Y1 ha hb I h λv u s2 x y H2 I2 rx ry q=>ho au s2 Z H2 x y v u Q I2 rx ry q)
theorem ln{r:V->Hp->VK->Prop}(ho:UnR X (unaryOp op) r)(ha:PE X a ta):PE X (.UnaryOp op a pos) (tUn r ta):=by intro au s Z H Q I h;exact UnaryOp_ (i4 (ha au s Z H _ I h) λv s1 ⟨x,H1,I1,r1,q1⟩=>ho au s1 Z H1 x v Q I1 r1 q1)
theorem opI{f:aI->aI->Sem aI}{C:Int->Int->Prop}{g:Int->Int->Int}(rule:∀i j t u s Q E,C i j->Q (.int (g i j) s.toks) {s with toks:=s.toks+1}->wpAny (b7 X.prog X.w) X.A (f (.int i t) (.int j u)) Q E s):tQ X f (rI C λi j=>.int (g i j)):=by intro au s Z H x y v u Q I rx ry h;obtain⟨i,j,rfl,rfl,hc,q⟩:=h;obtain⟨t,rfl⟩:=rx;obtain⟨t',rfl⟩:=ry;exact rule i j t t' s _ _ hc ⟨.int (g i j),H,I.tok _,⟨_,rfl⟩,q⟩
theorem aa7{g:Int->Int->Int}(rule:∀i j t u s Q E,Q (.int (g i j) s.toks) {s with toks:=s.toks+1}->wpAny (b7 X.prog X.w) X.A (f (.int i t) (.int j u)) Q E s):tQ X f (HP λi j=>.int (g i j)):=by intro au s Z H x y v u Q I rx ry h;obtain⟨i,j,rfl,rfl,q⟩:=h;obtain⟨t,rfl⟩:=rx;obtain⟨t',rfl⟩:=ry;exact rule i j t t' s _ _ ⟨.int (g i j),H,I.tok _,⟨_,rfl⟩,q⟩
theorem SQ{g:Int->Int->Bool}(rule:∀i j t u s Q E,Q (.bool (g i j)) s->wpAny (b7 X.prog X.w) X.A (f (.int i t) (.int j u)) Q E s):tQ X f (HP λi j=>.bl (g i j)):=by intro au s Z H x y v u Q I rx ry h;obtain⟨i,j,rfl,rfl,q⟩:=h;obtain⟨t,rfl⟩:=rx;obtain⟨t',rfl⟩:=ry;exact rule i j t t' s _ _ ⟨.bl (g i j),H,I,rfl,q⟩
def ahr(i j:Int):Prop:=0<=j/\j<=1000000/\i.natAbs<2^64
theorem W9:tQ X (mO .Add) (HP λi j=>.int (i+j)):=aa7 λ_ _ _ _ _ _ _ q=>add_int q
theorem f6:tQ X (mO .Sub) (HP λi j=>.int (i-j)):=aa7 λ_ _ _ _ _ _ _ q=>sub_int q
theorem iK:tQ X (mO .Mod) (rI (λ_ j=>j≠0) λi j=>.int (i.fmod j)):=opI λ_ _ _ _ _ _ _ hc q=>mod_int' hc q
theorem HS:tQ X (mO .Pow) (rI ahr λi j=>.int (i^j.toNat)):=opI λ_ _ _ _ _ _ _ hc q=>pow_int_small hc.1 hc.2.1 hc.2.2 q
theorem unI{g:Int->Int}(rule:∀i t s Q E,Q (.int (g i) s.toks) {s with toks:=s.toks+1}->wpAny (b7 X.prog X.w) X.A (f (.int i t)) Q E s):UnR X f (rU λi=>.int (g i)):=by intro au s Z H x v Q I rx h;obtain⟨i,rfl,q⟩:=h;obtain⟨t,rfl⟩:=rx;exact rule i t s _ _ ⟨.int (g i),H,I.tok _,⟨_,rfl⟩,q⟩
theorem jc:UnR X (unaryOp .USub) (rU λi=>.int (-i)):=unI λ_ _ _ _ _ q=>neg_int q
end
noncomputable def OG:V->V->Bool
 |.jk,.jk=>true|.jk,.int _=>true|.int _,.jk=>true|.jk,.bl _=>true|.bl _,.jk=>true|.jk,.str _=>true|.str _,.jk=>true
 |.int _,.int _=>true|.bl _,.bl _=>true|.str _,.str _=>true|.Gg _,.Gg _=>true
 |.int _,.str _=>true|.str _,.int _=>true|.bl _,.str _=>true|.str _,.bl _=>true
 |_,_=>false
def rEq:R2:=λx y H Q=>OG x y=true/\Q (.bl (decide (x=y))) H
def rNe:R2:=λx y H Q=>OG x y=true/\Q (.bl (!decide (x=y))) H
theorem KW:decide (V.int i=V.int j)=(i==j):=by rw[jH];simp
theorem QS:decide (V.bl i=V.bl j)=(i==j):=by rw[jH];simp
theorem KU:decide (V.str i=V.str j)=(i==j):=by rw[jH];simp
theorem KY:decide (V.Gg i=V.Gg j)=(i.toList==j.toList):=by rw[jH];cases i;cases j;simp
section
variable {X:Cx}{a b c:gA}{ta tb tc:TE}{pos:Et}
theorem fw(I:cG X au Z H s)(q:Q (.bl k) H)(e:k=k'):EP X au Z Q (.bool k') s:=by subst e;exact⟨.bl k,H,I,rfl,q⟩
theorem iL:tQ X (gx .Eq) rEq:=by
 intro au s Z H x y v u Q I rx ry h;obtain⟨hs,q⟩:=h;cases x with
  |jk=>
   cases rx;cases y with
    |jk=>cases ry;exact PySem.EqNone.eq_none_none (fw I q (by simp))
    |bl j=>cases ry;exact PySem.EqNone.eq_none_bool (fw I q (by simp))
    |int j=>obtain⟨t',rfl⟩:=ry;exact PySem.EqNone.eq_none_int (fw I q (by simp))
    |str j=>obtain⟨t',rfl⟩:=ry;exact PySem.EqNone.eq_none_str (fw I q (by simp))
    |_=>exact ap (show false=true from hs) bN
  |bl i=>
   cases rx;cases y with
    |jk=>cases ry;exact PySem.EqNone.eq_bool_none (fw I q (by simp))
    |bl j=>cases ry;exact eq_bool (fw I q QS)
    |str j=>obtain⟨t',rfl⟩:=ry;exact PySem.EqMixed.eq_bool_str (fw I q (by simp))
    |_=>exact ap (show false=true from hs) bN
  |int i=>
   obtain⟨t,rfl⟩:=rx;cases y with
    |jk=>cases ry;exact PySem.EqNone.eq_int_none (fw I q (by simp))
    |int j=>obtain⟨t',rfl⟩:=ry;exact eq_int (fw I q KW)
    |str j=>obtain⟨t',rfl⟩:=ry;exact PySem.EqMixed.eq_int_str (fw I q (by simp))
    |_=>exact ap (show false=true from hs) bN
  |str i=>
   obtain⟨t,rfl⟩:=rx;cases y with
    |jk=>cases ry;exact PySem.EqNone.eq_str_none (fw I q (by simp))
    |bl j=>cases ry;exact PySem.EqMixed.eq_str_bool (fw I q (by simp))
    |int j=>obtain⟨t',rfl⟩:=ry;exact PySem.EqMixed.eq_str_int (fw I q (by simp))
    |str j=>obtain⟨t',rfl⟩:=ry;exact eq_str (fw I q KU)
    |_=>exact ap (show false=true from hs) bN
  |Gg i=>
   obtain⟨t,rfl⟩:=rx;cases y with
    |Gg j=>obtain⟨t',rfl⟩:=ry;exact PySem.W.eq_bytes (fw I q KY)
    |_=>exact ap (show false=true from hs) bN
  |_=>cases y<;>exact ap (show false=true from hs) bN
theorem J_:tQ X (gx .NotEq) rNe:=by
 intro au s Z H x y v u Q I rx ry h;obtain⟨hs,q⟩:=h;cases x with
  |jk=>
   cases rx;cases y with
    |jk=>cases ry;exact PySem.EqNone.ne_none_none (fw I q (by simp))
    |bl j=>cases ry;exact PySem.EqNone.ne_none_bool (fw I q (by simp))
    |int j=>obtain⟨t',rfl⟩:=ry;exact PySem.EqNone.ne_none_int (fw I q (by simp))
    |str j=>obtain⟨t',rfl⟩:=ry;exact PySem.EqNone.ne_none_str (fw I q (by simp))
    |_=>exact ap (show false=true from hs) bN
  |bl i=>
   cases rx;cases y with
    |jk=>cases ry;exact PySem.EqNone.ne_bool_none (fw I q (by simp))
    |bl j=>cases ry;exact ne_bool (fw I q (aK not QS))
    |str j=>obtain⟨t',rfl⟩:=ry;exact PySem.EqMixed.ne_bool_str (fw I q (by simp))
    |_=>exact ap (show false=true from hs) bN
  |int i=>
   obtain⟨t,rfl⟩:=rx;cases y with
    |jk=>cases ry;exact PySem.EqNone.ne_int_none (fw I q (by simp))
    |int j=>obtain⟨t',rfl⟩:=ry;exact ne_int (fw I q (aK not KW))
    |str j=>obtain⟨t',rfl⟩:=ry;exact PySem.EqMixed.ne_int_str (fw I q (by simp))
    |_=>exact ap (show false=true from hs) bN
  |str i=>
   obtain⟨t,rfl⟩:=rx;cases y with
    |jk=>cases ry;exact PySem.EqNone.ne_str_none (fw I q (by simp))
    |bl j=>cases ry;exact PySem.EqMixed.ne_str_bool (fw I q (by simp))
    |int j=>obtain⟨t',rfl⟩:=ry;exact PySem.EqMixed.ne_str_int (fw I q (by simp))
    |str j=>obtain⟨t',rfl⟩:=ry;exact ne_str (fw I q (aK not KU))
    |_=>exact ap (show false=true from hs) bN
  |Gg i=>
   obtain⟨t,rfl⟩:=rx;cases y with
    |Gg j=>obtain⟨t',rfl⟩:=ry;exact PySem.W.ne_bytes (fw I q (aK not KY))
    |_=>exact ap (show false=true from hs) bN
  |_=>cases y<;>exact ap (show false=true from hs) bN
theorem rX:tQ X (gx .Lt) (HP λi j=>.bl (decide (i<j))):=SQ λ_ _ _ _ _ _ _ q=>lt_int q
theorem O7:tQ X (gx .LtE) (HP λi j=>.bl (decide (i<=j))):=SQ λ_ _ _ _ _ _ _ q=>le_int q
theorem rY:tQ X (gx .Gt) (HP λi j=>.bl (decide (j<i))):=SQ λ_ _ _ _ _ _ _ q=>gt_int q
theorem Ka:tQ X (gx .GtE) (HP λi j=>.bl (decide (j<=i))):=SQ λ_ _ _ _ _ _ _ q=>ge_int q
theorem tQ.or(h:tQ X f r)(h':tQ X f r'):tQ X f (λx y H Q=>r x y H Q\/r' x y H Q):=by
 intro au s Z H x y v u Q I rx ry q;rcases q with q|q;.exact h au s Z H x y v u Q I rx ry q
 exact h' au s Z H x y v u Q I rx ry q
theorem zp(b:gA)(h:op≠.In:=by decide)(h2:op≠.NotIn:=by decide):kf op b=false:=by
 have e1:(op==CmpOp.In)=false:=by cases op<;>first|rfl|exact ap rfl h
 have e2:(op==CmpOp.NotIn)=false:=by cases op<;>first|rfl|exact ap rfl h2
 cases b<;>simp[kf,e1,e2]
theorem yo(ho:tQ X (gx op) r)(ha:PE X a ta)(hb:PE X b tb)(hm:kf op b=false):PE X (.Compare a [op] [b] pos) (UV r ta tb):=by intro au s Z H Q I h;exact wpAny_Compare1 (Y1 ha hb I h λv u s2 x y H2 I2 rx ry q=>ho au s2 Z H2 x y v u Q I2 rx ry q) hm
def Oa(t:TE):TT:=λZ H Q=>t Z H λx H'=>∃k,x=.bl k/\Q k H'
theorem yk(ho:tQ X (gx op) r)(ha:PE X a ta)(hb:PE X b tb)(hm:kf op b=false):PT X (.Compare a [op] [b] pos) (Oa (UV r ta tb)):=by intro au s Z H Q I h;refine NJ (i4 (ha au s Z H _ I h) λv s1 ⟨x,H1,I1,r1,q1⟩=>i4 (hb au s1 Z H1 _ I1 q1) λu s2 ⟨y,H2,I2,r2,q2⟩=>i4 (ho au s2 Z H2 x y v u _ I2 r1 r2 q2) λc s3 ⟨z,H3,I3,r3,k,e,q3⟩=>?_) hm;subst e;cases r3;exact qX ⟨H3,I3,q3⟩
theorem zC:(bn:Nat)<2^63:=by rw[qY];decide
theorem vals1{x:V}(r:dk [x] us):∃u,us=[u]/\eM x u:=by
 cases r with
  |cons r1 r2=>cases r2;exact⟨_,rfl,r1⟩
theorem vals2{x y:V}(r:dk [x,y] us):∃u w',us=[u,w']/\eM x u/\eM y w':=by
 cases r with
  |cons r1 r2=>
   cases r2 with
    |cons r3 r4=>cases r4;exact⟨_,_,rfl,r1,r3⟩
theorem vF:qV X (.builtin "abs") (λxs H Q=>∃i,xs=[.int i]/\Q (.int (if i<0 then-i else i)) H):=by intro au s Z H xs us Q I r h;obtain⟨i,rfl,q⟩:=h;obtain⟨u,rfl,t,rfl⟩:=vals1 r;exact call_abs_int λu tk=>⟨.int (if i<0 then-i else i),H,I.tok _,⟨_,rfl⟩,q⟩
theorem sT(hc:X.calm=true):qV X (.builtin "max") (λxs H Q=>∃i j,xs=[.int i,.int j]/\Q (.int (if j>i then j else i)) H):=by
 intro au s Z H xs us Q I r h;obtain⟨i,j,rfl,q⟩:=h;obtain⟨u,w',rfl,⟨t,rfl⟩,⟨t',rfl⟩⟩:=vals2 r;refine max_two_ints (I.ok.hd hc) λh' tk k=>⟨_,H,I.kept k,?_,q⟩;by_cases hj:j>i;.rw[aj hj,aj hj];exact⟨_,rfl⟩
 rw[ah hj,ah hj];exact⟨_,rfl⟩
end
structure Jd(h:f9)(x dx C:aH)(mA:cJ->Option aI):Prop where
 obj:h.get? x=some (iw C dx)
 ns:h.Ns1 dx mA
 ne:dx≠x
theorem Me{h:f9}{dx:aH}{mA:cJ->Option aI}(n:h.Ns1 dx mA):∃od,h.get? dx=some od/\∀name,rz name od=some (mA name):=by
 obtain⟨o,es,ep,ho,hd,hk,_,hm⟩:=n;refine⟨o,ho,λname=>?_⟩;have e:=hm name;unfold nsFind findBy at e;rw[<-Array.find?_toList]at e;unfold rz;rw[hd];dsimp only;split;.rename_i y q;rw[q]at e;exact aK some e
 rename_i q;rw[q]at e;have a:es.toList.any (·.refKey)=false:=by rw[List.any_eq_false];intro y hy;obtain⟨z,t,TV⟩:=hk y (Array.mem_toList_iff.mp hy);simp[DictEntry.refKey,TV]
 have a':¬es.toList.any (·.refKey)=true:=by rw[a];exact bN
 rw[ah a'];exact aK some e
theorem Jd.look(I:Jd h x dx C mA):∃od,PySem.W.InstAt h x (iw C dx) C (some od)/\∀name,rz name od=some (mA name):=
  let ⟨od,ho,hl⟩:=Me I.ns
  ⟨od,⟨I.obj,rfl,rfl,ho⟩,hl⟩
section
variable {prog:cI}{w:eU}{A:jQ}{E:aI->aU->Prop}{s:aU}{K:ai}{x dx C f:aH}{mA:cJ->Option aI}{name:cJ}{v:aI}
theorem get_map{Q:aI->aU->Prop}(X:K.In s.heap)(I:Jd s.heap x dx C mA)(hg:pA K C name=true)(hh:uz K C=true)(ha:gW K (.ref C) name=some none)(hv:mA name=some v)(Zs:Jr v=true)(h:Q v {s with toks:=s.toks+1}):wpAny (b7 prog w) A (getAttr (.ref x) name expr) Q E s:=by obtain⟨od,J,hl⟩:=I.look;exact PySem.W.get_value X J (sC hg).1 (PySem.W.findObj_own hh ha rfl (by rw[hl,hv])) Zs h
theorem Qu{Q:aI×List aI->aU->Prop}(X:K.In s.heap)(I:Jd s.heap x dx C mA)(hg:pA K C name=true)(hf:gW K (.ref C) name=some (some (.ref f)))(ht:uy K (.ref f)=true)(hv:mA name=none)(h:Q (.ref f,[.ref x]) s):wpAny (b7 prog w) A (Le (.ref x) name pl) Q E s:=by obtain⟨od,J,hl⟩:=I.look;exact PySem.W.method_fn X J (sC hg).1 (sC hg).2 hf (beq_iff_eq.mp ht) (by show(rz name od).map (·.isSome)=some false;rw[hl,hv];rfl) h
theorem Sv{Q:Unit->aU->Prop}(X:K.In s.heap)(I:Jd s.heap x dx C mA)(hs:gW K (.ref C) "__setattr__"=some (some (.builtin "object.__setattr__")))(hp:G8 K C=true)(ht:wP K C name=some none)(hh:uz K C=true)(hw:D8 mA ns)(hsz:ns.length<=bn)(h:∀h',Jd h' x dx C (λy=>if y=name then some v else mA y)->wc dx s.heap h'->Q () {s with heap:=h',toks:=s.toks+2}):wpAny (b7 prog w) A (setAttr (.ref x) name v) Q E s:=by obtain⟨od,J,hl⟩:=I.look;refine PySem.W.set_plain X J hs (PySem.W.osa_open (s:={s with toks:=s.toks+1}) (r:=none) X J hp ht λb=>?_);obtain⟨cd,hc,hd'⟩:=PySem.W.any_some hh;have hx:=I.obj;refine bv (cM (bv (bv (wpAny_loadPart hx (bv (PySem.W.Looks.here (s:={s with toks:=s.toks+1}) (PySem.W.looks_clsIn X hc) ?_))))));rw[hd'];refine cM (a:=some dx) (bv (cM (bv ?_)));refine wpAny_nsSet1 (s:={s with toks:=s.toks+1}) I.ns λh' hn2 hs2=>?_;obtain⟨oD,esD,epD,Vu,hdD,hcD⟩:=hn2.count (D8.cons name v hw);refine bv (wpAny_lookBehind Vu (by rw[hdD];exact pastItsLine_dict (br hcD (by rw[a7];omega))) ?_);exact cM (h _ ⟨(hs2.2 _ (lC I.ne)).trans I.obj,hn2,I.ne⟩ hs2)
theorem Pu{R:Result->aU->Prop}(X:K.In s.heap)(hm:Li K C=true)(hi:gW K (.ref C) "__init__"=some (some (.ref f)))(hf:PySem.W.typeIn K (.ref f)=some (.type "function"))(h:codeAny (b7 prog w) (A.under (.builtin "type.__call__" ⟨.ref C::vs,kw⟩)) (.call (.ref f) ⟨.ref (s.heap.objs.size+1)::vs,kw⟩) (PySem.W.InitBack (s.heap.objs.size+1) R) {s with heap:=(s.heap.push fA).push (iw C s.heap.objs.size)}):codeAny (b7 prog w) A (.call (.ref C) ⟨vs,kw⟩) R s:=by obtain⟨hh,g,d,t,os⟩:=s;exact PySem.W.make_core (PySem.W.makes_of X hm) (PySem.W.looks_findIn X hi) (λself=>PySem.W.bind_fn X self hf) (.inl rfl) h
end
noncomputable def o5(f:cJ)(v:V):List (cJ×V)->List (cJ×V)
 |[]=>[(f,v)]
 |(g,x)::r=>if g=f then(g,v)::r else(g,x)::o5 f v r
theorem j0(f g:cJ)(v:V):∀fs,(o5 f v fs).lookup g=if g=f then some v else fs.lookup g
 |[]=>by show lE g [(f,v)]=_;by_cases h:g=f;(·have hb:=beq_iff_eq.mpr h;simp only[lE,hb,aj h]);have hb:=beq_eq_false_iff_ne.mpr h;simp only[lE,hb,ah h]
 |(k,x)::r=>by have ih:=j0 f g v r;rw[show o5 f v ((k,x)::r)=(if k=f then(k,v)::r else(k,x)::o5 f v r)from rfl];by_cases hk:k=f;(·rw[aj hk];by_cases h:g=k;(·have hb:=beq_iff_eq.mpr h;simp only[lE,hb,aj (h.trans hk)]);have hb:=beq_eq_false_iff_ne.mpr h;simp only[lE,hb,ah (λe:g=f=>h (e.trans hk.symm))]);rw[ah hk];by_cases h:g=k;(·have hb:=beq_iff_eq.mpr h;simp only[lE,hb,ah (λe:g=f=>hk (h.symm.trans e))]);have hb:=beq_eq_false_iff_ne.mpr h;simp only[lE,hb];exact ih
theorem ww(f:cJ)(v:V):∀fs,f∈(o5 f v fs).map (·.1)/\∀g,g∈fs.map (·.1)->g∈(o5 f v fs).map (·.1)
 |[]=>⟨by simp[o5],λg h=>by simp at h⟩
 |(k,x)::r=>by obtain⟨i1,i2⟩:=ww f v r;rw[show o5 f v ((k,x)::r)=(if k=f then(k,v)::r else(k,x)::o5 f v r)from rfl];by_cases hk:k=f;(·rw[aj hk];subst hk;exact⟨by simp,λg h=>by simpa using h⟩);rw[ah hk];refine⟨?_,λg h=>?_⟩;(·rw[aR];exact al _ i1);rw[aR]at h ⊢;rcases bi.mp h with e|e;(·exact bi.mpr (.inl e));exact al _ (i2 g e)
theorem xg(f:cJ)(v:V):∀fs,(o5 f v fs).length<=fs.length+1
 |[]=>by simp[o5]
 |(k,x)::r=>by have ih:=xg f v r;rw[show o5 f v ((k,x)::r)=(if k=f then(k,v)::r else(k,x)::o5 f v r)from rfl];by_cases hk:k=f;(·rw[aj hk,a7,a7];omega);rw[ah hk,a7,a7];omega
theorem tF.some_of{v:V}(r:tF (some v) o):∃u,o=some u/\eM v u:=by
 cases o with
  |none=>exact(show False from r).elim
  |some u=>exact⟨u,rfl,r⟩
theorem tF.none_of(r:tF none o):o=none:=by
 cases o with
  |none=>rfl
  |some u=>exact(show False from r).elim
theorem Mz{v:V}(r:eM v u):Jr u=true:=by
 cases v with
  |jk=>cases(show u=uu from r);rfl
  |bl b=>cases(show u=Ao b from r);rfl
  |int i=>obtain⟨t,e⟩:=(show ∃t,u=cH i t from r);cases e;rfl
  |str x=>obtain⟨t,e⟩:=(show ∃t,u=CB x t from r);cases e;rfl
  |Gg b=>obtain⟨t,e⟩:=(show ∃t,u=aI.bytes b t from r);cases e;rfl
  |flt b=>obtain⟨t,e⟩:=(show ∃t,u=aI.float b t from r);cases e;rfl
  |ref a=>cases(show u=ci a from r);rfl
  |ty n=>cases(show u=oo n from r);rfl
section
variable {P:cI}{w:eU}{H H':Hp}{h h':f9}{a C dx:aH}{fs fs':List (cJ×V)}
theorem Dr(fQ:sx P w H h)(e:H a=some (.ins C dx fs)):∃mA,Jd h a dx C mA/\(∀f,tF (fs.lookup f) (mA f))/\D8 mA (fs.map (·.1))/\fs.length<=1000/\H dx=some (.own a):=by obtain⟨d,z,ne,ob,mA,n,r,q⟩:=(show iq P w H h a (.ins C dx fs)from fQ a _ e);exact⟨mA,⟨ob,n,ne⟩,r,q,z,d⟩
end
structure NI(K:ai)(C:aH):Prop where
 pg:pA K C cJ.empty=true
 hd:uz K C=true
 po:G8 K C=true
 sa:gW K (.ref C) "__setattr__"=some (some (.builtin "object.__setattr__"))
theorem NI.get{K:ai}{C:aH}(c:NI K C)(f:cJ):pA K C f=true:=c.pg
def ph(K:ai)(C:aH)(f:cJ):Prop:=gW K (.ref C) f=some none
theorem ph.Z3{K:ai}{C:aH}{f:cJ}(n:ph K C f):wP K C f=some none:=by unfold wP;rw[show gW K (.ref C) f=some none from n];rfl
structure Meth(K:ai)(C:aH)(m:cJ)(f:aH):Prop where
 at_:gW K (.ref C) m=some (some (.ref f))
 fn:uy K (.ref f)=true
 kp:jO K (.ref f)=true
section
variable {X:Cx}{au:List (aH×kY)}{Z:St}{H:Hp}{s:aU}{a C dx:aH}{fs:List (cJ×V)}{f:cJ}{v:V}{A:jQ}{E:aI->aU->Prop}
theorem Iz{Q:aI->aU->Prop}(I:cG X au Z H s)(e:H a=some (.ins C dx fs))(c:NI X.K C)(n:ph X.K C f)(l:fs.lookup f=some v)(h:∀u s',cG X au Z H s'->eM v u->Q u s'):wpAny (b7 X.prog X.w) A (getAttr (.ref a) f b) Q E s:=by obtain⟨mA,O,r,_,_,_⟩:=Dr I.fQ e;obtain⟨u,hu,ru⟩:=tF.some_of (v:=v) (o:=mA f) (by rw[<-l];exact r f);exact get_map I.Ij O (c.get f) c.hd n hu (Mz ru) (h u _ (I.tok _) ru)
theorem zL{Q:aI×List aI->aU->Prop}(I:cG X au Z H s)(e:H a=some (.ins C dx fs))(c:NI X.K C)(k:Meth X.K C m g)(l:fs.lookup m=none)(h:Q (.ref g,[.ref a]) s):wpAny (b7 X.prog X.w) A (Le (.ref a) m pl) Q E s:=by obtain⟨mA,O,r,_,_,_⟩:=Dr I.fQ e;have hn:=tF.none_of (by rw[<-l];exact r m);exact Qu I.Ij O (c.get m) k.at_ k.fn hn h
theorem HK{y:V}{Q:Unit->aU->Prop}(I:cG X au Z H s)(e:H a=some (.ins C dx fs))(c:NI X.K C)(n:ph X.K C f)(hl:fs.length<1000)(ry:eM y u)(h:∀s',cG X au Z (cE H a (.ins C dx (o5 f y fs))) s'->Q () s'):wpAny (b7 X.prog X.w) A (setAttr (.ref a) f u) Q E s:=by
 obtain⟨mA,O,r,wi,_,ho⟩:=Dr I.fQ e;have hz:(fs.map (·.1)).length<=bn:=by rw[ab,qY];omega
 refine Sv I.Ij O c.sa c.po n.Z3 c.hd wi hz λh' O' sb=>h _ ?_;have hd:∃o,h'.get? dx=some o:=let ⟨o,_,_,e',_⟩:=O'.ns;⟨o,e'⟩;refine I.write (x:=a) (e:=dx) (by rw[e];exact qZ) (.inr ho) (λb q hb z=>(sb.2 b hb).trans z) hd ?_;refine⟨by rw[aM O.ne];exact ho,?_,O.ne,O'.obj,_,O'.ns,λg=>?_,λg hg=>?_⟩;.have:=xg f y fs;omega
 .show tF ((o5 f y fs).lookup g) (if g=f then some u else mA g);rw[j0];by_cases q:g=f;(·rw[aj q,aj q];exact ry);rw[ah q,ah q];exact r g
 by_cases q:g=f;.rw[q];exact(ww f y fs).1
 refine(ww f y fs).2 g (wi g λz=>hg ?_);show(if g=f then some u else mA g)=none;rw[ah q];exact z
theorem cG.made(I:cG X au Z H s):cG X au Z (cE (cE H s.heap.objs.size (.own (s.heap.objs.size+1))) (s.heap.objs.size+1) (.ins C s.heap.objs.size [])) {s with heap:=(s.heap.push fA).push (iw C s.heap.objs.size)}:=by
 have e1:(s.heap.push fA).get? s.heap.objs.size=some fA:=cD s.heap rfl;have e2:((s.heap.push fA).push (iw C s.heap.objs.size)).get? (s.heap.objs.size+1)=some (iw C s.heap.objs.size):=by have:=cD (s.heap.push fA) (o:=iw C s.heap.objs.size) rfl;rwa[eZ]at this
 have e3:(s.heap.push fA).Ns s.heap.objs.size (λ_=>none):=⟨fA,#[],_,e1,rfl,(λe he=>ap he (by simp)),λ_=>rfl⟩;have I1:=I.laid (a:=s.heap.objs.size) (o:=.own (s.heap.objs.size+1)) (h':=s.heap.push fA) (t':=s.toks) (λb u q=>bx _ q) (aw _) ⟨_,e1⟩;refine I1.laid (a:=s.heap.objs.size+1) (o:=.ins C s.heap.objs.size []) (t':=s.toks) (λb u q=>bx _ q) (wT (eZ _ _)) ?_;have ne:s.heap.objs.size≠s.heap.objs.size+1:=cN (kI _);refine⟨by rw[aM ne,am],bX _,ne,e2,λ_=>none,(f9.Ns1.of_empty e3).at λo q=>bx _ q,λ_=>qZ,λy hy=>ap rfl hy⟩
theorem Uv{Q:aI->aU->Prop}(hb:xB e f env (gG e env)=gG e env)(h:wpAny (b7 prog w) A (gG e env) (λo s₁=>wpAny (b7 prog w) A (getAttr o f true) Q E s₁) E s):wpAny (b7 prog w) A (gG (.Attribute e f pos) env) Q E s:=Attribute_any_ h (by rw[arm_eval_Attribute,hb])
end
def Z8(K:ai)(ta:TE)(f:cJ):TE:=λZ H Q=>ta Z H λx H1=>∃a C dx fs v,x=.ref a/\H1 a=some (.ins C dx fs)/\NI K C/\ph K C f/\fs.lookup f=some v/\Q v H1
def aav(K:ai)(ta tv:TE)(f:cJ):TS:=λD Z H=>tv Z H λy H1=>ta Z H1 λx H2=>∃a C dx fs,x=.ref a/\H2 a=some (.ins C dx fs)/\NI K C/\ph K C f/\fs.length<1000/\D.nx Z (cE H2 a (.ins C dx (o5 f y fs)))
section
variable {X:Cx}{o e value:gA}{f:cJ}{pos oB uK:Et}{ta tv:TE}
theorem m_(he:PE X e ta)(hb:xB e f X.env (gG e X.env)=gG e X.env):PE X (.Attribute e f pos) (Z8 X.K ta f):=by intro au s Z H Q I h;refine Uv hb (i4 (he au s Z H _ I h) λu s1 hq=>?_);obtain⟨x,H1,I1,rx,a,C,dx,fs,v,ex,ea,c,n,l,q⟩:=hq;subst ex;obtain rfl:u=ci a:=rx;exact Iz I1 ea c n l λu' s2 I2 ru=>⟨v,H1,I2,ru,q⟩
theorem wp(ha:PE X o ta)(hv:PE X value tv)(hs:nz value (some (.Attribute o f oB)) pos.line X.env=pure false):PS X (.Assign [.Attribute o f oB] value pos) (aav X.K ta tv f):=by intro au s Z H D I h;refine plainObj_wpAny_Assign_Attribute (i4 (hv au s Z H _ I h) λu s1 ⟨y,H1,I1,ry,q⟩=>i4 (ha au s1 Z H1 _ I1 q) λov s2 hq=>?_) hs;obtain⟨x,H2,I2,rx,a,C,dx,fs,ex,ea,c,n,l,q2⟩:=hq;subst ex;obtain rfl:ov=ci a:=rx;exact HK I2 ea c n l ry λs3 I3=>⟨Z,_,I3,q2⟩
end
structure j_(k:Nat)(A:jQ):Prop where
 hd:A.handled=none
 dp:A.depth+3*k+5<recursionLimit
 un:A.units+16*k+200<tW
theorem j_.mono(r:j_ k A)(h:j<=k):j_ j A:=⟨r.hd,by have:=r.dp;omega,by have:=r.un;omega⟩
theorem j_.deeper(r:j_ (k+1) A)(env:Nr):j_ k (A.deeper env):=⟨r.hd,by have:=r.dp;show A.depth+1+3*k+5<_;omega,by have:=r.un;show A.units+3+16*k+200<_;omega⟩
theorem j_.in1(r:j_ (k+1) A):j_ k A.in1:=⟨r.hd,by have:=r.dp;show A.depth+3*k+5<_;omega,by have:=r.un;show A.units+1+16*k+200<_;omega⟩
theorem Ic{A:jQ}{C:aH}{us:List aI}{kw:List (cJ×aI)}:(A.under (.builtin "type.__call__" ⟨.ref C::us,kw⟩)).depth=A.depth+1:=by first|rfl|simp[CN,Code.weight,Code.isCreation,Code.isGuard,Code.isCaller,Code.frames,ED,guardIds]
theorem Ib{A:jQ}{C:aH}{us:List aI}{kw:List (cJ×aI)}:(A.under (.builtin "type.__call__" ⟨.ref C::us,kw⟩)).units=A.units+1:=by first|rfl|simp[CN,Code.cUnits,Code.frames,ED]
theorem j_.make(r:j_ (k+1) A)(C:aH)(us:List aI)(kw:List (cJ×aI)):j_ k (A.under (.builtin "type.__call__" ⟨.ref C::us,kw⟩)):=⟨r.hd,by have:=r.dp;rw[Ic];omega,by have:=r.un;rw[Ib];omega⟩
theorem j_.depth(r:j_ k A):A.depth<recursionLimit:=by have:=r.dp;omega
theorem j_.units(r:j_ k A):A.units+64<tW:=by have:=r.un;omega
def xG:TA:=λ_ H Q=>Q [] H
def pO(ta:TE)(tr:TA):TA:=λZ H Q=>ta Z H λx H1=>tr Z H1 λxs H2=>Q (x::xs) H2
section
variable {X:Cx}{e:gA}{es:List gA}{te:TE}{t:TA}{pos:Et}
theorem lH:PA X [] xG:=λ_ _ _ _ H Q I h=>vT ⟨[],H,I,.nil,h⟩
theorem cf(ha:PE X e te)(hr:PA X es t)(hs:b8 (e::es) X.env=(false,gG e X.env)::b8 es X.env:=by rfl):PA X (e::es) (pO te t):=by intro pos au s Z H Q I h;rw[hs];show wpAny _ _ (spliced ((false,gG e X.env)::lX pos (b8 es X.env))) _ _ s;refine uD (i4 (ha au s Z H _ I h) λu s1 hq=>?_);obtain⟨x,H1,I1,r1,q1⟩:=hq;exact i4 (hr pos au s1 Z H1 _ I1 q1) λus s2 ⟨xs,H2,I2,r2,q2⟩=>⟨x::xs,H2,I2,.cons r1 r2,q2⟩
def Z4(t:TA):TE:=λZ H Q=>t Z H λxs H1=>xs.length<=bn/\∀p,H1 p=none->Q (.ref p) (cE H1 p (.tup xs))
def Z5(t:TA):TE:=λZ H Q=>t Z H λxs H1=>xs.length<=bn/\∀p,H1 p=none->Q (.ref p) (cE H1 p (.lst xs))
theorem zk{x1}(h:PA X es t):PE X (.Tuple es x1 pos) (Z4 t):=by intro au s Z H Q I hq;refine wpAny_Tuple_spliced (i4 (h pos au s Z H _ I hq) λus s1 ⟨xs,H1,I1,r,z,q⟩=>⟨by rw[<-r.length];exact z,?_⟩);have hf:=I1.fQ.fresh (aw _);refine⟨.ref s1.heap.objs.size,cE H1 s1.heap.objs.size (.tup xs),I1.laid (t':=s1.toks) (λb u e=>bx _ e) (aw _) ?_,rfl,q _ hf⟩;exact⟨z,us,r,⟨_,cD _ rfl,rfl,_,rfl⟩⟩
theorem db(h:PA X es t):PE X (.List es pos) (Z5 t):=by intro au s Z H Q I hq;refine wpAny_List_spliced (i4 (h pos au s Z H _ I hq) λus s1 ⟨xs,H1,I1,r,z,q⟩=>⟨by rw[<-r.length];exact z,?_⟩);have hf:=I1.fQ.fresh (aw _);refine⟨.ref s1.heap.objs.size,cE H1 s1.heap.objs.size (.lst xs),I1.laid (t':=s1.toks) (λb u e=>bx _ e) (aw _) ?_,rfl,q _ hf⟩;exact⟨z,us,0,r,cD _ rfl⟩
end
noncomputable abbrev Sp:=List V->Hp->VK->XK->Prop
noncomputable abbrev Rt:=List Nr->Hp->aU->XK->aI->aU->Prop
structure Be(P:cI)(w:eU)(K:ai)(mg:cJ->Option aI)(base:f9)(A:jQ)(outer:List Nr)(s:aU)(H:Hp):Prop where
 frames:A.frames=some outer
 mod:Mod K mg base
 bs:∀b o,base.get? b=some o->s.heap.get? b=some o/\H b=none
 RX:base.objs.size<=s.heap.objs.size
 wC:s.heap.FunFrames base outer
 VI:∀b∈frs outer,H b=none
 fQ:sx P w H s.heap
 bare:Aw s.gens
def CE(outer:List Nr)(P:cI)(w:eU)(H:Hp)(s:aU)(Q:VK)(u:aI)(s':aU):Prop:=∃v H',s'.os=s.os/\Aw s'.gens/\Un (frs outer) [] H H' s.heap s'.heap/\sx P w H' s'.heap/\eM v u/\Q v H'
def CR(CX:Rt)(outer:List Nr)(P:cI)(w:eU)(H:Hp)(s:aU)(Q:VK)(E:XK)(r:Result)(s':aU):Prop:=match r with
  |.ok (.ret u)=>CE outer P w H s Q u s'
  |.ok _=>False
  |.error e=>CX outer H s E e s'
structure dm(P:cI)(w:eU)(K:ai)(mg:cJ->Option aI)(base:f9)(CX:Rt)(k:Nat)(f:aH)(fd:fY)(ps:List cJ)(sp:Sp):Prop where
 len:∀vs H Q E,sp vs H Q E->vs.length=ps.length
 run:∀(A:jQ) (outer:List Nr) (s:aU) (H:Hp) (args:Args) (us:List aI) (vs:List V) (Q:VK) (E:XK),j_ k A->Be P w K mg base A outer s H->Nv s fd args (ps.zip us)->dk vs us->sp vs H Q E->
  codeAny (b7 P w) A (.call (.ref f) args) (CR CX outer P w H s Q E) s
theorem dm.imp{P:cI}{w:eU}{K:ai}{mg:cJ->Option aI}{base:f9}{CX:Rt}{k:Nat}{f:aH}{fd:fY}{ps:List cJ}{sp sp':Sp}(F:dm P w K mg base CX k f fd ps sp)(h:∀vs H Q E,sp' vs H Q E->sp vs H Q E):dm P w K mg base CX k f fd ps sp':=⟨λvs H Q E q=>F.len vs H Q E (h _ _ _ _ q),λA outer s H args us vs Q E hr he hb hv hs=>F.run A outer s H args us vs Q E hr he hb hv (h _ _ _ _ hs)⟩
theorem Be.make{P:cI}{w:eU}{K:ai}{mg:cJ->Option aI}{base:f9}{A:jQ}{outer:List Nr}{s:aU}{H:Hp}(e:Be P w K mg base A outer s H)(C:aH)(us:List aI)(kw:List (cJ×aI)):Be P w K mg base (A.under (.builtin "type.__call__" ⟨.ref C::us,kw⟩)) outer s H:=⟨by first|exact e.frames|(simpa[CN,Code.envs,ED,pushEnvs]using e.frames),e.mod,e.bs,e.RX,e.wC,e.VI,e.fQ,e.bare⟩
theorem Be.in1{P:cI}{w:eU}{K:ai}{mg:cJ->Option aI}{base:f9}{A:jQ}{outer:List Nr}{s:aU}{H:Hp}(e:Be P w K mg base A outer s H):Be P w K mg base A.in1 outer s H:=⟨e.frames,e.mod,e.bs,e.RX,e.wC,e.VI,e.fQ,e.bare⟩
section
variable {X:Cx}{au:List (aH×kY)}{Z:St}{H:Hp}{s s':aU}
theorem cG.YL(I:cG X au Z H s):Be X.prog X.w X.K X.mg X.base X.A X.stack s H:=⟨I.ok.frames,I.ok.mod,I.bs,br I.ok.RX I.sz,I.stack,I.JR,I.fQ,I.bare⟩
theorem cG.after(I:cG X au Z H s)(h:CE X.stack X.prog X.w H s Q u s'):EP X au Z Q u s':=by obtain⟨v,H',os,bare,un,fQ,r,q⟩:=h;obtain⟨hh,g,d,t,os'⟩:=s';obtain rfl:os'=s.os:=os;exact⟨v,H',I.call (h':=hh) (g':=g) (d':=d) (t':=t) (ch:=[]) un fQ bare (λb z=>ap z (by simp)),r,q⟩
end
def EO(sp:Sp)(Cj:List V)(E:XK)(t:TA):TE:=λZ H Q=>t Z H λvs H1=>sp (vs++Cj) H1 Q E
def Od(C:aH)(m:cJ)(sp:Sp)(Cj:List V)(E:XK)(ta:TE)(t:TA):TE:=λZ H Q=>ta Z H λx H1=>∃a dx fs,x=.ref a/\H1 a=some (.ins C dx fs)/\fs.lookup m=none/\t Z H1 λvs H2=>sp (x::(vs++Cj)) H2 Q E
def UX(C:aH)(sp:Sp)(Cj:List V)(E:XK)(t:TA):TE:=λZ H Q=>t Z H λvs H1=>∀x dx,H1 x=none->H1 dx=none->dx≠x->sp (.ref x::(vs++Cj)) (cE (cE H1 dx (.own x)) x (.ins C dx [])) (λv H2=>v=.jk/\Q (.ref x) H2) E
def gF(K:ai)(fd:fY)(ps:List cJ)(ds:List aI):Prop:=∀(s:aU) (us:List aI),K.In s.heap->(us++ds).length=ps.length->Nv s fd ⟨us,[]⟩ (ps.zip (us++ds))
theorem gF.all{K:ai}{fd:fY}{ps:List cJ}(h:∀us,us.length=ps.length->bindArgs fd ⟨us,[]⟩=pure (ps.zip us)):gF K fd ps []:=λs us _ hl=>by rw[eN]at hl ⊢;exact .of_eq (h us hl)
def Passes(CX:Rt)(X:Cx)(E:XK):Prop:=∀(au:List (aH×kY)) (Z:St) (H:Hp) (s:aU) (e:aI) (s':aU),cG X au Z H s->CX X.stack H s E e s'->X.xe e s'
section
variable {X:Cx}{CX:Rt}{k:Nat}{f C:aH}{fd:fY}{ps:List cJ}{sp:Sp}{Cj:List V}{ds:List aI}{E:XK}{x m:cJ}{p pos xP:Et}{e o:gA}{es:List gA}{ta:TE}{t:TA}
theorem HL{vs:List V}(F:dm X.prog X.w X.K X.mg X.base CX k f fd ps sp)(hr:j_ k X.A)(hb:gF X.K fd ps ds)(hd:dk Cj ds)(hx:Passes CX X E)(I:cG X au Z H s)(r:dk vs us)(h:sp (vs++Cj) H Q E):wpAny (b7 X.prog X.w) X.A (call (.ref f) us) (EP X au Z Q) X.xe s:=by
 have r2:=r.append hd;have hl:(us++ds).length=ps.length:=by rw[<-r2.length];exact F.len _ _ _ _ h
 refine UG (tG (F.run X.A X.stack s H ⟨us,[]⟩ (us++ds) (vs++Cj) Q E hr I.YL (hb s us I.Ij hl) r2 h) λr s' hq=>?_);cases r with
  |error e=>exact hx au Z H s e s' I hq
  |ok fl=>
   cases fl with
    |ret u=>exact I.after hq
    |next=>exact dY hq
    |brk=>exact dY hq
    |cont=>exact dY hq
theorem SK(F:dm X.prog X.w X.K X.mg X.base CX k f fd ps sp)(hr:j_ k X.A)(hg:Gl X x)(hm:X.mg x=some (.ref f))(hk:jO X.K (.ref f)=true)(hb:gF X.K fd ps ds)(hd:dk Cj ds)(hx:Passes CX X E)(ha:PA X (e::es) t)(GW:(x==("__debug__":cJ))=false:=by decide)(he:b8 (e::es) X.env=(false,gG e X.env)::b8 es X.env:=by rfl)(hpl:(lX pos (b8 es X.env)).any (·.1)=false:=by rfl):PE X (.Call (.Name x p) (e::es) [] pos) (EO sp Cj E t):=by intro au s Z H Q I h;refine iO (yq I hg hm ?_ GW);refine GC (h₀:=X.base) I.ok.mod.kin hk (i4 (ha pos au s Z H _ I h) λus s1 ⟨vs,H1,I1,r,q⟩=>⟨I1.Ij,?_⟩) he hpl;exact HL F hr hb hd hx I1 r q
theorem uS(he:PE X o ta)(c:NI X.K C)(hm:Meth X.K C m f)(F:dm X.prog X.w X.K X.mg X.base CX k f fd ps sp)(hr:j_ k X.A)(hb:gF X.K fd ps ds)(hd:dk Cj ds)(hx:Passes CX X E)(ha:PA X (e::es) t)(i5:b8 (e::es) X.env=(false,gG e X.env)::b8 es X.env:=by rfl)(hpl:(lX pos (b8 es X.env)).any (·.1)=false:=by rfl)(ht:gG (.Call (.Attribute o m xP) (e::es) [] pos) X.env=(do
  let ov <-gG o X.env
  standAt xP.atName
  let (f,first) <-Am [ov] (Le ov m pl)
  callWith pos f first (lX pos (b8 (e::es) X.env)) (RB pos (CA [] X.env))):=by rfl):
 PE X (.Call (.Attribute o m xP) (e::es) [] pos) (Od C m sp Cj E ta t):=by intro au s Z H Q I h;refine CG (pl:=pl) (i4 (he au s Z H _ I h) λu s1 hq=>?_) ht;obtain⟨x,H1,I1,rx,a,dx,fs,ex,ea,l,q⟩:=hq;subst ex;obtain rfl:u=ci a:=rx;refine zL I1 ea c hm l ?_;refine GC (first:=[.ref a]) (h₀:=X.base) I.ok.mod.kin hm.kp (i4 (ha pos au s1 Z H1 _ I1 q) λus s2 ⟨vs,H2,I2,r,q2⟩=>⟨I2.Ij,?_⟩) i5 hpl;exact HL (us:=.ref a::us) (vs:=.ref a::vs) F hr hb hd hx I2 (.cons rfl r) q2
theorem E_(he:PE X o ta)(c:NI X.K C)(hm:Meth X.K C m f)(F:dm X.prog X.w X.K X.mg X.base CX k f fd ps sp)(hr:j_ k X.A)(hb:gF X.K fd ps ds)(hd:dk Cj ds)(hx:Passes CX X E)(ht:gG (.Call (.Attribute o m xP) [] [] pos) X.env=(do
  let ov <-gG o X.env
  standAt xP.atName
  let (f,first) <-Am [ov] (Le ov m pl)
  callWith pos f first (lX pos (b8 [] X.env)) (RB pos (CA [] X.env))):=by rfl):
 PE X (.Call (.Attribute o m xP) [] [] pos) (Od C m sp Cj E ta xG):=by intro au s Z H Q I h;refine CG (pl:=pl) (i4 (he au s Z H _ I h) λu s1 hq=>?_) ht;obtain⟨x,H1,I1,rx,a,dx,fs,ex,ea,l,q⟩:=hq;subst ex;obtain rfl:u=ci a:=rx;refine zL I1 ea c hm l ?_;exact Eo (first:=[.ref a]) I1.Ij hm.kp (HL (us:=[.ref a]) (vs:=[.ref a]) F hr hb hd hx I1 (.cons rfl .nil) q)
structure Mk(K:ai)(C f:aH):Prop where
 makes:Li K C=true
 init:gW K (.ref C) "__init__"=some (some (.ref f))
 fn:uy K (.ref f)=true
 kp:jO K (.ref C)=true
theorem OH{vs:List V}(M:Mk X.K C f)(F:dm X.prog X.w X.K X.mg X.base CX k f fd ps sp)(hr:j_ (k+1) X.A)(hb:gF X.K fd ps ds)(hd:dk Cj ds)(hx:Passes CX X E)(I:cG X au Z H s)(r:dk vs us)(h:∀x dx,H x=none->H dx=none->dx≠x->sp (.ref x::(vs++Cj)) (cE (cE H dx (.own x)) x (.ins C dx [])) (λv H2=>v=.jk/\Q (.ref x) H2) E):wpAny (b7 X.prog X.w) X.A (call (.ref C) us) (EP X au Z Q) X.xe s:=by
 have hq:=h (s.heap.objs.size+1) s.heap.objs.size (I.fQ.fresh (Jw _)) (I.fQ.fresh (aw _)) (cN (kI _));have I2:=cG.made (C:=C) I;have r2:dk (V.ref (s.heap.objs.size+1)::(vs++Cj)) (ci (s.heap.objs.size+1)::(us++ds)):=.cons rfl (r.append hd);have hl:(ci (s.heap.objs.size+1)::us++ds).length=ps.length:=by have e:=r2.length;rw[F.len _ _ _ _ hq]at e;exact e.symm
 refine UG (Pu (f:=f) I.Ij M.makes M.init (beq_iff_eq.mp M.fn) (tG (F.run _ X.stack _ _ ⟨ci (s.heap.objs.size+1)::us,[]⟩ (ci (s.heap.objs.size+1)::(us++ds)) _ _ E (hr.make C us []) (I2.YL.make C us []) (hb _ (ci (s.heap.objs.size+1)::us) I2.Ij hl) r2 hq) λr s' Kw=>?_));cases r with
  |error e=>exact hx au Z _ _ e s' I2 Kw
  |ok fl=>
   cases fl with
    |ret u=>obtain⟨v,H',I3,rv,ev,q3⟩:=I2.after Kw;subst ev;exact⟨rv,⟨V.ref (s.heap.objs.size+1),H',I3,rfl,q3⟩⟩
    |next=>exact dY Kw
    |brk=>exact dY Kw
    |cont=>exact dY Kw
theorem O0(M:Mk X.K C f)(F:dm X.prog X.w X.K X.mg X.base CX k f fd ps sp)(hr:j_ (k+1) X.A)(hg:Gl X x)(hm:X.mg x=some (.ref C))(hb:gF X.K fd ps ds)(hd:dk Cj ds)(hx:Passes CX X E)(GW:(x==("__debug__":cJ))=false:=by decide):PE X (.Call (.Name x p) [] [] pos) (UX C sp Cj E xG):=by intro au s Z H Q I h;refine iO (yq I hg hm ?_ GW);exact Eo I.Ij M.kp (OH (us:=[]) M F hr hb hd hx I .nil h)
end
structure mF(N P:List cJ)(sc:oU):Prop where
 kind:sc.kind=.function
 co:sc.isCoroutine=false
 gen:sc.isGenerator=false
 nd:N.Nodup
 pre:N.take P.length=P
 par:∀x∈P,sc.names.lookup x=some .local\/sc.names.lookup x=some .cell
 Xw:∀y∈sc.names,y.2≠.free
theorem Cr{kindOf:cJ->Option jC}{x:cJ}:∀{binds:List (cJ×aI)} {m:cJ->Option aI},(∀v,(x,v)∉binds)->Lg kindOf binds m x=m x
 |[],_,_=>rfl
 |(n,v)::r,m,h=>by unfold Lg;rw[Cr λw hw=>h w (al _ hw)];split;(·(have:x≠n:=by rintro rfl;exact h v aq);simp[this]);rfl
theorem Ct{kindOf:cJ->Option jC}{x:cJ}:∀{binds:List (cJ×aI)} {m:cJ->Option aI},(∀v,(x,v)∉binds)->Lh kindOf binds m x=m x
 |[],_,_=>rfl
 |(n,v)::r,m,h=>by unfold Lh;rw[Ct λw hw=>h w (al _ hw)];split;(·rfl);(have:x≠n:=by rintro rfl;exact h v aq);simp[this]
theorem Cs{kindOf:cJ->Option jC}{x:cJ}{v:aI}:∀{P:List cJ} {vs:List aI} {i:Nat} {m:cJ->Option aI},P.Nodup->P[i]?=some x->vs[i]?=some v->kindOf x=some .local->Lg kindOf (P.zip vs) m x=some v
 |[],_,_,_,_,h,_,_=>by simp at h
 |_::_,[],_,_,_,_,h,_=>by simp at h
 |p::P,w::vs,0,m,nd,h1,h2,hk=>by simp at h1 h2;subst h1;subst h2;show Lg kindOf ((p,w)::P.zip vs) m p=_;unfold Lg;rw[Cr λv hv=>(bO.mp nd).1 (yG hv).1,aj hk];simp
 |p::P,w::vs,i+1,m,nd,h1,h2,hk=>by show Lg kindOf ((p,w)::P.zip vs) m x=_;unfold Lg;exact Cs (i:=i) (bO.mp nd).2 (by simpa using h1) (by simpa using h2) hk
theorem Cu{kindOf:cJ->Option jC}{x:cJ}{v:aI}:∀{P:List cJ} {vs:List aI} {i:Nat} {m:cJ->Option aI},P.Nodup->P[i]?=some x->vs[i]?=some v->kindOf x≠some .local->Lh kindOf (P.zip vs) m x=some v
 |[],_,_,_,_,h,_,_=>by simp at h
 |_::_,[],_,_,_,_,h,_=>by simp at h
 |p::P,w::vs,0,m,nd,h1,h2,hk=>by simp at h1 h2;subst h1;subst h2;show Lh kindOf ((p,w)::P.zip vs) m p=_;unfold Lh;rw[Ct λv hv=>(bO.mp nd).1 (yG hv).1,ah hk];simp
 |p::P,w::vs,i+1,m,nd,h1,h2,hk=>by show Lh kindOf ((p,w)::P.zip vs) m x=_;unfold Lh;exact Cu (i:=i) (bO.mp nd).2 (by simpa using h1) (by simpa using h2) hk
noncomputable def start(N:List cJ)(vs:List V):St:=vs.map some++aQ (N.length-vs.length) none
noncomputable def DI(CX:Rt)(P:cI)(w:eU)(K:ai)(mg:cJ->Option aI)(base:f9)(N:List cJ)(jj:cJ)(scope:oU)(f:aH)(cd:aI)(A:jQ)(outer:List Nr)(s:aU)(H:Hp)(E:XK):Cx where
 prog:=P
 w:=w
 K:=K
 mg:=mg
 base:=base
 A:=A.deeper (vP jj scope s.heap.objs.size f cd)
 N:=N
 BE:=s
 RZ:=H
 env:=vP jj scope s.heap.objs.size f cd
 outer:=outer
 stack:=vP jj scope s.heap.objs.size f cd::outer
 ex:=[]
 calm:=true
 fn:=λ_=>true
 pn:=[]
 xe:=λe s'=>wpAny (b7 P w) (A.deeper (vP jj scope s.heap.objs.size f cd)) (leaving (vP jj scope s.heap.objs.size f cd) e) (λ_ Zg=>CX outer H s E e Zg) (λe' Zg=>CX outer H s E e' Zg) s'
theorem Ge{sc:oU}{n:Nat}{x:cJ}(h:sc.names.lookup x=some .cell):∃c,(eW n sc.names []).lookup x=some c:=by have q:=Bg sc.names n [] (.inl h);exact Option.isSome_iff_exists.mp q
theorem Mi{CX:Rt}{P:cI}{w:eU}{K:ai}{mg:cJ->Option aI}{base:f9}{N ps:List cJ}{jj:cJ}{scope:oU}{f:aH}{cd:aI}{A:jQ}{outer:List Nr}{s s1:aU}{H:Hp}{E:XK}{us:List aI}{vs:List V}(S:mF N ps scope)(hd:A.handled=none)(e0:Be P w K mg base A outer s H)(hl:vs.length=ps.length)(r:dk vs us)(x:InCallC s s.heap.objs.size (Lg (vP jj scope s.heap.objs.size f cd).kindOf (ps.zip us) λ_=>none) (eW (s.heap.objs.size+1) scope.names []) (Lh (vP jj scope s.heap.objs.size f cd).kindOf (ps.zip us) λ_=>none) s1):cG (DI CX P w K mg base N jj scope f cd A outer s H E) [] (start N vs) H s1:=by
 have hpl:ps.length<=N.length:=by have:=aK fR S.pre;rw[da]at this;omega
 obtain⟨h1,tk,rfl,hk⟩:=x.done;have Zj:∀b,b∉(DI CX P w K mg base N jj scope f cd A outer s H E).ex:=λb z=>ap (show b∈([]:List aH)from z) (by simp);refine⟨⟨e0.mod,S.kind,rfl,rfl,aw _,λy z c h1 h2=>?_,λy hy=>?_,λy c _ h=>?_,λ_=>hd,jQ.frames_deeper e0.frames,.inr ⟨rfl,rfl⟩,λb z=>ap z (Zj b),e0.bs,e0.RX,λb _ _=>Zj b,λb z=>ap z (Zj b),e0.wC,e0.VI⟩,rfl,e0.bare,Un.kept hk,⟨_,x.toInCall.ns,λi y v h1 h2 h3=>?_⟩,λy c h=>⟨_,x.cell y c h⟩,e0.fQ.fresh (aw _),λy c h=>?_,λp hp=>ap (show p∈([]:List (aH×kY))from hp) (by simp),e0.fQ.kept hk,?_⟩;.exact name_of_addr x.apart (cB h1) (cB h2)
 .have hy:=hy;rcases hy with hy|hy;(·exact Ge hy);exact ap rfl (S.Xw _ (cB hy))
 .exact bV (x.above y c (cB h))
 ·(have hi:i<vs.length:=by unfold start at h2;by_cases hi:i<vs.length;(·exact hi);rw[bK (by simpa using hi)]at h2;rw[gz]at h2;split at h2<;>cases h2);have ha:vs[i]?=some v:=by
   unfold start at h2;rw[bA (by simpa using hi),aE]at h2;cases e:vs[i]? with
    |none=>rw[e]at h2;cases h2
    |some a=>rw[e]at h2;cases h2;rfl
  obtain⟨u,hu,rv⟩:=r.get ha;(have hp:ps[i]?=some y:=by rw[<-S.pre,List.getElem?_take_of_lt (by omega)];exact h1);(have ndP:ps.Nodup:=by rw[<-S.pre];exact S.nd.sublist (List.take_sublist _ _));refine⟨u,rv,?_⟩;rcases S.par y (a_ hp)with k|k;(·exact .inl ⟨k,Cs ndP hp hu k⟩);obtain⟨c,e⟩:=Ge (n:=s.heap.objs.size+1) k;refine .inr ⟨.inl k,c,e,?_⟩;have q:=x.cell y c e;rwa[Cu ndP hp hu (by show scope.names.lookup y≠_;rw[k];decide)]at q
 .exact e0.fQ.fresh (bV (x.above y c (cB h)))
 unfold start;show _=N.length;rw[bw,ab,fZ];omega
theorem acP{CX:Rt}{P:cI}{w:eU}{K:ai}{mg:cJ->Option aI}{base:f9}{k:Nat}{f:aH}{name jj:cJ}{params:Lq}{body:List rm}{scope:oU}{dV kV IK pm tO ct oc:aI}{an od:Option aH}{RK:Array (Option aI)}{N ps:List cJ}{sp:Sp}(lk:K.lookup f=some ⟨oc,od,.func (nh name jj params body scope dV kV IK pm an tO ct),RK⟩)(hcd:x6 K tO jj=true)(S:mF N ps scope)(len:∀vs H Q E,sp vs H Q E->vs.length=ps.length)(FP:∀A outer s H vs Q E,j_ k (A.deeper (vP jj scope s.heap.objs.size f tO))->sp vs H Q E->∃t,K_ (DI CX P w K mg base N jj scope f tO A outer s H E) body t/\t {nx:=λ_ H'=>Q .jk H',rt:=Q} (start N vs) H):dm P w K mg base CX (k+1) f (nh name jj params body scope dV kV IK pm an tO ct) ps sp:=by
 refine⟨len,λA outer s H args us vs Q E hr e0 hb r zG=>?_⟩;have hl:=len _ _ _ _ zG;have KX:=e0.mod.kin.keeps λb o e=>(e0.bs b o e).1;have lim:=e0.mod.nolimit.keeps λb o e=>(e0.bs b o e).1;have aca:∀y∈ps.zip us,scope.names.lookup y.1=some .local\/(scope.names.lookup y.1=some .cell/\((eW (s.heap.objs.size+1) scope.names []).lookup y.1).isSome=true):=λ⟨n,v⟩ hy=>by rcases S.par n (yG hy).1 with q|q;(·exact .inl q);exact .inr ⟨q,Bg _ _ _ (.inl q)⟩
 refine codeAny_call_function hr.depth (KX _ _ lk) rfl S.co S.gen rfl (PySem.W.codeRec_of KX hcd) (hb _ _ _ _ ?_);refine wpAny_newFunctionEnv_cells S.kind aca λenv he s1 x=>?_;subst he;refine⟨lim.keeps x.toInCall.keep,codeAny_func ?_⟩;obtain⟨t,ht,hq⟩:=FP A outer s H vs Q E (hr.deeper _) zG;have I:cG (DI CX P w K mg base N jj scope f tO A outer s H E) [] (start N vs) H s1:=Mi S hr.hd e0 hl r x;refine gw (ht [] s1 (start N vs) H _ I hq) (λfl s' hs=>?_) λe s' hs=>hs;have fin:∀{Z':St} {H':Hp} {v:V} {u:aI},cG (DI CX P w K mg base N jj scope f tO A outer s H E) [] Z' H' s'->eM v u->Q v H'->CE outer P w H s Q u s':=λ{Z' H' v u} J rv q=>⟨v,H',J.os,J.bare,J.base,J.fQ,rv,q⟩;cases fl with
  |ret u=>obtain⟨v,Z',H',J,rv,q⟩:=hs;exact fin J rv q
  |next=>obtain⟨Z',H',J,q⟩:=hs;exact fin (v:=V.jk) (u:=uu) J rfl q
  |brk=>obtain⟨_,_,_,q⟩:=hs;exact dY q
  |cont=>obtain⟨_,_,_,q⟩:=hs;exact dY q
section
variable {X:Cx}{x:cJ}{p pos:Et}{e:gA}{es:List gA}{t:TA}{id T:String}{r:List V->Hp->VK->Prop}
def tCB(r:List V->Hp->VK->Prop)(t:TA):TE:=λZ H Q=>t Z H λvs H1=>r vs H1 Q
theorem jY(hc:qV X (.builtin id) r)(hg:Gl X x)(hm:X.mg x=none)(hv:pk x=some (.builtin id))(ha:PA X (e::es) t)(hn:x≠"__name__":=by decide)(GW:(x==("__debug__":cJ))=false:=by decide)(he:b8 (e::es) X.env=(false,gG e X.env)::b8 es X.env:=by rfl)(hpl:(lX pos (b8 es X.env)).any (·.1)=false:=by rfl):PE X (.Call (.Name x p) (e::es) [] pos) (tCB r t):=by intro au s Z H Q I h;refine iO (qC I hg hm hv ?_ hn GW);exact PyProof.Rows.callWith_builtin1 (i4 (ha pos au s Z H _ I h) λus s1 ⟨vs,H1,I1,r1,q1⟩=>hc au s1 Z H1 vs us Q I1 r1 q1) he hpl
theorem wt(hc:qV X (.type T) r)(hg:Gl X x)(hm:X.mg x=none)(hv:pk x=some (.type T))(ha:PA X (e::es) t)(hn:x≠"__name__":=by decide)(GW:(x==("__debug__":cJ))=false:=by decide)(he:b8 (e::es) X.env=(false,gG e X.env)::b8 es X.env:=by rfl)(hpl:(lX pos (b8 es X.env)).any (·.1)=false:=by rfl):PE X (.Call (.Name x p) (e::es) [] pos) (tCB r t):=by intro au s Z H Q I h;refine iO (qC I hg hm hv ?_ hn GW);exact d_ (i4 (ha pos au s Z H _ I h) λus s1 ⟨vs,H1,I1,r1,q1⟩=>hc au s1 Z H1 vs us Q I1 r1 q1) he hpl
end
end L2
namespace HT
open PySem PyProof.Rows
section
variable {prog:cI}{w:eU}{A:jQ}{E:aI->aU->Prop}{s:aU}
noncomputable def AQ(n d:Nat):Option Int->Nat
 |none=>d
 |some v=>if v<0 then(v+(n:Int)).toNat else min v.toNat n
theorem y_(n d:Nat):AQ n d none=d:=rfl
theorem uN(n d k:Nat):AQ n d (some (k:Int))=min k n:=by show(if(k:Int)<0 then((k:Int)+(n:Int)).toNat else min (k:Int).toNat n)=min k n;rw[ah (by omega),dM]
end
end HT
namespace L2
open PySem PySem.Spec PyProof.Rows
noncomputable abbrev TO:=St->Hp->(Option Int->Hp->Prop)->Prop
def PO(X:Cx)(e:Option gA)(t:TO):Prop:=∀(au:List (aH×kY)) (s:aU) (Z:St) (H:Hp) (Q:Option Int->Hp->Prop),cG X au Z H s->t Z H Q->wpAny (b7 X.prog X.w) X.A (evalPart e X.env) (λu s'=>∃o H',cG X au Z H' s'/\IsPart u o/\Q o H') X.xe s
noncomputable def JM:TO:=λ_ H Q=>Q none H
noncomputable def UU(t:TE):TO:=λZ H Q=>t Z H λx H1=>∃i,x=.int i/\Q (some i) H1
section
variable {X:Cx}{e:gA}{te:TE}{lo hi:Option gA}{tl th:TO}{pos p2:Et}
theorem yn:PO X none JM:=by intro au s Z H Q I h;rw[Jo];exact cM ⟨none,H,I,.none,h⟩
theorem sJ(h:PE X e te):PO X (some e) (UU te):=by intro au s Z H Q I hw;rw[evalPart_some];refine i4 (h au s Z H _ I hw) λu s1 hq=>?_;obtain⟨x,H1,I1,r1,q1⟩:=hq;obtain⟨i,rfl,q⟩:=q1;obtain⟨t,rfl⟩:=r1;exact⟨some i,H1,I1,.int i t,q⟩
def SlR(X:Cx)(r:V->Option Int->Option Int->Hp->VK->Prop):Prop:=∀(au:List (aH×kY)) (s:aU) (Z:St) (H:Hp) (x:V) (v vl vu:aI) (lo hi:Option Int) (sl:aH) (Q:VK),cG X au Z H s->eM x v->s.heap.IsSliceOf sl vl vu .none->IsPart vl lo->IsPart vu hi->r x lo hi H Q->∃T id,typeLookup (.type T) "__getitem__"=pure (some (.builtin id))/\s.TypeIs v T/\wpAny (b7 X.prog X.w) X.A (An v (.ref sl)) (EP X au Z Q) X.xe s
def tSl(r:V->Option Int->Option Int->Hp->VK->Prop)(te:TE)(tl th:TO):TE:=λZ H Q=>te Z H λx H1=>tl Z H1 λl H2=>th Z H2 λu H3=>r x l u H3 Q
theorem rW{r:V->Option Int->Option Int->Hp->VK->Prop}(hr:SlR X r)(he:PE X e te)(hl:PO X lo tl)(hu:PO X hi th):PE X (.Subscript e (.Slice lo hi none p2) pos) (tSl r te tl th):=by intro au s Z H Q I h;refine Gz (i4 (he au s Z H _ I h) λv s1 hq=>?_);obtain⟨x,H1,I1,r1,q1⟩:=hq;refine wpAny_Slice (i4 (hl au s1 Z H1 _ I1 q1) λvl s2 ⟨l,H2,I2,pl,q2⟩=>i4 (hu au s2 Z H2 _ I2 q2) λvu s3 hq=>?_);obtain⟨u,H3,I3,pu,q3⟩:=hq;rw[Jo];refine cM ?_;have I4:cG X au Z H3 {s3 with heap:=s3.heap.push {cls:=.type "slice",data:=.fields #[vl,vu,.none]}}:=I3.kept (t':=s3.toks) λb ob q=>bx _ q;obtain⟨T,id,hT,ht,hg⟩:=hr au {s3 with heap:=s3.heap.push {cls:=.type "slice",data:=.fields #[vl,vu,.none]}} Z H3 x v vl vu l u s3.heap.objs.size Q I4 r1 (yK ..) pl pu q3;show wpAny (b7 X.prog X.w) X.A (Jn e (.Slice lo hi none p2) v (.ref s3.heap.objs.size)) (EP X au Z Q) X.xe {s3 with heap:=s3.heap.push {cls:=.type "slice",data:=.fields #[vl,vu,.none]}};exact tail_any (ops:=[.ref s3.heap.objs.size,v]) ht hT hg (by with_unfolding_all rfl)
noncomputable def ur(xs:List V)(lo hi:Option Int):List V:=(xs.drop (HT.AQ xs.length 0 lo)).take (HT.AQ xs.length xs.length hi-HT.AQ xs.length 0 lo)
theorem FZ(xs:List V)(lo hi:Option Int):(ur xs lo hi).length<=xs.length:=by unfold ur;rw[da,ei];omega
end
noncomputable def Mh(n:Nat)(i:Int):Option Nat:=if 0<=i then(if i<n then some i.toNat else none)else if-(n:Int)<=i then some (i+n).toNat else none
noncomputable def DT{α:Type}(xs:List α)(i:Int):Option α:=(Mh xs.length i).bind λj=>xs[j]?
theorem Ko(h:Mh n i=some j):seqIndex? i n=some j/\j<n/\-(n:Int)<=i/\i<n:=by
 unfold Mh at h;by_cases h0:0<=i;.rw[aj h0]at h;by_cases h1:i<n;(·rw[aj h1]at h;have e:=aZ h;exact⟨by rw[Cz h0 h1,e],by omega,by omega,h1⟩);rw[ah h1]at h;cases h
 rw[ah h0]at h;by_cases h1:-(n:Int)<=i;.rw[aj h1]at h;have e:=aZ h;exact⟨by rw[Ak (by omega) h1,e],by omega,h1,by omega⟩
 rw[ah h1]at h;cases h
theorem DS{α:Type}{xs:List α}{v:α}(h:DT xs i=some v):∃j,seqIndex? i xs.length=some j/\xs[j]?=some v/\j<xs.length/\-(xs.length:Int)<=i/\i<xs.length:=by
 unfold DT at h;cases e:Mh xs.length i with
  |none=>rw[e]at h;cases h
  |some j=>rw[e]at h;obtain⟨h1,h2,h3,h4⟩:=Ko e;exact⟨j,h1,h,h2,h3,h4⟩
theorem DR{α:Type}{xs:List α}{j:Nat}{v:α}(h:xs[j]?=some v):DT xs (j:Int)=some v:=by
 have hj:=(ax.mp h).1;have e:Mh xs.length (j:Int)=some j:=by unfold Mh;rw[aj (by omega),aj (by omega)];simp
 unfold DT;rw[e];exact h
theorem Gm{α:Type}(xs:List α)(v:α):DT (xs++[v]) (-1)=some v:=by
 have hl:(xs++[v]).length=xs.length+1:=by simp
 have e:Mh (xs++[v]).length (-1)=some xs.length:=by unfold Mh;rw[hl,ah ∅,aj (by omega)];congr 1;omega
 unfold DT;rw[e];show(xs++[v])[xs.length]?=some v;simp
def DZ(b:gA):Prop:=∀o i,Cy b false o i=operate [o,i] (An o i)
def IxR(X:Cx)(r:R2):Prop:=∀(value slice:gA) (au:List (aH×kY)) (s:aU) (Z:St) (H:Hp) (x y:V) (v u:aI) (Q:VK),cG X au Z H s->eM x v->eM y u->r x y H Q->Cy slice false v u=operate [v,u] (An v u)->wpAny (b7 X.prog X.w) X.A (Jn value slice v u) (EP X au Z Q) X.xe s
def MtR(X:Cx)(id:String)(r:V->List V->Hp->VK->Prop):Prop:=∀(au:List (aH×kY)) (s:aU) (Z:St) (H:Hp) (x:V) (xs:List V) (v:aI) (us:List aI) (Q:VK),cG X au Z H s->eM x v->dk xs us->r x xs H Q->wpAny (b7 X.prog X.w) X.A (call (.builtin id) (v::us)) (EP X au Z Q) X.xe s
section
variable {X:Cx}{a b:gA}{ta tb:TE}{pos:Et}
theorem Vi(hr:IxR X r)(ha:PE X a ta)(hb:PE X b tb)(hs:DZ b):PE X (.Subscript a b pos) (UV r ta tb):=by intro au s Z H Q I h;exact Gz (Y1 ha hb I h λv u s2 x y H2 I2 rx ry q=>hr a b au s2 Z H2 x y v u Q I2 rx ry q (hs _ _))
def E4(K:ai):R2:=λx y H Q=>∃p xs i v,x=.ref p/\y=.int i/\cu K H p xs/\DT xs i=some v/\Q v H
def LS(K:ai):R2:=λx y H Q=>∃p xs i v,x=.ref p/\y=.int i/\Ad K H p xs/\DT xs i=some v/\Q v H
theorem Tv:IxR X (E4 X.K):=by
 intro value slice au s Z H x y v u Q I rx ry h hs;obtain⟨p,xs,i,z,rfl,rfl,hq,he,q⟩:=h;cases rx;obtain⟨t,rfl⟩:=ry;obtain⟨its,r,pl,hz⟩:=I.list hq;obtain⟨j,h1,h2,h3,h4,h5⟩:=DS he;obtain⟨w,ew,LQ⟩:=r.get h2;have hl:=r.length;have hn:=zC;have fin:EP X au Z Q w s:=⟨z,H,I,LQ,q⟩;by_cases h0:0<=i;·(have hj:i.toNat=j:=by rw[Cz h0 h5]at h1;exact aZ h1);exact item_listR pl.isList h0 (by omega) (by rw[hj];simpa using ew) fin hs
 have hj:(i+(its.toArray.size:Int)).toNat=j:=by rw[Ak (by omega) h4]at h1;rw[bc,<-hl];exact aZ h1
 exact Nf (x:=w) pl.isList.typeIs Aj.lookup (Nd (Q:=λr s'=>r=w/\EP X au Z Q r s') pl.isList (by omega) (by rw[bc]<;>omega) (by omega) (by rw[hj];simpa using ew) ⟨rfl,fin⟩) hs
theorem XJ:IxR X (LS X.K):=by intro value slice au s Z H x y v u Q I rx ry h hs;obtain⟨p,xs,i,z,rfl,rfl,hq,he,q⟩:=h;cases rx;obtain⟨t,rfl⟩:=ry;obtain⟨its,r,pl,hz⟩:=I.tuple hq;obtain⟨j,h1,h2,h3,h4,h5⟩:=DS he;obtain⟨w,ew,LQ⟩:=r.get h2;have hl:=r.length;have hn:=zC;have fin:EP X au Z Q w s:=⟨z,H,I,LQ,q⟩;exact Nf (x:=w) pl.typeIs slot_tuple_getitem.lookup (getItem_tuple (j:=j) (Q:=λr s'=>r=w/\EP X au Z Q r s') pl (by omega) (by omega) (by rw[bc,<-hl];exact h1) (by simpa using ew) ⟨rfl,fin⟩) hs
theorem Ia(its:List aI)(n j:Nat)(u:aI):fK (·.setIfInBounds j u) {cls:=.type "list",data:=.seq its.toArray n}={cls:=.type "list",data:=.seq (its.set j u).toArray n}:=by simp[fK]
theorem cG.lst{xs:List V}(I:cG X au Z H s)(h:H p=some (.lst xs)):∃its n,dk xs its/\s.heap.get? p=some {cls:=.type "list",data:=.seq its.toArray n}/\xs.length<=bn:=by obtain⟨z,its,n,r,e⟩:=I.fQ p _ h;exact⟨its,n,r,e,z⟩
theorem cG.XA{au:List (aH×kY)}{Z:St}{H:Hp}{s:aU}{p:aH}{xs ys:List V}{its its':List aI}{n n':Nat}{f:kY->kY}(I:cG X au Z H s)(h:H p=some (.lst xs))(ho:s.heap.get? p=some {cls:=.type "list",data:=.seq its.toArray n})(hf:f {cls:=.type "list",data:=.seq its.toArray n}={cls:=.type "list",data:=.seq its'.toArray n'})(r:dk ys its')(hz:ys.length<=bn)(t:Nat):cG X au Z (cE H p (.lst ys)) {s with heap:=s.heap.update p f,toks:=t}:=by
 have e:(s.heap.update p f).get? p=some {cls:=.type "list",data:=.seq its'.toArray n'}:=by rw[f9.get?_update_self f ho (by rw[hf]<;>rfl),hf]
 refine I.write (x:=p) (e:=p) (by rw[h];trivial) (.inl rfl) (λb u hb q=>(EC _ _ (lC hb)).trans q) ⟨_,e⟩ ?_;exact⟨hz,its',n',r,e⟩
noncomputable def J1:V->V->V->Hp->(Hp->Prop)->Prop:=λo i v H Q=>∃p xs k j,o=.ref p/\i=.int k/\H p=some (.lst xs)/\Mh xs.length k=some j/\Q (cE H p (.lst (xs.set j v)))
theorem set_list:Za X J1:=by
 intro au s Z H o i v ov iv u Q I ro ri rv h;obtain⟨p,xs,k,j,rfl,rfl,hp,hj,q⟩:=h;cases ro;obtain⟨t,rfl⟩:=ri;obtain⟨its,n,r,ho,hz⟩:=I.lst hp;obtain⟨h1,h2,h3,h4⟩:=Ko hj;have hl:=r.length;have hn:=zC;have I':cG X au Z (cE H p (.lst (xs.set j v))) {s with heap:=s.heap.update p (fK (·.setIfInBounds j u))}:=I.XA hp ho (Ia its n j u) (r.set rv j) (by rw[ee];exact hz) s.toks;by_cases h0:0<=k;·(have hk:k.toNat=j:=by rw[Cz h0 h4]at h1;exact aZ h1);exact PySem.W.ki_setAt ho h0 (by omega) (by rw[bc,<-hl];exact h4) (by rw[hk];exact⟨_,I',q⟩)
 have hk:(k+(its.toArray.size:Int)).toNat=j:=by rw[Ak (by omega) h3]at h1;rw[bc,<-hl];exact aZ h1
 exact PySem.W.ki_setBack ho (by omega) (by rw[bc,<-hl];exact h3) (by omega) (by rw[hk];exact⟨_,I',q⟩)
theorem C3(lo hi:Option Int)(n:Nat):(on lo hi none n).1=((HT.AQ n 0 lo:Nat):Int)/\(on lo hi none n).2.1=((HT.AQ n n hi:Nat):Int)/\(on lo hi none n).2.2=1:=by
 refine⟨?_,?_,rfl⟩
 .cases lo with
   |none=>simp[on,HT.AQ]
   |some i=>simp only[on,HT.AQ,Lj,show(1:Int)>0 by decide,if_true];by_cases h:i<0;(·simp only[h,if_true]<;>omega);simp only[h,if_false]<;>omega
 cases hi with
  |none=>simp[on,HT.AQ]
  |some i=>simp only[on,HT.AQ,Lj,show(1:Int)>0 by decide,if_true];by_cases h:i<0;(·simp only[h,if_true]<;>omega);simp only[h,if_false]<;>omega
theorem AO(its:List aI)(lo hi:Option Int):slicePick its.toArray lo hi none=((its.drop (HT.AQ its.length 0 lo)).take (HT.AQ its.length its.length hi-HT.AQ its.length 0 lo)).toArray:=by obtain⟨h1,h2,h3⟩:=C3 lo hi its.toArray.size;unfold slicePick;rw[h1,h2,h3];simp only[sliceRange_one,pick_run,bc]<;>rfl
noncomputable def OM(K:ai):V->Option Int->Option Int->Hp->VK->Prop:=λx lo hi H Q=>∃a xs,x=.ref a/\cu K H a xs/\∀p,H p=none->Q (.ref p) (cE H p (.lst (ur xs lo hi)))
theorem Sr:SlR X (OM X.K):=by intro au s Z H x v vl vu lo hi sl Q I rx hs pl pu h;obtain⟨a,xs,rfl,hx,q⟩:=h;cases rx;obtain⟨its,r,ht,hz⟩:=I.list hx;have hlen:=r.length;refine⟨"list",_,Aj.lookup,ht.isList.typeIs,?_⟩;refine Jm ht.isList hs pl pu .none (by simp) ?_ (by rw[bc]<;>omega);rw[AO,<-hlen];refine⟨.ref s.heap.objs.size,_,I.laid (t':=s.toks) (o:=.lst (ur xs lo hi)) (λb ob q=>bx _ q) (aw _) ?_,rfl,q _ (I.fQ.fresh (aw _))⟩;exact⟨br (FZ xs lo hi) hz,_,0,(r.drop (HT.AQ xs.length 0 lo)).take (HT.AQ xs.length xs.length hi-HT.AQ xs.length 0 lo),cD _ rfl⟩
noncomputable def vm:V->Bool
 |.jk=>true
 |.bl _=>true
 |.int _=>true
 |.str _=>true
 |_=>false
noncomputable def VO:V->V->Bool
 |.jk,.jk=>true
 |.bl a,.bl b=>a==b
 |.bl a,.int b=>(if a then 1 else 0)==b
 |.int a,.bl b=>a==(if b then 1 else 0)
 |.int a,.int b=>a==b
 |.str a,.str b=>a==b
 |_,_=>false
theorem YK{y x:V}(ry:eM y u)(rx:eM x v)(fy:vm y=true)(fx:vm x=true):uv A s u v (VO y x):=by
 cases y with
  |jk=>
   cases ry;cases x with
    |jk=>cases rx;exact GA _
    |bl b=>cases rx;exact uv.none_bool b
    |int b=>obtain⟨t,rfl⟩:=rx;exact uv.none_int b t
    |str b=>obtain⟨t,rfl⟩:=rx;exact uv.none_str b t
    |_=>exact ap (show false=true from fx) bN
  |bl a=>
   cases ry;cases x with
    |jk=>cases rx;exact uv.bool_none a
    |bl b=>cases rx;exact uv.bool_bool a b
    |int b=>obtain⟨t,rfl⟩:=rx;exact uv.bool_int a b t
    |str b=>obtain⟨t,rfl⟩:=rx;exact uv.bool_str a b t
    |_=>exact ap (show false=true from fx) bN
  |int a=>
   obtain⟨t',rfl⟩:=ry;cases x with
    |jk=>cases rx;exact uv.int_none a t'
    |bl b=>cases rx;exact uv.int_bool a t' b
    |int b=>obtain⟨t,rfl⟩:=rx;exact CF a t' b t
    |str b=>obtain⟨t,rfl⟩:=rx;exact CD a t' b t
    |_=>exact ap (show false=true from fx) bN
  |str a=>
   obtain⟨t',rfl⟩:=ry;cases x with
    |jk=>cases rx;exact uv.str_none a t'
    |bl b=>cases rx;exact uv.str_bool a t' b
    |int b=>obtain⟨t,rfl⟩:=rx;exact CC a t' b t
    |str b=>obtain⟨t,rfl⟩:=rx;exact uv.str_str a t' b t
    |_=>exact ap (show false=true from fx) bN
  |_=>exact ap (show false=true from fy) bN
noncomputable def IH(x:V)(u:aI):Bool:=match u with
 |.none=>VO .jk x
 |.bool b=>VO (.bl b) x
 |.int i _=>VO (.int i) x
 |.str z _=>VO (.str z) x
 |_=>false
theorem QL{x y:V}(r:eM y u)(f:vm y=true):IH x u=VO y x:=by
 cases y with
  |jk=>cases r;rfl
  |bl b=>cases r;rfl
  |int i=>obtain⟨t,rfl⟩:=r;rfl
  |str z=>obtain⟨t,rfl⟩:=r;rfl
  |_=>exact ap (show false=true from f) bN
theorem yC{x:V}:∀{xs:List V} {us:List aI},dk xs us->xs.all vm=true->us.any (IH x)=xs.any λy=>VO y x:=by
 intro xs us h;induction h with
  |nil=>intro;rfl
  |cons r t ih=>intro f;rw[UP,cR]at f;rw[kZ,kZ,QL r f.1,ih f.2]
theorem r_{x:V}(rx:eM x v)(fx:vm x=true):∀{xs:List V} {us:List aI},dk xs us->xs.all vm=true->∀u∈us,uv A s u v (IH x u)
 |_,_,.nil,_=>λu hu=>by cases hu
 |y::xs,u::us,.cons r t,f=>λu' hu=>by rw[UP,cR]at f;rcases bi.mp hu with rfl|hu;(·rw[QL r f.1];exact YK r rx f.1 fx);exact r_ rx fx t f.2 u' hu
noncomputable def Vn(x:V)(xs:List V):Bool:=xs.any λy=>VO y x
def rIn(K:ai)(neg:Bool):R2:=λx y H Q=>∃p xs,y=.ref p/\(cu K H p xs\/Ad K H p xs)/\vm x=true/\xs.all vm=true/\Q (.bl (if neg then !Vn x xs else Vn x xs)) H
theorem L1:tQ X (gx .In) (rIn X.K false):=by
 intro au s Z H x y v u Q I rx ry h;obtain⟨p,xs,rfl,hq,fx,fs,q⟩:=h;cases ry;rcases hq with hq|hq;.obtain⟨its,r,pl,hz⟩:=I.list hq;refine SeqAt.in_listAt (IH x) pl.isList (λw hw=>r_ rx fx r fs w (by simpa using hw)) ⟨.bl _,H,I,rfl,?_⟩;rw[show its.toArray.any (IH x)=its.any (IH x) by simp,yC r fs];exact q
 obtain⟨its,r,pl,hz⟩:=I.tuple hq;refine SeqAt.in_tupleAt (IH x) pl (λw hw=>r_ rx fx r fs w (by simpa using hw)) ⟨.bl _,H,I,rfl,?_⟩;rw[show its.toArray.any (IH x)=its.any (IH x) by simp,yC r fs];exact q
theorem Dh:tQ X (gx .NotIn) (rIn X.K true):=by
 intro au s Z H x y v u Q I rx ry h;obtain⟨p,xs,rfl,hq,fx,fs,q⟩:=h;cases ry;rcases hq with hq|hq;.obtain⟨its,r,pl,hz⟩:=I.list hq;refine SeqAt.notIn_listAt (IH x) pl.isList (λw hw=>r_ rx fx r fs w (by simpa using hw)) ⟨.bl _,H,I,rfl,?_⟩;rw[show its.toArray.any (IH x)=its.any (IH x) by simp,yC r fs];exact q
 obtain⟨its,r,pl,hz⟩:=I.tuple hq;refine SeqAt.notIn_tupleAt (IH x) pl (λw hw=>r_ rx fx r fs w (by simpa using hw)) ⟨.bl _,H,I,rfl,?_⟩;rw[show its.toArray.any (IH x)=its.any (IH x) by simp,yC r fs];exact q
theorem DM:qV X (.builtin "len") (λxs H Q=>∃p ys,xs=[.ref p]/\(cu X.K H p ys\/Ad X.K H p ys)/\Q (.int ys.length) H):=by
 intro au s Z H xs us Q I r h;obtain⟨p,ys,rfl,hq,q⟩:=h;obtain⟨u,rfl,rx⟩:=vals1 r;cases rx;have hn:=zC;rcases hq with hq|hq;.obtain⟨its,r',pl,hz⟩:=I.list hq;have hlen:=r'.length;exact Calls.call_len_list pl.isList (by simp only[bc]<;>omega) ⟨.int ys.length,H,I.tok _,⟨s.toks+1,by rw[bc,hlen]⟩,q⟩
 obtain⟨its,r',pl,hz⟩:=I.tuple hq;have hlen:=r'.length;exact len_tuple pl (by simp only[bc]<;>omega) ⟨.int ys.length,H,I.tok _,⟨s.toks+1,by rw[bc,hlen]⟩,q⟩
theorem vE:qV X (.type "list") (λxs H Q=>∃p ys,xs=[.ref p]/\(cu X.K H p ys\/Ad X.K H p ys)/\∀l,H l=none->Q (.ref l) (cE H l (.lst ys))):=by
 intro au s Z H xs us Q I r h;obtain⟨p,ys,rfl,hq,q⟩:=h;obtain⟨u,rfl,rx⟩:=vals1 r;cases rx;have fin:∀its,dk ys its->ys.length<=bn->∀h' c',(∀b o',s.heap.get? b=some o'->h'.get? b=some o')->h'.get? s.heap.objs.size=some {cls:=.type "list",dict:=none,data:=.seq its.toArray c',slots:=#[]}->EP X au Z Q (.ref s.heap.objs.size) {s with heap:=h'}:=λits r' hz h' c' kp e=>⟨.ref s.heap.objs.size,_,I.laid (t':=s.toks) kp (aw _) (show iq X.prog X.w _ h' _ (.lst ys)from⟨hz,its,c',r',e⟩),rfl,q _ (I.fQ.fresh (aw _))⟩;rcases hq with hq|hq;.obtain⟨its,r',pl,hz⟩:=I.list hq;have hlen:=r'.length;obtain⟨o,ho,hc,n,hd⟩:=pl.isList;exact call_list_seq p (.inl rfl) ho hc hd (λh' c' kp e=>fin its r' hz h' c' kp e) (by simp only[bc]<;>omega)
 obtain⟨its,r',pl,hz⟩:=I.tuple hq;have hlen:=r'.length;obtain⟨o,ho,hc,n,hd⟩:=pl;exact call_list_seq p (.inr rfl) ho hc hd (λh' c' kp e=>fin its r' hz h' c' kp e) (by simp only[bc]<;>omega)
def tyV(K:ai)(T:String)(x:V)(H:Hp):Prop:=match x with
 |.str _=>T="str"
 |.int _=>T="int"
 |.ref p=>(T="list"/\∃xs,cu K H p xs)\/(T="tuple"/\∃o,K.lookup p=some o/\o.cls=.type "tuple"/\o.dict=none)\/(T="dict"/\((∃kvs,H p=some (.dK kvs))\/∃kvs,H p=some (.dT kvs)))\/(T="set"/\∃S n,H p=some (.set S n))
 |_=>False
theorem V2{x:V}(I:cG X au Z H s)(r:eM x v)(ty:tyV X.K T x H):s.TypeIs v T/\∀a,v=.ref a->∃ob,s.heap.get? a=some ob/\ob.dict=none:=by
 cases x with
  |str z=>obtain⟨t,rfl⟩:=r;cases(show T="str" from ty);exact⟨typeIs_str s z t,λ_ e=>nomatch e⟩
  |int i=>obtain⟨t,rfl⟩:=r;cases(show T="int" from ty);exact⟨UI s i t,λ_ e=>nomatch e⟩
  |ref p=>cases r;rcases ty with⟨rfl,xs,hq⟩|⟨rfl,o,hk,hc,hd⟩|⟨rfl,hk⟩|⟨rfl,S,n,hk⟩;(·obtain⟨its,_,pl,_⟩:=I.list hq;refine⟨pl.isList.typeIs,λa e=>?_⟩;cases e;obtain⟨o,n,e,c,hd,_⟩:=pl;exact⟨o,e,hd⟩);(·refine⟨⟨o,I.Ij p o hk,hc⟩,λa e=>?_⟩;cases e;exact⟨o,I.Ij _ o hk,hd⟩);(·(have z:∃o,s.heap.get? p=some o/\o.ExactDict:=by rcases hk with⟨kvs,hk⟩|⟨kvs,hk⟩;(·obtain⟨_,_,_,_,o,_,_,e,ex,_⟩:=I.fQ p _ hk;exact⟨o,e,ex⟩);obtain⟨_,_,_,_,o,_,_,e,ex,_⟩:=I.fQ p _ hk;exact⟨o,e,ex⟩);obtain⟨o,e,ex⟩:=z;refine⟨⟨o,e,ex.1⟩,λa e2=>?_⟩;cases e2;exact⟨o,e,ex.2.1⟩);obtain⟨o,_,_,_,e,ex,_⟩:=I.fQ p _ hk;refine⟨⟨o,e,ex.1⟩,λa e2=>?_⟩;cases e2;exact⟨o,e,ex.2.1⟩
  |_=>exact dY ty
def tBM(K:ai)(T:String)(r:V->List V->Hp->VK->Prop)(to:TE)(t:TA):TE:=λZ H Q=>to Z H λx H1=>tyV K T x H1/\t Z H1 λxs H2=>r x xs H2 Q
variable {o e:gA}{es:List gA}{to:TE}{t:TA}{name:cJ}{xP zZ:Et}{T id:String}{r:V->List V->Hp->VK->Prop}
theorem xa(pa:PlainAttrs T)(slot:Slot T name id)(hty:typeOf (.builtin id)=pure (.type "method_descriptor"))(hm:MtR X id r)(ho:PE X o to)(ha:PA X (e::es) t)(Ql:xB o name X.env (gG o X.env)=gG o X.env:=by rfl)(agg:((lX zZ (b8 (e::es) X.env)).all (λx=>!x.1)&&(RB zZ (CA [] X.env)).all (λx=>x.1.isSome)&&decide ((e::es).length+([]:List Keyword).length+(if([]:List Keyword).isEmpty then 0 else 1)<30))=true:=by rfl)(P8:(xP.endLine==zZ.line)=true:=by rfl)(hs:b8 (e::es) X.env=(false,gG e X.env)::b8 es X.env:=by rfl)(X4:(lX zZ (b8 es X.env)).any (·.1)=false:=by rfl):PE X (.Call (.Attribute o name xP) (e::es) [] zZ) (tBM X.K T r to t):=by intro au s Z H Q I h;refine wpAny_Call_method_late Ql agg P8 rfl (i4 (ho au s Z H _ I h) λv s1 hq=>?_);obtain⟨x,H1,I1,r1,ty,q1⟩:=hq;obtain⟨h1,h2⟩:=V2 I1 r1 ty;refine⟨T,id,pa,slot,hty,h1,h2,?_⟩;have hA:=ha zZ au s1 Z H1 _ I1 q1;rw[hs]at hA ⊢;refine Calls.callWith_builtin (by show(false||(lX zZ (b8 es X.env)).any (·.1))=false;rw[X4]<;>rfl) (Calls.evalArgs_plain ?_);exact i4 hA λus s2 ⟨vs,H2,I2,r2,q2⟩=>hm au s2 Z H2 x vs v us Q I2 r1 r2 q2
end
def MtM(X:Cx)(id:String)(r:V->List V->Hp->VK->Prop):Prop:=∀(au:List (aH×kY)) (s:aU) (Z:St) (H:Hp) (x:V) (xs:List V) (v:aI) (us:List aI) (Q:VK),cG X au Z H s->eM x v->dk xs us->r x xs H Q->wpAny (b7 X.prog X.w) X.A (call (.builtin id) (v::us)) (EP X au Z Q) X.xe s
theorem dk.one:∀{x:V} {us:List aI},dk [x] us->∃u,us=[u]/\eM x u:=by intro x us h;cases h with|cons r t=>cases t;exact⟨_,rfl,r⟩
theorem dk.rep{xs:List V}(h:dk xs us):∀k,dk (aQ k xs).flatten (aQ k us).flatten
 |0=>.nil
 |k+1=>by rw[dD,dD,eY,eY];exact dk.append h (dk.rep h k)
theorem foldl_rep(its:List aI):∀k acc,AF (λx1 x2=>x1++x2) acc.toArray (aQ k its.toArray)=(acc++(aQ k its).flatten).toArray
 |0,acc=>by simp
 |k+1,acc=>by(have e:acc.toArray++its.toArray=(acc++its).toArray:=by simp);(have e2:(acc++its)++(aQ k its).flatten=acc++(aQ (k+1) its).flatten:=by rw[dD,eY,iU]);rw[<-e2,<-foldl_rep its k (acc++its),<-e,dD,yH]
section
variable {X:Cx}{au:List (aH×kY)}{Z:St}{H:Hp}{s:aU}{l b:aH}{xs ys zs:List V}
theorem cG.Md{its its':List aI}{n:Nat}{f:Array aI->Array aI}{t':Nat}(I:cG X au Z H s)(hH:H l=some (.lst xs))(e:s.heap.get? l=some {cls:=.type "list",data:=.seq its.toArray n})(hf:f its.toArray=its'.toArray)(hv:dk ys its')(hz:ys.length<=bn):cG X au Z (cE H l (.lst ys)) {s with heap:=s.heap.update l (fK f),toks:=t'}:=by have q:=PySem.IsL.update e f;rw[hf]at q;refine I.write (x:=l) (e:=l) (by rw[hH];exact trivial) (.inl rfl) (λb' u hb hu=>(EC s.heap (fK f) (lC hb)).trans hu) ⟨_,q⟩ ?_;exact⟨hz,its',_,hv,q⟩
theorem cG.Tp(I:cG X au Z H s)(hv:dk ys its)(hz:ys.length<=bn):cG X au Z (cE H s.heap.objs.size (.lst ys)) {s with heap:=s.heap.push {cls:=.type "list",data:=.seq its.toArray},toks:=t'}:=I.laid (λ_ _ q=>bx _ q) (aw _) ⟨hz,its,0,hv,cD _ rfl⟩
theorem cG.fresh(I:cG X au Z H s):H s.heap.objs.size=none:=I.fQ.fresh (aw _)
theorem cG.uZ(I:cG X au Z H s)(hH:H l=some (.lst xs)):xs.length<=bn/\∃its n,dk xs its/\xs.length=its.length/\s.heap.get? l=some {cls:=.type "list",data:=.seq its.toArray n}:=by obtain⟨z,its,n,r,e⟩:=I.fQ l _ hH;exact⟨z,its,n,r,r.length,e⟩
theorem Fe{n:Nat}(h:n<=bn):jR n=false:=by unfold jR;exact decide_eq_false (by omega)
end
section
variable {X:Cx}
noncomputable def yi:V->List V->Hp->VK->Prop:=λx vs H Q=>∃l xs y,x=.ref l/\vs=[y]/\H l=some (.lst xs)/\xs.length<bn/\Q .jk (cE H l (.lst (xs++[y])))
theorem nN:MtM X "list.append" yi:=by intro au s Z H x vs v us Q I rx rv h;obtain⟨l,xs,y,rfl,rfl,hH,hz,q⟩:=h;cases rx;obtain⟨u,rfl,ru⟩:=rv.one;obtain⟨z,its,n,r,hl,e⟩:=I.uZ hH;refine xY F.slot_list_append ⟨_,e,rfl⟩ F.entry_list_append (F.args_list_append_2 _ _) (PySem.list_append l its.toArray n u (by rw[bc];omega)) ⟨e,?_⟩;refine⟨.jk,_,I.Md (its':=its++[u]) hH e (by simp) (r.append (.cons ru .nil)) ?_,rfl,q⟩;rw[bw,ck];omega
noncomputable def J2:V->List V->Hp->VK->Prop:=λx vs H Q=>∃l b xs zs,x=.ref l/\vs=[.ref b]/\H l=some (.lst xs)/\H b=some (.lst zs)/\xs.length+zs.length<=bn/\Q .jk (cE H l (.lst (xs++zs)))
theorem BV:MtM X "list.extend" J2:=by
 intro au s Z H x vs v us Q I rx rv h;obtain⟨l,b,xs,zs,rfl,rfl,hH,hB,hz,q⟩:=h;cases rx;obtain⟨u,rfl,ru⟩:=rv.one;cases ru;obtain⟨z,its,n,r,hl,e⟩:=I.uZ hH;obtain⟨z2,its2,n2,r2,hl2,e2⟩:=I.uZ hB;have hsz:its.toArray.size+its2.toArray.size<=bn:=by rw[bc,bc];omega
 have P6:¬(!its.toArray.isEmpty&&jR (its.toArray.size+its2.toArray.size))=true:=by rw[Fe hsz,Bool.and_false];exact bN
 refine xY F.slot_list_extend ⟨_,e,rfl⟩ F.entry_list_extend (F.args_list_extend_2 _ _) (AutoSeq1.list_extend_list_list_0 l its.toArray n b its2.toArray n2 P6 (by rw[bc];omega) (by omega)) ⟨e,e2,?_⟩;refine⟨.jk,_,I.Md (its':=its++its2) hH e (by simp) (r.append r2) ?_,rfl,q⟩;rw[bw];omega
def LU:R2:=λx y H Q=>∃l b xs zs,x=.ref l/\y=.ref b/\H l=some (.lst xs)/\H b=some (.lst zs)/\xs.length+zs.length<=bn/\∀p,H p=none->Q (.ref p) (cE H p (.lst (xs++zs)))
theorem W8:tQ X (mO .Add) LU:=by
 intro au s Z H x y v u Q I rx ry h;obtain⟨l,b,xs,zs,rfl,rfl,hH,hB,hz,q⟩:=h;cases rx;cases ry;obtain⟨z,its,n,r,hl,e⟩:=I.uZ hH;obtain⟨z2,its2,n2,r2,hl2,e2⟩:=I.uZ hB;refine PySem.P.add_list e e2 ?_ (by rw[bc,bc];omega);have ea:its.toArray++its2.toArray=(its++its2).toArray:=by simp
 rw[ea];exact⟨.ref _,_,I.Tp (t':=s.toks) (r.append r2) (by rw[bw];omega),rfl,q _ I.fresh⟩
def LR:R2:=λx y H Q=>∃l k xs,x=.ref l/\y=.int k/\H l=some (.lst xs)/\-(2^63)<=k/\k<2^63/\xs.length*k.toNat<=bn/\∀p,H p=none->Q (.ref p) (cE H p (.lst (aQ k.toNat xs).flatten))
theorem len_rep{α:Type}(xs:List α)(k:Nat):(aQ k xs).flatten.length=k*xs.length:=by
 induction k with
  |zero=>simp
  |succ k ih=>rw[dD,eY,bw,ih,jz,jB]
theorem W7:tQ X (mO .Mult) LR:=by
 intro au s Z H x y v u Q I rx ry h;obtain⟨l,k,xs,rfl,rfl,hH,h1,h2,hz,q⟩:=h;cases rx;obtain⟨t,rfl⟩:=ry;obtain⟨z,its,n,r,hl,e⟩:=I.uZ hH;have hlen:its.toArray.size*k.toNat<=bn:=by rw[bc,<-hl];exact hz
 have agx:¬its.toArray.size*k.toNat>(2^63-1)/8:=by(have:(bn:Nat)<=(2^63-1)/8:=by decide);omega
 have FJ:¬(!Builtin.List.listFitsIndex k)=true:=by rw[fitsIndex_both h1 h2];exact bN
 have P6:¬jR (its.toArray.size*k.toNat)=true:=by rw[Fe hlen];exact bN
 have afH:AF (λx1 x2=>x1++x2) #[] (aQ (if its.toArray.isEmpty=true then 0 else k.toNat) its.toArray)=(aQ k.toNat its).flatten.toArray:=by
  (have f0:∀m,AF (λx1 x2=>x1++x2) #[] (aQ m its.toArray)=(aQ m its).flatten.toArray:=λm=>by have:=foldl_rep its m [];rwa[gE]at this);rw[f0];cases its with
   |nil=>simp
   |cons a r'=>rw[ah (by simp)]
 refine wpAny_binaryOp_repeat_ref (T:="list") (U:="int") ∅ ⟨_,e,rfl⟩ (λs'=>UI s' k t) noFill_list_mul F.fills_int_mul F.slot_int_rmul repeat_list F.slot_int_index.lookup (xY F.slot_int_rmul (UI s k t) F.entry_int_rmul (F.args_int_rmul_2 _ _) (int___rmul___int_list k t l its.toArray n) ⟨e,rfl,⟨_,e,rfl⟩,xY F.slot_list_mul ⟨_,e,rfl⟩ F.entry_list_mul (F.args_list_mul_2 _ _) (AutoListH.list___mul___list_int_3 l its.toArray n k t FJ agx P6) ⟨e,?_⟩⟩);rw[afH];exact⟨.ref _,_,I.Tp (t':=s.toks) (r.rep k.toNat) (by rw[len_rep,du];exact hz),rfl,q _ I.fresh⟩
end
theorem dk.ints:∀{ns:List Int} {us:List aI},dk (ns.map V.int) us->wb us ns
 |[],us,h=>by rw[cK]at h;cases h;exact wb.nil
 |n::ns,us,h=>by
  rw[aR]at h;cases h with
   |cons r t=>obtain⟨k,rfl⟩:=r;exact wb.cons n k (dk.ints t)
theorem dk.Wn(r:dk [V.ref a] us):us=[ci a]:=by
 cases r with
  |cons r t=>cases t;cases r;rfl
section
variable {prog:cI}{w:eU}{A:jQ}{E:aI->aU->Prop}{s:aU}{l:aH}{its:List aI}{ns:List Int}{Q:aI->aU->Prop}
theorem Si(hh:A.handled=none)(hl:s.heap.IsList l its.toArray)(hi:wb its ns)(h:∀h' tk t',(∀b o,s.heap.get? b=some o->h'.get? b=some o)->Q (.int ns.sum t') {s with heap:=h',toks:=tk}):wpAny (b7 prog w) A (call (.builtin "sum") [.ref l]) Q E s:=by
 obtain⟨xs,e⟩:=hi.allInts.items;have hn:numsOf (intItems xs).toList=ns:=by rw[<-e];exact hi.numsOf
 rw[nums_intItems]at hn;rw[e]at hl;refine PySem.sum_intListG hh hl λh' tk t' hk=>?_;have:=h h' tk t' hk;rw[preSum_eq,lT (by simp),hn];exact this
end
section
variable {X:Cx}
noncomputable def aaz(K:ai):List V->Hp->VK->Prop:=λvs H Q=>∃(a:aH) (ns:List Int),vs=[V.ref a]/\cu K H a (ns.map V.int)/\Q (.int ns.sum) H
theorem YW(hc:X.calm=true):qV X (.builtin "sum") (aaz X.K):=by intro au s Z H vs us Q I r h;obtain⟨a,ns,rfl,hs,q⟩:=h;obtain⟨its,rv,hl,_⟩:=I.list hs;rw[dk.Wn r];exact Si (I.ok.hd hc) hl.isList rv.ints λh' tk t' hk=>⟨.int _,H,I.kept hk,⟨_,rfl⟩,q⟩
end
theorem PH{E:aI->aU->Prop}{Q:aI->aU->Prop}(hl:s.heap.IsList l items)(h:∀s₂,s₂={s with heap:=s.heap.push {cls:=.type "list_iterator",data:=.fields #[.ref l,.int 0 0]}}->(s₂.heap.IsListIter s.heap.objs.size l 0/\s₂.heap.IsList l items)->l≠s.heap.objs.size->Q (.ref s.heap.objs.size) s₂):wpAny (b7 prog w) A (UJ (.ref l)) Q E s:=by
 have hlt:l<s.heap.objs.size:=by obtain⟨_,e,_⟩:=hl;exact bG e
 exact wpAny_pyIter_list hl (h _ rfl ⟨⟨_,cD _ rfl,rfl,rfl⟩,hl.push _⟩ (cN hlt))
theorem any_range:∀bs:List Bool,(aX bs.length).any (λi=>bs.getD i false)=bs.any id
 |[]=>rfl
 |b::bs=>by rw[a7,List.range_succ_eq_map,kZ,Ey,kZ,<-any_range bs];all_goals rfl
abbrev Ro(h:f9)(c:aH)(v:Option aI):Prop:=h.IsCell c v
noncomputable def aeg(scope sc:oU):oU:={scope with names:=scope.names.map λ(n,k)=>if(k==.free&&sc.kind==.function&&sc.names.lookup n==some .cell)then(n,.cell)else(n,k)}
noncomputable def gh(cells:List (cJ×aH)):List (cJ×jC)->List (cJ×aH)->List (cJ×aH)
 |[],acc=>acc
 |(n,k)::r,acc=>if k==.free then gh cells r ((n,(cells.lookup n).getD 0)::acc)else gh cells r acc
theorem vB(env:Nr)(f:cJ×jC->List (cJ×aH)->Sem (ForInStep (List (cJ×aH))))(hf:∀n k c,f (n,k) c=if k==.free then(do let a <-cellOf env n;pure (.yield ((n,a)::c)))else pure (.yield c)):∀names acc,(∀y∈names,y.2=.free->∃c,env.cells.lookup y.1=some c)->forIn names acc f=pure (gh env.cells names acc)
 |[],acc,_=>by rw[R9];rfl
 |(n,k)::r,acc,h=>by rw[List.forIn_cons,hf];have ih:=λacc=>vB env f hf r acc λy hy=>h y (al _ hy);unfold gh;by_cases hk:(k==ox)=true;(·rw[aj hk,aj hk];obtain⟨c,hc⟩:=h (n,k) aq (by simpa using hk);(have e:cellOf env n=pure c:=by unfold cellOf;rw[hc]);rw[e];(have e2:(env.cells.lookup n).getD 0=c:=by rw[hc];rfl);rw[e2];exact ih _);rw[ah hk,ah hk];exact ih _
theorem IQ(h:∀y∈scope.names,y.2=.free->∃c,env.cells.lookup y.1=some c):closureFor scope env=pure (gh env.cells scope.names []):=by simp only[closureFor];rw[vB env _ (λn k c=>rfl) scope.names [] h];rfl
theorem mem_lookup{α:Type}:∀{l:List (cJ×α)} {n:cJ} {c:α},(n,c)∈l->∃c',l.lookup n=some c'
 |(k,v)::r,n,c,h=>by
  rw[gY];cases hb:n==k with
   |true=>exact⟨_,rfl⟩
   |false=>rcases bi.mp h with e|h;(·cases e;simp at hb);exact mem_lookup h
theorem oT:∀{names:List (cJ×jC)} {acc:List (cJ×aH)} {n:cJ} {c:aH},(n,c)∈gh cells names acc->(n,c)∈acc\/((n,.free)∈names/\c=(cells.lookup n).getD 0)
 |[],_,_,_,h=>.inl h
 |(m,k)::r,acc,n,c,h=>by unfold gh at h;split at h;(·rename_i hk;(have hk:k=.free:=by simpa using hk);rcases oT h with h|⟨h1,h2⟩;(·rcases bi.mp h with e|h;(·cases e;exact .inr ⟨hk ▸ aq,rfl⟩);exact .inl h);exact .inr ⟨al _ h1,h2⟩);rcases oT h with h|⟨h1,h2⟩;(·exact .inl h);exact .inr ⟨al _ h1,h2⟩
theorem sn:∀{names:List (cJ×jC)} {acc:List (cJ×aH)} {p:cJ×aH},p∈acc->p∈gh cells names acc
 |[],_,_,h=>h
 |(m,k)::r,acc,p,h=>by unfold gh;split;(·exact sn (al _ h));exact sn h
theorem sk:∀{names:List (cJ×jC)} {acc:List (cJ×aH)} {n:cJ},(n,.free)∈names->(n,(cells.lookup n).getD 0)∈gh cells names acc
 |(m,k)::r,acc,n,h=>by unfold gh;rcases bi.mp h with e|h;(·cases e;exact sn aq);split;(·exact sk h);exact sk h
theorem p_:∀{names:List (cJ×jC)} {h:f9} {acc:List (cJ×aH)} {x:cJ} {c:aH},(x,c)∈eW h.objs.size names acc->(x,c)∈acc\/((x,.cell)∈names/\h.objs.size<=c/\Ro (pD h names) c none)
 |[],_,_,_,_,h=>.inl h
 |(n,k)::r,h,acc,x,c,hm=>by unfold eW at hm;unfold pD;split at hm;(·rename_i hk;rw[aj hk];(have hk:k=.cell:=by simpa using hk);rw[<-eZ h {cls:=.type "cell",data:=.cell none}]at hm;rcases p_ hm with hm|⟨h1,h2,h3⟩;(·rcases bi.mp hm with e|hm;(·cases e;exact .inr ⟨hk ▸ aq,aw _,_,tT r _ _ _ (cD _ rfl),rfl⟩);exact .inl hm);rw[eZ]at h2;exact .inr ⟨al _ h1,pG h2,h3⟩);rename_i hk;rw[ah hk];rcases p_ hm with hm|⟨h1,h2,h3⟩;(·exact .inl hm);exact .inr ⟨al _ h1,h2,h3⟩
theorem sS:∀{names:List (cJ×jC)} {n:Nat} {acc:List (cJ×aH)} {p:cJ×aH},p∈acc->p∈eW n names acc
 |[],_,_,_,h=>h
 |(m,k)::r,n,acc,p,h=>by unfold eW;split;(·exact sS (al _ h));exact sS h
theorem wH:∀{names:List (cJ×jC)} {n:Nat} {acc:List (cJ×aH)} {x:cJ},(x,.cell)∈names->∃c,(x,c)∈eW n names acc
 |(m,k)::r,n,acc,x,h=>by unfold eW;rcases bi.mp h with e|h;(·cases e;exact⟨n,sS aq⟩);split;(·exact wH h);exact wH h
theorem wG:∀{names:List (cJ×jC)} {h:f9} {acc:List (cJ×aH)} {x y:cJ} {c:aH},(∀p∈acc,p.2<h.objs.size)->(∀x y c,(x,c)∈acc->(y,c)∈acc->x=y)->(x,c)∈eW h.objs.size names acc->(y,c)∈eW h.objs.size names acc->x=y
 |[],_,_,_,_,_,_,hi,h1,h2=>hi _ _ _ h1 h2
 |(n,k)::r,h,acc,x,y,c,hl,hi,h1,h2=>by unfold eW at h1 h2;split at h1;(·rename_i hk;rw[aj hk]at h2;rw[<-eZ h {cls:=.type "cell",data:=.cell none}]at h1 h2;refine wG (h:=h.push _) (λp hp=>?_) (λx y c a b=>?_) h1 h2;(·rw[eZ];rcases bi.mp hp with rfl|hp;(·exact kI _);exact pF (hl p hp));rcases bi.mp a with e|a<;>rcases bi.mp b with e'|b;(·cases e;cases e';rfl);(·cases e;exact ap (hl _ b) (fH _));(·cases e';exact ap (hl _ a) (fH _));exact hi _ _ _ a b);rename_i hk;rw[ah hk]at h2;exact wG hl hi h1 h2
theorem Fh{M:Model}{A:jQ}{E:aI->aU->Prop}{s:aU}{scope:oU}{globals:aH}{closure:List (cJ×aH)}{jj:cJ}{func:Option aH}{code:aI}{Q6:Nr}{builtins:aH}{Q:Nr->aU->Prop}(h:Q (newEnv scope s.heap.objs.size globals (eW (s.heap.objs.size+1) scope.names closure) jj func code (some Q6) builtins) {s with heap:=pD (s.heap.push {cls:=.type "dict",data:=.dict #[]}) scope.names}):wpAny M A (newFunctionEnv scope globals closure [] jj func code (some Q6) builtins) Q E s:=by simp only[newFunctionEnv,tY,if_true];refine bv (wpAny_alloc ?_);refine bv (wpAny_layCells _ (λn k c=>rfl) scope.names closure _ _ ?_);rw[show({s with heap:=s.heap.push {cls:=.type "dict",data:=.dict #[]}}:aU).heap.objs.size=s.heap.objs.size+1 from eZ ..];rw[R9];exact bv (cM (cM h))
theorem se{sc:oU}:∀{names:List (cJ×jC)} {x:cJ} {k:jC},(names.map λ(n,k)=>if(k==ox&&sc.kind==.function&&sc.names.lookup n==some .cell)then(n,Nk)else(n,k)).lookup x=some k->∃k',names.lookup x=some k'/\(k=k'\/(k'=.free/\k=.cell))
 |[],_,_,h=>by simp at h
 |(n,k₀)::r,x,k,h=>by
  have ih:=@se sc r x k;have h':lE x ((if(k₀==ox&&sc.kind==.function&&sc.names.lookup n==some .cell)=true then(n,Nk)else(n,k₀))::(r.map _))=some k:=h;cases hx:x==n with
   |true=>simp only[gY,hx];by_cases hc:(k₀==ox&&sc.kind==.function&&sc.names.lookup n==some .cell)=true;(·rw[aj hc]at h';simp only[gY,hx]at h';cases h';simp only[cR,beq_iff_eq]at hc;exact⟨k₀,rfl,.inr ⟨hc.1.1,rfl⟩⟩);rw[ah hc]at h';simp only[gY,hx]at h';cases h';exact⟨_,rfl,.inl rfl⟩
   |false=>simp only[gY,hx];by_cases hc:(k₀==ox&&sc.kind==.function&&sc.names.lookup n==some .cell)=true;(·rw[aj hc]at h';simp only[gY,hx]at h';exact ih h');rw[ah hc]at h';simp only[gY,hx]at h';exact ih h'
structure Cw(N:List cJ)(sc scope:oU)(own:List (cJ×Nat)):Prop where
 kind:scope.kind=.function
 uniq:∀y∈scope.names,scope.names.lookup y.1=some y.2
 ix:∀p∈own,N[p.2]?=some p.1
 free:∀y∈scope.names,y.2=.free->sc.names.lookup y.1=some .cell\/sc.names.lookup y.1=some .free
 own:∀y∈scope.names,y.2=.local\/y.2=.cell->y.1∈own.map (·.1)\/y.1∉N
noncomputable def gk(Z:St):List Nat->St
 |[]=>Z
 |v::vs=>(gk Z vs).set v none
theorem rL(Z:St):∀vs,(gk Z vs).length=Z.length
 |[]=>rfl
 |v::vs=>by unfold gk;rw[ee,rL Z vs]
theorem wd{x:V}:∀{vs:List Nat},(gk Z vs)[i]?=some (some x)->Z[i]?=some (some x)/\i∉vs
 |[],h=>⟨h,by simp⟩
 |v::vs,h=>by unfold gk at h;by_cases hi:v=i;(·subst hi;by_cases hv:v<(gk Z vs).length;(·rw[lW hv]at h;cases h);rw[aG (by simpa using hv)]at h;cases h);rw[sZ hi]at h;obtain⟨h1,h2⟩:=wd h;exact⟨h1,by simp only[bi,not_or];exact⟨λe=>hi e.symm,h2⟩⟩
noncomputable abbrev Cx.xN(X:Cx)(s:aU)(H:Hp)(scope:oU)(oj:Nr)(fp:List aH):Cx:={X with BE:=s,RZ:=H,env:=oj,outer:=X.stack,ex:=fp,fn:=λx=>scope.names.lookup x==some .cell,pn:=[],xe:=λ_ _=>False}
section
variable {X:Cx}{au:List (aH×kY)}{Z:St}{H:Hp}{s:aU}
theorem Gi(I:cG X au Z H s)(ok:Cw X.N X.env.scope scope own)(hN:X.N.Nodup)(GV:∀b∈fp,xU X au H b/\b<s.heap.objs.size):cG (X.xN s H scope (gH scope (eW (s.heap.objs.size+1) scope.names (gh X.env.cells scope.names [])) s.heap.objs.size X.env) fp) [] (gk Z (own.map (·.2))) H {s with heap:=pD (s.heap.push {cls:=.type "dict",data:=.dict #[]}) scope.names}:=by
 have Cc:∀y∈scope.names,y.2=.free->∃c,X.env.cells.lookup y.1=some c:=λy hy e=>by rcases ok.free y hy e with k|k;(·exact I.ok.has _ (.inl k));exact I.ok.has _ (.inr k)
 generalize FN:gH scope (eW (s.heap.objs.size+1) scope.names (gh X.env.cells scope.names [])) s.heap.objs.size X.env=oj;have kp:∀b o,s.heap.get? b=some o->(pD (s.heap.push {cls:=.type "dict",data:=.dict #[]}) scope.names).get? b=some o:=λb o e=>tT _ _ _ _ (bx _ e);have hL:oj.locals=s.heap.objs.size:=by rw[<-FN];rfl
 have hcl:oj.cells=eW (s.heap.objs.size+1) scope.names (gh X.env.cells scope.names []):=by rw[<-FN];rfl
 have RL:oj.scope=aeg scope X.env.scope:=by rw[<-FN];rfl
 rw[<-eZ s.heap {cls:=.type "dict",data:=.dict #[]}]at hcl;have cm:∀{y c},(y,c)∈gh X.env.cells scope.names []->X.env.cells.lookup y=some c/\c<s.heap.objs.size:=λ{y c} hm=>by rcases oT hm with hm|⟨h1,rfl⟩;(·cases hm);obtain⟨c,hc⟩:=Cc _ h1 rfl;rw[hc];obtain⟨w,z⟩:=I.cell _ _ hc;exact⟨rfl,z.lt⟩
 have mem:∀{y c},oj.cells.lookup y=some c->(X.env.cells.lookup y=some c/\c<s.heap.objs.size)\/(s.heap.objs.size+1<=c/\Ro (pD (s.heap.push {cls:=.type "dict",data:=.dict #[]}) scope.names) c none):=λ{y c} e=>by rw[hcl]at e;rcases p_ (cB e)with hm|⟨_,h2,h3⟩;(·exact .inl (cm hm));rw[eZ]at h2;exact .inr ⟨h2,h3⟩
 have look:∀{y},scope.names.lookup y=some .free->∃c,oj.cells.lookup y=some c/\X.env.cells.lookup y=some c:=λ{y} hl=>by have hy:=cB hl;obtain⟨c',e'⟩:=mem_lookup (sS (names:=scope.names) (n:=(s.heap.push {cls:=.type "dict",data:=.dict #[]}).objs.size) (sk (cells:=X.env.cells) (acc:=[]) hy));rw[<-hcl]at e';refine⟨c',e',?_⟩;rw[hcl]at e';rcases p_ (cB e')with hm|⟨h1,_,_⟩;(·exact(cm hm).1);have:=ok.uniq _ h1;rw[hl]at this;cases this
 have okB:(X.xN s H scope oj fp).Ok:=by refine⟨I.ok.mod,by show oj.scope.kind=_;rw[RL];exact ok.kind,by show oj.globals=_;rw[<-FN];exact I.ok.glob,by show oj.builtins=_;rw[<-FN];exact I.ok.blt,by show s.heap.objs.size<=oj.locals;rw[hL];exact aw _,λy z c e1 e2=>?_,λy hy=>?_,λy c z e=>?_,I.ok.hd,I.ok.frames,.inl rfl,λb hb=>⟨?_,λy c e z=>?_⟩,I.bs,br I.ok.RX I.sz,λb o e hb=>?_,λb hb z=>?_,I.stack,I.JR⟩;(·have e1:=e1;have e2:=e2;rw[hcl]at e1 e2;refine wG (λp hp=>?_) (λy z c a b=>I.ok.inj y z c (cm a).1 (cm b).1) (cB e1) (cB e2);rw[eZ];exact pF (cm (y:=p.1) (c:=p.2) hp).2);(·show ∃c,oj.cells.lookup y=some c;(have key:∀k,oj.kindOf y=some k->(k=.cell\/k=.free)->∃c,oj.cells.lookup y=some c:=λk hk Iq=>by unfold Nr.kindOf at hk;rw[RL]at hk;obtain⟨k',e,r⟩:=se hk;(have:k'=.cell\/k'=.free:=by rcases r with rfl|⟨rfl,_⟩;(·exact Iq);exact .inr rfl);rcases this with rfl|rfl;(·obtain⟨c,hm⟩:=wH (n:=(s.heap.push {cls:=.type "dict",data:=.dict #[]}).objs.size) (acc:=gh X.env.cells scope.names []) (cB e);obtain⟨c',e'⟩:=mem_lookup hm;exact⟨c',by rw[hcl];exact e'⟩);obtain⟨c,h1,_⟩:=look e;exact⟨c,h1⟩);rcases hy with hy|hy;(·exact key _ hy (.inl rfl));exact key _ hy (.inr rfl));(·have z:=z;(have z:scope.names.lookup y=some .cell:=by simpa using z);have e:=e;rw[hcl]at e;rcases p_ (cB e)with hm|⟨_,h2,_⟩;(·rcases oT hm with hm|⟨h1,_⟩;(·cases hm);have q:=ok.uniq _ h1;rw[z]at q;cases q);rw[eZ]at h2;exact pG h2);(·show b≠oj.locals;rw[hL];exact cN (GV b hb).2);(·have e:=e;rcases mem e with⟨h1,_⟩|⟨h1,_⟩;(·exact(GV b hb).1.2.2.2.2.1 y c h1 z);(have h2:s.heap.objs.size+1<=b:=by rw[<-z];exact h1);exact ap (bh (GV b hb).2 (pG h2)) (fH _));(·rcases(GV b hb).1.2.2.2.1 with z|z;(·exact I.ok.Pj b o e z);exact ap (bh (bG e) (br I.ok.RX z)) (fH _));rcases bi.mp (I.HA b z)with z|z;(·exact(GV b hb).1.2.1 z);exact(GV b hb).1.2.2.1 z
 refine⟨okB,rfl,I.bare,Un.kept kp,⟨λ_=>none,?_,λi y av e1 e2 e3=>?_⟩,λy c e=>?_,?_,λy c e=>?_,λp hp=>?_,I.fQ.kept kp,by rw[rL];exact I.len⟩;.show f9.Ns _ oj.locals _;rw[hL];exact f9.Ns.keeps (f9.Ns.new ..) λb o e=>tT _ _ _ _ e
 .obtain⟨e2,hne⟩:=wd e2;(have A1:scope.names.lookup y=some .free/\(oj.kindOf y=some .cell\/oj.kindOf y=some .free):=by(have key:∀k,oj.scope.names.lookup y=some k->k=.local\/k=.cell\/k=.free->scope.names.lookup y=some .free/\(oj.kindOf y=some .cell\/oj.kindOf y=some .free):=λk hk Iq=>by have hk0:=hk;rw[RL]at hk;obtain⟨k',e,r⟩:=se hk;(have no:¬(k'=.local\/k'=.cell):=λhh=>by rcases ok.own _ (cB e) hh with e'|e';(·obtain⟨p,hp,hpy⟩:=ao.mp e';have e3:=ok.ix p hp;have:=hpy;rw[this]at e3;exact hne (ao.mpr ⟨p,hp,zq hN e3 e1⟩));exact e' (a_ e1));rcases r with rfl|⟨rfl,rfl⟩;(·rcases Iq with rfl|rfl|rfl;(·exact ap (.inl rfl) no);(·exact ap (.inr rfl) no);exact⟨e,.inr hk0⟩);exact⟨e,.inl hk0⟩);have e3:=e3;rcases e3 with e3|e3|e3;(·exact key _ e3 (.inl rfl));(·exact key _ e3 (.inr (.inl rfl)));exact key _ e3 (.inr (.inr rfl)));obtain⟨m,hn,hl⟩:=I.loc;have ae_:ZU X.env.scope y:=(ok.free _ (cB A1.1) rfl).elim (λk=>.inr (.inl k)) (λk=>.inr (.inr k));obtain⟨w,r,q⟩:=hl i y av e1 e2 ae_;refine⟨w,r,.inr ⟨A1.2,?_⟩⟩;obtain⟨c,h1,h2⟩:=look A1.1;rcases q with⟨k,_⟩|⟨_,c',e',z⟩;(·have k:X.env.scope.names.lookup y=some .local:=k;rcases ok.free _ (cB A1.1) rfl with k'|k'<;>rw[show X.env.scope.names.lookup y=_ from k']at k<;>cases k);rw[h2]at e';cases e';exact⟨c,h1,z.keeps kp⟩
 .have e:=e;rcases mem e with⟨h1,_⟩|⟨_,z⟩;(·obtain⟨w,z⟩:=I.cell y c h1;exact⟨w,z.keeps kp⟩);exact⟨_,z⟩
 .show H oj.locals=none;rw[hL];exact I.fQ.fresh (aw _)
 .have e:=e;rcases mem e with⟨h1,_⟩|⟨h1,_⟩;(·exact I.pX y c h1);exact I.fQ.fresh (pG h1)
 exact ap (show p∈([]:List (aH×kY))++[]from hp) (by simp)
theorem Y8{E:aI->aU->Prop}{xs:List V}{y:V}{Q:aI->aU->Prop}(I:cG X au Z H s)(hD:H D=some (.lst xs))(hz:xs.length<bn)(r:eM y v)(h:∀s',cG X au Z (cE H D (.lst (xs++[y]))) s'->Q .none s'):wpAny (b7 X.prog X.w) X.A (call (.builtin "list.append") [.ref D,v]) Q E s:=by obtain⟨Il,its,n,ri,e⟩:=I.fQ D _ hD;have hl:=ri.length;refine append_at (hsz:=by rw[bc];omega) e λh' sb RP=>?_;refine h {s with heap:=h'} (I.write (t':=s.toks) (by rw[hD];trivial) (.inl rfl) (λb u hb q=>(sb.2 b hb).trans q) ⟨_,RP⟩ ⟨by rw[bw];exact hz,its++[v],n+1,ri.append (.cons r .nil),?_⟩);rw[RP];simp
def Y_(X:Cx)(AW:List gA)(t:TT):Prop:=∀(au:List (aH×kY)) (s:aU) (Z:St) (H:Hp) (Q:Bool->Hp->Prop),cG X au Z H s->t Z H Q->wpAny (b7 X.prog X.w) X.A (forIn AW true λc r=>if r=true then do let ok <-UK c X.env (gG c X.env);pure (pI ok)else pure (pI r)) (TP X au Z Q) X.xe s
def AN:TT:=λ_ H Q=>Q true H
theorem iH:Y_ X [] AN:=λ_ _ _ H _ I h=>wpAny_tests_nil ⟨H,I,h⟩
theorem SA(h:PT X c t):Y_ X [c] t:=λau s Z H Q I hw=>wpAny_tests_one (h au s Z H Q I hw)
end
theorem LC{α:Type}{t:Sem α}{Q Q':α->aU->Prop}{E:aI->aU->Prop}(h:wpAny M A t Q (λ_ _=>False) s)(hQ:∀a s,Q a s->Q' a s):wpAny M A t Q' E s:=gw h hQ λ_ _ z=>dY z
theorem DJ{R:Result->aU->Prop}(I:Nat->aU->Prop)(turn:∀n s,I n s->wpAny (b7 prog w) A (pyNext it) (λr s₁=>match r with
  |none=>R (.ok .next) s₁
  |some v=>wpAny (b7 prog w) A (tU yW it v) (λ_ s₁'=>wpAny (b7 prog w) A (Gy yW env v) (λ_ s₂=>wpAny (b7 prog w) A (forIn AW true λc r=>if r=true then do let ok <-UK c env (gG c env);pure (pI ok)else pure (pI r)) (λok s₃=>if ok=true then wpAny (b7 prog w) A (gG DC env) (λx s₄=>wpAny (b7 prog w) A (call (.builtin "list.append") [acc,x]) (λ_ s₅=>∃m,m<n/\I m s₅) (Em (b7 prog w) A env λe s'=>R (.error e) s') s₄) (Em (b7 prog w) A env λe s'=>R (.error e) s') s₃ else ∃m,m<n/\I m s₃) (Em (b7 prog w) A env λe s'=>R (.error e) s') s₂) (Em (b7 prog w) A env λe s'=>R (.error e) s') s₁') (Em (b7 prog w) A env λe s'=>R (.error e) s') s₁) (Em (b7 prog w) A env λe s'=>R (.error e) s') s)
 (n:Nat) (h:I n s):
 codeAny (b7 prog w) A (.compLoop (.ListComp DC [⟨yW,lA,AW,0⟩] scope pos) 0 it acc env) R s:=by
 refine codeAny_loop rfl I (λn s hI=>?_) n h;show wpAny _ A ((compTurn (.ListComp DC [⟨yW,lA,AW,0⟩] scope pos) 0 it acc env).onRaise (λx=>do noteFrame x env;theTreesLotGoes x)) _ _ s;refine wpAny_noted ?_;rw[compTurn_list];refine bv (Jl (bv (gw (turn n s hI) (λr s₁ h₁=>?_) λ_ _ h'=>h')));cases r with
  |none=>exact cM h₁
  |some v=>
   refine bv (gw h₁ (λ_ s₁' h₁'=>?_) λ_ _ h'=>h');refine bv (gw h₁' (λ_ s₂ h₂=>bv (gw h₂ (λok s₃ h₃=>?_) λ_ _ h'=>h')) λ_ _ h'=>h');cases ok with
    |false=>exact cM ⟨rfl,h₃⟩
    |true=>exact bv (bv (gw h₃ (λx s₄ h₄=>bv (gw h₄ (λ_ s₅ h₅=>cM (cM ⟨rfl,h₅⟩)) λ_ _ h'=>h')) λ_ _ h'=>h'))
section
variable {X:Cx}
def JN(wi:TI)(g:TG)(tt:TT)(te:TE)(vs:List Nat):TE:=λZ H Q=>wi Z H λJ H1=>∀D,H1 D=none->∃W:Nat->Nat->Hp->Prop,(∃m,W 0 m (cE H1 D (.lst [])))/\∀i m H,W i m H->(J.stop i H/\Q (.ref D) H)\/(J.go i H/\∃Nx:Hp->Prop,(∀H',Nx H'->∃m',m'<m/\W (i+1) m' H')/\∀x H',J.Lr i H x H'->g x (gk Z vs) H' λσ2 H2=>gk σ2 vs=gk Z vs/\tt σ2 H2 λb H3=>if b=true then te σ2 H3 λy H4=>∃acc,H4 D=some (.lst acc)/\acc.length<bn/\Nx (cE H4 D (.lst (acc++[y])))else Nx H3)
theorem Km{Qf:aI->aU->Prop}
    (hc:X.calm=true) (hN:X.N.Nodup) (I:cG X au Z H s) (hi:PI X tg lA wi) (ok:Cw X.N X.env.scope scope own)
    (hg:∀s H C cl fp,PG (X.xN s H scope (gH scope cl C X.env) fp) tg g) (ht:∀s H C cl fp,Y_ (X.xN s H scope (gH scope cl C X.env) fp) AW tt)
    (he:∀s H C cl fp,PE (X.xN s H scope (gH scope cl C X.env) fp) DC te) (hs:∀x,kD lA X.env x=pure x)
    (h:JN wi g tt te (own.map (·.2)) Z H Q)
    (hRR:∀D C s' m H',cG X au Z H' s'->Q (.ref D) H'->s'.heap.Ns C m->xU X au H' C->compPost (b7 X.prog X.w) X.A X.xe use Qf (.ref D) C (.ok .next) s'):
    wpAny (b7 X.prog X.w) X.A (comprehension (.ListComp DC [⟨tg,lA,AW,0⟩] scope pos) scope X.env oB (newList []) false (gG lA X.env) use) Qf X.xe s:=by
  have Cc:∀y∈scope.names,y.2=.free->∃c,X.env.cells.lookup y.1=some c:=λy hy e=>by
    rcases ok.free y hy e with k|k
    . exact I.ok.has _ (.inl k)
    . exact I.ok.has _ (.inr k)
  refine wpAny_comprehension_free (use:=use) rfl hs (IQ Cc) ok.kind (λy hy e=>by rw[ok.uniq y hy,e])
    (i4 (hi au s Z H _ I h) λxv s1 hx=>i4 hx λitv s2 h2=>?_)
  obtain⟨it,fp,tn,J,H2,e,I2,T,st2,f2,q⟩:=h2
  subst e
  refine wpAny_newObj_type (Fh ?_) (by show 0<=bn;decide)
  generalize hD:s2.heap.objs.size=D
  have hDn:=I2.fQ.fresh (wT hD)
  obtain⟨W,⟨m0,w0⟩,turn⟩:=q D hDn
  generalize NA:({s2 with heap:=s2.heap.push {cls:=.type "list",data:=.seq ([]:List aI).toArray}}:aU)=s3
  have I3:cG X au Z (cE H2 D (.lst [])) s3:=by
    rw[<-NA]
    refine I2.laid (t':=s2.toks) (λb o e=>bx _ e) (wT hD) ⟨bX _,[],0,.nil,?_⟩
    rw[<-hD]
    exact cD _ rfl
  have h3:s3.heap=s2.heap.push {cls:=.type "list",data:=.seq ([]:List aI).toArray}:=by rw[<-NA]
  have sz:∀b∈fp,b<s2.heap.objs.size:=λb hb=>by
    obtain⟨o,e,_⟩:=T.obj _ _ st2 b hb
    exact bG e
  have f3:∀b∈fp,xU X au (cE H2 D (.lst [])) b/\b<s3.heap.objs.size:=λb hb=>by
    have hlt:=sz b hb
    refine⟨⟨?_,(f2 b hb).2⟩,by rw[h3,eZ];exact pF hlt⟩
    rw[aM (by rw[<-hD];exact cN hlt)]
    exact(f2 b hb).1
  have st3:tn 0 s3.heap:=T.keep _ _ _ st2 λb _ o e=>by rw[h3];exact bx _ e
  have I4:=Gi I3 ok hN f3
  have pg:=hg s3 (cE H2 D (.lst [])) s3.heap.objs.size (eW (s3.heap.objs.size+1) scope.names (gh X.env.cells scope.names [])) fp
  have pt:=ht s3 (cE H2 D (.lst [])) s3.heap.objs.size (eW (s3.heap.objs.size+1) scope.names (gh X.env.cells scope.names [])) fp
  have pe:=he s3 (cE H2 D (.lst [])) s3.heap.objs.size (eW (s3.heap.objs.size+1) scope.names (gh X.env.cells scope.names [])) fp
  show codeAny _ _ (.compStart (.ListComp DC [⟨tg,lA,AW,0⟩] scope pos) 0 (.ref it) (.ref D) (gH scope (eW (s3.heap.objs.size+1) scope.names (gh X.env.cells scope.names [])) s3.heap.objs.size X.env)) (compPost (b7 X.prog X.w) X.A X.xe use Qf (.ref D) s3.heap.objs.size) {s3 with heap:=pD (s3.heap.push {cls:=.type "dict",data:=.dict #[]}) scope.names}
  have nfp:∀b∈fp,(cE H2 D (.lst [])) b=none:=λb hb=>(f3 b hb).1.1
  generalize hce:gH scope (eW (s3.heap.objs.size+1) scope.names (gh X.env.cells scope.names [])) s3.heap.objs.size X.env=ce at I4 pg pt pe ⊢
  have cL:ce.locals=s3.heap.objs.size:=by subst hce;rfl
  generalize hH3:cE H2 D (.lst [])=H3 at I3 I4 pg pt pe w0 nfp f3
  generalize hs4:({s3 with heap:=pD (s3.heap.push {cls:=.type "dict",data:=.dict #[]}) scope.names}:aU)=s4 at I4 ⊢
  have st4:tn 0 s4.heap:=T.keep _ _ _ st3 λb _ o e=>by rw[<-hs4];exact tT _ _ _ _ (bx _ e)
  have HB:∀{Z':St} {H':Hp} {s':aU},cG (X.xN s3 H3 scope ce fp) [] Z' H' s'->(∀b∈fp,H' b=none)->∀b∈fp,xU (X.xN s3 H3 scope ce fp) [] H' b:=λ{Z' H' s'} I' hn b hb=>
    ⟨hn b hb,(I'.ok.exf b hb).1,I'.ok.QD b hb,.inl hb,λx c e=>(I'.ok.exf b hb).2 x c e,λp hp=>ap (show p∈([]:List (aH×kY))++[]from hp) (by simp)⟩
  have loop:codeAny (b7 X.prog X.w) X.A (.compLoop (.ListComp DC [⟨tg,lA,AW,0⟩] scope pos) 0 (.ref it) (.ref D) ce) (compPost (b7 X.prog X.w) X.A X.xe use Qf (.ref D) s3.heap.objs.size) s4:=by
    refine DJ (λn s'=>∃i H',cG (X.xN s3 H3 scope ce fp) [] (gk Z (own.map (·.2))) H' s'/\tn i s'.heap/\(∀b∈fp,H' b=none)/\W i n H') ?_ m0 ⟨0,H3,I4,st4,nfp,w0⟩
    rintro n s5 ⟨i,H5,I5,Zf,n5,w5⟩
    rcases turn i n H5 w5 with⟨stop,qq⟩|⟨go,Nx,hNx,step⟩
    . have td:=T.done (X.xN s3 H3 scope ce fp) rfl rfl rfl hc i [] s5 _ H5 (λ_ _=>False) I5 (HB I5 n5) Zf stop
      refine LC td λr s6 ⟨hr,I6⟩=>?_
      subst hr
      have I7:=I3.acW (ch:=fp) I6.os I6.base I6.fQ I6.bare λb hb=>⟨(f3 b hb).1.2.2.2.1,(f3 b hb).1.2.1,(f3 b hb).1.2.2.2.2.1,(f3 b hb).1.2.2.2.2.2⟩
      have nC:H5 s3.heap.objs.size=none:=by
        have z:=I6.free
        rwa[cL]at z
      obtain⟨m,hn,_⟩:=I6.loc
      have hn:=hn
      rw[cL]at hn
      exact hRR D s3.heap.objs.size s6 m H5 I7 qq hn (I3.MD (aw _) nC)
    . have ti:=T.item (X.xN s3 H3 scope ce fp) rfl rfl rfl hc i [] s5 _ H5 (λ_ _=>False) I5 (HB I5 n5) Zf go
      refine LC ti λr s6 hq=>?_
      obtain⟨u,hr,h6⟩:=hq
      subst hr
      refine LC h6 λ_ s7 hq=>?_
      obtain⟨x,H7,I7,r7,y7,st7,n7⟩:=hq
      have I7':=I7.pinned (HB I7 n7) (T.obj _ _ st7)
      refine LC (pg _ s7 _ H7 x u _ I7' r7 (step x H7 y7)) λ_ s8 hq=>?_
      obtain⟨σ8,H8,I8,hw8,q8⟩:=hq
      refine LC (pt _ s8 σ8 H8 _ I8 q8) λb s9 hq=>?_
      obtain⟨H9,I9,q9⟩:=hq
      have fin:∀{s':aU} {H':Hp},cG (X.xN s3 H3 scope ce fp) ([]++zi fp s7.heap) σ8 H' s'->Nx H'->∃m,m<n/\∃i H',cG (X.xN s3 H3 scope ce fp) [] (gk Z (own.map (·.2))) H' s'/\tn i s'.heap/\(∀b∈fp,H' b=none)/\W i m H':=λ{s' H'} I' nx=>by
        obtain⟨m',hm,w'⟩:=hNx H' nx
        have aaX:∀b∈fp,∀o,s7.heap.get? b=some o->s'.heap.get? b=some o/\H' b=none:=λb hb o e=>
          let z:=I'.pin (b,o) (bF _ (bF _ (uj hb e)))
          ⟨z.1,z.2.1⟩
        have hl:(gk Z (own.map (·.2))).length=σ8.length:=by rw[<-hw8,rL]
        refine⟨m',hm,i+1,H',(I'.uI (au:=[])).weak hl (λj v e=>?_),T.keep _ _ _ st7 λb hb o e=>(aaX b hb o e).1,λb hb=>?_,w'⟩
        . rw[<-hw8]at e
          exact(wd e).1
        . obtain⟨o,e,_⟩:=T.obj _ _ st7 b hb
          exact(aaX b hb o e).2
      cases b with
      |false=>
        simp only[d7,if_false]at q9 ⊢
        exact fin I9 q9
      |true=>
        simp only[if_true]at q9 ⊢
        refine LC (pe _ s9 σ8 H9 _ I9 q9) λz s10 hq=>?_
        obtain⟨yv,H10,I10,r10,acc,ag2,ae2,nx⟩:=hq
        exact Y8 (X:=X.xN s3 H3 scope ce fp) I10 ag2 ae2 r10 λs11 I11=>fin I11 nx
  exact codeAny_compStart_list loop (T.self X.A 0 _ _ _ st4 loop)
theorem aaY(hc:X.calm=true)(hN:X.N.Nodup)(hi:PI X tg lA wi)(ok:Cw X.N X.env.scope scope own)(hg:∀s H C cl fp,PG (X.xN s H scope (gH scope cl C X.env) fp) tg g)(ht:∀s H C cl fp,Y_ (X.xN s H scope (gH scope cl C X.env) fp) AW tt)(he:∀s H C cl fp,PE (X.xN s H scope (gH scope cl C X.env) fp) DC te)(hs:∀x,kD lA X.env x=pure x:=by intro _;rfl):PE X (.ListComp DC [⟨tg,lA,AW,0⟩] scope pos) (JN wi g tt te (own.map (·.2))):=by intro au s Z H Q I h;rw[eval_ListComp];refine Km hc hN I hi ok hg ht he hs h λD C s' m H' I' q hn f=>⟨m,hn,λT2 sb=>?_⟩;obtain⟨f0,f1,f2,f3,f4,f5⟩:=f;exact⟨.ref D,H',I'.oY (t':=s'.toks) (λb o hb e=>(sb.2 b hb).trans e) f0 f1 f3 f4 f5,rfl,q⟩
theorem OP(hc:X.calm=true)(hN:X.N.Nodup)(hy:X.N[i]?=some y)(Zm:X.env.scope.names.lookup y=some .local)(hsw:nz (.ListComp DC [⟨tg,lA,AW,0⟩] scope pos) (some (.Name y py)) spos.line X.env=pure true)(hi:PI X tg lA wi)(ok:Cw X.N X.env.scope scope own)(hg:∀s H C cl fp,PG (X.xN s H scope (gH scope cl C X.env) fp) tg g)(ht:∀s H C cl fp,Y_ (X.xN s H scope (gH scope cl C X.env) fp) AW tt)(he:∀s H C cl fp,PE (X.xN s H scope (gH scope cl C X.env) fp) DC te)(hs:∀x,kD lA X.env x=pure x:=by intro _;rfl):PS X (.Assign [.Name y py] (.ListComp DC [⟨tg,lA,AW,0⟩] scope pos) spos) (Hz (JN wi g tt te (own.map (·.2))) (jl i)):=by
 intro au s Z H D I h;rw[exec_Assign_Name_used _ _ _ _ hsw];refine bv (Jl (bv ?_));show wpAny _ X.A (do let _ <-comprehension (.ListComp DC [⟨tg,lA,AW,0⟩] scope pos) scope X.env (firstIterPos [⟨tg,lA,AW,0⟩] pos) (newList []) false (gG lA X.env) (some (Gy (.Name y py) X.env))) _ _ s;have h:=h;refine bv (i4 (Km (Qf:=λ_ s'=>SP X au D .next s') hc hN I hi ok hg ht he hs h λL C s' m H' I' q hn f=>?_) λ_ s' hq=>cM (cM hq));show wpAny _ _ (Gy (.Name y py) X.env (.ref L)) _ _ _;refine wpAny_assign_Name (Bu (v:=V.ref L) I' hN hy (.inl Zm) rfl (λs2 I2 hq=>?_) (.inr Zm));obtain⟨a,sb,ha⟩:=hq;obtain⟨f0,f1,f2,f3,f4,f5⟩:=f;have haC:C≠a:=by rcases ha with z|z;(·rw[z];exact f1);exact λe=>f4 y a z e.symm
 refine⟨m,hn.sameBut sb haC,λh3 sb3=>?_⟩;exact⟨_,H',I2.oY (t':=s2.toks) (λb o hb e=>(sb3.2 b hb).trans e) f0 f1 f3 f4 f5,q⟩
theorem Sh(hk:env.scope.kind=.function)(hy:env.scope.names.lookup y=some .local)(hl:(py.line==pos.line)=true)(ha:(scope.names.any λ(n,k)=>n==y&&(k==.local||k==.cell))=false):nz (.ListComp DC gs scope pos) (some (.Name y py)) l env=pure true:=by
 have ky:env.kindOf y=some .local:=hy;have hb:env.blockKind=.function:=by unfold Nr.blockKind;rw[hk];rfl
 unfold nz;simp only[hb,ky,ha,gA.pos,hl];rfl
end
theorem PD{lo:Int}{n:Nat}{g:TG}{tt:TT}{te:TE}{vs:List Nat}{Z:St}{H1:Hp}{D:aH}{Qd:Hp->Prop}(Pv:Nat->Hp->Prop)(h0:Pv 0 (cE H1 D (.lst [])))(hs:∀i H,i<n->Pv i H->g (.int (lo+i)) (gk Z vs) H λσ2 H2=>gk σ2 vs=gk Z vs/\tt σ2 H2 λb H3=>if b=true then te σ2 H3 λy H4=>∃acc,H4 D=some (.lst acc)/\acc.length<bn/\Pv (i+1) (cE H4 D (.lst (acc++[y])))else Pv (i+1) H3)(hd:∀H,Pv n H->Qd H):∃W:Nat->Nat->Hp->Prop,(∃m,W 0 m (cE H1 D (.lst [])))/\∀i m H,W i m H->((RY lo n).stop i H/\Qd H)\/((RY lo n).go i H/\∃Nx:Hp->Prop,(∀H',Nx H'->∃m',m'<m/\W (i+1) m' H')/\∀x H',(RY lo n).Lr i H x H'->g x (gk Z vs) H' λσ2 H2=>gk σ2 vs=gk Z vs/\tt σ2 H2 λb H3=>if b=true then te σ2 H3 λy H4=>∃acc,H4 D=some (.lst acc)/\acc.length<bn/\Nx (cE H4 D (.lst (acc++[y])))else Nx H3):=by
 refine⟨λi m H=>m=n-i/\i<=n/\Pv i H,⟨n,by simp,bX _,h0⟩,?_⟩;rintro i m H ⟨rfl,hi,p⟩;by_cases hlt:i<n;.refine .inr ⟨hlt,Pv (i+1),λH' p'=>⟨n-(i+1),by omega,rfl,hlt,p'⟩,λx H' y=>?_⟩;obtain⟨e,y⟩:=y;subst e y;exact hs i _ hlt p
 have e:i=n:=by omega
 subst e;exact .inl ⟨aw _,hd H p⟩
theorem yr{K:ai}{a:aH}{xs:List V}{g:TG}{tt:TT}{te:TE}{vs:List Nat}{Z:St}{H1:Hp}{D:aH}{Qd:Hp->Prop}(Pv:Nat->Hp->Prop)(h0:Pv 0 (cE H1 D (.lst [])))(hl:∀i H,i<=xs.length->Pv i H->cu K H a xs)(hs:∀i x H,xs[i]?=some x->Pv i H->g x (gk Z vs) H λσ2 H2=>gk σ2 vs=gk Z vs/\tt σ2 H2 λb H3=>if b=true then te σ2 H3 λy H4=>∃acc,H4 D=some (.lst acc)/\acc.length<bn/\Pv (i+1) (cE H4 D (.lst (acc++[y])))else Pv (i+1) H3)(hd:∀H,Pv xs.length H->Qd H):∃W:Nat->Nat->Hp->Prop,(∃m,W 0 m (cE H1 D (.lst [])))/\∀i m H,W i m H->((Jf K a).stop i H/\Qd H)\/((Jf K a).go i H/\∃Nx:Hp->Prop,(∀H',Nx H'->∃m',m'<m/\W (i+1) m' H')/\∀x H',(Jf K a).Lr i H x H'->g x (gk Z vs) H' λσ2 H2=>gk σ2 vs=gk Z vs/\tt σ2 H2 λb H3=>if b=true then te σ2 H3 λy H4=>∃acc,H4 D=some (.lst acc)/\acc.length<bn/\Nx (cE H4 D (.lst (acc++[y])))else Nx H3):=by
 refine⟨λi m H=>m=xs.length-i/\i<=xs.length/\Pv i H,⟨xs.length,by simp,bX _,h0⟩,?_⟩;rintro i m H ⟨rfl,hi,p⟩;have q:=hl i H hi p;by_cases hlt:i<xs.length;.refine .inr ⟨⟨xs,xs[i],q,by simp[hlt]⟩,Pv (i+1),λH' p'=>⟨xs.length-(i+1),by omega,rfl,hlt,p'⟩,λx H' y=>?_⟩;obtain⟨e,y⟩:=y;subst e;exact hs i x _ (y xs q) p
 have e:i=xs.length:=by omega
 subst e;exact .inl ⟨⟨xs,q,aw _⟩,hd H p⟩
section
variable {κ:Type}[DecidableEq κ]
noncomputable def tf(kvs:List (κ×V))(k:κ):Option V:=(kvs.find? λkv=>decide (kv.1=k)).map (·.2)
noncomputable def putK(kvs:List (κ×V))(k:κ)(v:V):List (κ×V):=if(kvs.any λkv=>decide (kv.1=k))=true then kvs.map (λkv=>if kv.1=k then(kv.1,v)else kv)else kvs++[(k,v)]
theorem uH{p:κ×V}{r:List (κ×V)}{k:κ}(e:p.1=k):tf (p::r) k=some p.2:=by simp[tf,lj,e]
theorem rM{p:κ×V}{r:List (κ×V)}{k:κ}(e:¬p.1=k):tf (p::r) k=tf r k:=by simp[tf,lj,e]
theorem rN(k:κ):∀kvs,(kvs.any λkv=>decide (kv.1=k))=(tf kvs k).isSome
 |[]=>rfl
 |p::r=>by rw[kZ];by_cases e:p.1=k;(·simp only[uH e,decide_eq_true e,Bool.true_or,tY]);rw[rM e,decide_eq_false e,Bool.false_or];exact rN k r
theorem xf(kvs:List (κ×V))(k:κ)(v:V):(putK kvs k v).length<=kvs.length+1:=by
 unfold putK;split;.rw[ab];omega
 rw[bw,a7,cV];omega
theorem tF.wx{o:Option V}(r:tF o u):o.isSome=u.isSome:=by
 cases o with
  |none=>cases u with
   |none=>rfl
   |some _=>exact(show False from r).elim
  |some _=>cases u with
   |none=>exact(show False from r).elim
   |some _=>rfl
theorem KV.val{kvs:List (κ×V)}{vs:List (κ×aI)}(r:KV kvs vs)(k:κ):tF (tf kvs k) (Ai vs k):=by
 unfold KV at r;induction r with
  |nil=>exact qZ
  |@cons p q ps qs h t ih=>obtain⟨h1,h2⟩:=h;by_cases e:p.1=k;(·have e':=h1.symm.trans e;(have b:Ai (q::qs) k=some q.2:=by simp[Ai,lj,e']);rw[uH e,b];exact h2);have e':¬q.1=k:=λz=>e (h1.trans z);(have b:Ai (q::qs) k=Ai qs k:=by simp[Ai,lj,e']);rw[rM e,b];exact ih
theorem KV.any{kvs:List (κ×V)}{vs:List (κ×aI)}(r:KV kvs vs)(k:κ):(kvs.any λkv=>decide (kv.1=k))=vs.any λkv=>decide (kv.1=k):=by
 unfold KV at r;induction r with
  |nil=>rfl
  |cons h t ih=>rw[kZ,kZ,ih,h.1]
theorem KV.repl{kvs:List (κ×V)}{vs:List (κ×aI)}(r:KV kvs vs)(k:κ){y:V}(ry:eM y u):KV (kvs.map λkv=>if kv.1=k then(kv.1,y)else kv) (vs.map λkv=>if kv.1=k then(kv.1,u)else kv):=by
 unfold KV at r ⊢;induction r with
  |nil=>exact .nil
  |@cons p q ps qs h t ih=>rw[aR,aR];refine .cons ?_ ih;obtain⟨h1,h2⟩:=h;by_cases e:p.1=k;(·rw[aj e,aj (h1.symm.trans e)];exact⟨h1,ry⟩);rw[ah e,ah (λz=>e (h1.trans z))];exact⟨h1,h2⟩
theorem KV.put{kvs:List (κ×V)}{vs:List (κ×aI)}(r:KV kvs vs)(k:κ){y:V}(ry:eM y u):KV (putK kvs k y) (stored vs k u):=by
 unfold putK stored;rw[r.any k];by_cases e:(vs.any λkv=>decide (kv.1=k))=true;.rw[aj e,aj e];exact r.repl k ry
 rw[ah e,ah e];exact UN r ⟨rfl,ry⟩
theorem KV.length{kvs:List (κ×V)}{vs:List (κ×aI)}(r:KV kvs vs):kvs.length=vs.length:=jy r
end
theorem Kn(r:eM (kV k) u):(iM P w).is k u=true:=by
 cases k with
  |inl i=>obtain⟨t,e⟩:=(show ∃t,u=cH i t from r);subst e;exact Fm P w i t
  |inr x=>obtain⟨t,e⟩:=(show ∃t,u=CB x t from r);subst e;exact Fl P w x t
theorem B9:∀{ks:List Key} {us:List aI},dk (ks.map kV) us->ItemsAre (iM P w) ks us
 |[],_,r=>by rw[cK]at r;cases r;exact .nil
 |k::ks,_,r=>by
  rw[aR]at r;cases r with
   |cons h t=>exact .cons (Kn h) (B9 t)
noncomputable abbrev KT(H:Hp):List (List Key×V)->List (List Key×aH×aI)->Prop:=Paired λp q=>p.1=q.1/\H q.2.1=some (.tup (p.1.map kV))/\eM p.2 q.2.2
theorem KT.val{kvs:List (List Key×V)}(r:KT H kvs xs)(k:List Key):tF (tf kvs k) ((Gx xs k).map (·.2)):=by
 induction r with
  |nil=>exact qZ
  |@cons p q ps qs h t ih=>obtain⟨h1,_,h2⟩:=h;by_cases e:p.1=k;(·have e':=h1.symm.trans e;(have b:Gx (q::qs) k=some q.2:=by simp[Gx,lj,e']);rw[uH e,b];exact h2);have e':¬q.1=k:=λz=>e (h1.trans z);(have b:Gx (q::qs) k=Gx qs k:=by simp[Gx,lj,e']);rw[rM e,b];exact ih
theorem KT.repl{kvs:List (List Key×V)}(r:KT H kvs xs)(k:List Key){y:V}(ry:eM y u):KT H (kvs.map λkv=>if kv.1=k then(kv.1,y)else kv) (xs.map (putAt k u)):=by
 induction r with
  |nil=>exact .nil
  |@cons p q ps qs h t ih=>rw[aR,aR];refine .cons ?_ ih;obtain⟨h1,h2,h3⟩:=h;unfold putAt;by_cases e:p.1=k;(·rw[aj e,aj (h1.symm.trans e)];exact⟨h1,h2,ry⟩);rw[ah e,ah (λz=>e (h1.trans z))];exact⟨h1,h2,h3⟩
theorem KT.put{kvs:List (List Key×V)}(r:KT H kvs xs)(k:List Key){y:V}(hb:H b=some (.tup (k.map kV)))(ry:eM y u):KT H (putK kvs k y) (storedH xs k b u):=by
 have e:(kvs.any λkv=>decide (kv.1=k))=(Gx xs k).isSome:=by rw[rN,(r.val k).wx,Jt]
 unfold putK storedH;rw[e];by_cases q:(Gx xs k).isSome=true;.rw[aj q,aj q];exact r.repl k ry
 rw[ah q,ah q];exact UN r ⟨rfl,hb,ry⟩
theorem KT.keeps{kvs:List (List Key×V)}(r:KT H kvs xs)(ht:∀b ys,H b=some (.tup ys)->H' b=some (.tup ys)):KT H' kvs xs:=Paired.abx r λ_ _ z=>⟨z.1,ht _ _ z.2.1,z.2.2⟩
section
variable {P:cI}{w:eU}{H:Hp}{h:f9}{a:aH}
theorem Vf(ok:sx P w H h)(e:Rd H a u):iq P w H h a u:=e.ok ok
theorem KQ{kvs:List (Key×V)}(ok:sx P w H h)(e:Rd H a (.dK kvs)):kvs.length<=bn/\(a==kR)=false/\∃vs,KV kvs vs/\h.DictOf (iM P w) a vs:=show iq P w H h a (.dK kvs)from Vf ok e
theorem VR{kvs:List (Key×V)}(ok:sx P w H h)(e:H a=some (.dK kvs)):kvs.length<=bn/\(a==kR)=false/\∃vs,KV kvs vs/\h.DictOf (iM P w) a vs:=KQ ok (.inl e)
theorem Dq(ok:sx P w H h)(e:H a=some (.tup (ks.map kV))):(Bf (iM P w)).is h ks a:=by obtain⟨_,its,r,o,h1,h2,n,h3⟩:=(show iq P w H h a (.tup (ks.map kV))from ok a _ e);exact⟨o,its.toArray,n,h1,h2,h3,by simpa using B9 r⟩
theorem KP{kvs:List (List Key×V)}(ok:sx P w H h)(e:Rd H a (.dT kvs)):kvs.length<=bn/\(a==kR)=false/\∃xs,KT H kvs xs/\h.DictOfH (Bf (iM P w)) a xs:=by
 obtain⟨z,y,xs,r,o,es,ep,h1,h2,h3,h4,h5⟩:=(show iq P w H h a (.dT kvs)from Vf ok e);refine⟨z,y,xs,r,o,es,ep,h1,h2,h3,h4,λx hx=>?_,h5⟩;have all:∀{l:List (List Key×V)} {m:List (List Key×aH×aI)},KT H l m->∀x∈m,(Bf (iM P w)).is h x.1 x.2.1:=by
  intro l m q;induction q with
   |nil=>intro x hx;exact nomatch hx
   |@cons p q ps qs hq t ih=>intro x hx;rcases bi.mp hx with e|hx;(·subst e;exact Dq ok (by rw[<-hq.1];exact hq.2.1));exact ih x hx
 exact all r x hx
theorem acR{kvs:List (List Key×V)}(ok:sx P w H h)(e:H a=some (.dT kvs)):kvs.length<=bn/\(a==kR)=false/\∃xs,KT H kvs xs/\h.DictOfH (Bf (iM P w)) a xs:=KP ok (.inl e)
end
def Jj(H:Hp)(a:aH)(y:V)(r:Option V):Prop:=(∃kvs k,Rd H a (.dK kvs)/\y=kV k/\r=tf kvs k)\/∃kvs k b,Rd H a (.dT kvs)/\y=.ref b/\H b=some (.tup (k.map kV))/\r=tf kvs k
def Ji(H:Hp)(a:aH)(y v:V)(H':Hp):Prop:=(∃kvs k,H a=some (.dK kvs)/\y=kV k/\kvs.length<bn/\H'=cE H a (.dK (putK kvs k v)))\/∃kvs k b,H a=some (.dT kvs)/\y=.ref b/\H b=some (.tup (k.map kV))/\kvs.length<bn/\H'=cE H a (.dT (putK kvs k v))
theorem Ji.k{H:Hp}{a:aH}{kvs:List (Key×V)}{k:Key}{v:V}(e:H a=some (.dK kvs))(hl:kvs.length<bn):Ji H a (kV k) v (cE H a (.dK (putK kvs k v))):=.inl ⟨kvs,k,e,rfl,hl,rfl⟩
section
variable {X:Cx}{au:List (aH×kY)}{Z:St}{H:Hp}{s:aU}{a:aH}{y v:V}{u r:aI}{o:Option V}{A:jQ}{E:aI->aU->Prop}
theorem cG.big(I:cG X au Z H s):kR<s.heap.objs.size:=by have h:=(I.mod.glob.keeps I.bk).lt;exact bU ∅ h
theorem MG{Q:aI->aU->Prop}(hu:A.units+1<tW)(I:cG X au Z H s)(g:Jj H a y (some v))(ry:eM y u)(h:∀w' s',cG X au Z H s'->eM v w'->Q w' s'):wpAny (b7 X.prog X.w) A (An (.ref a) u) Q E s:=by
 rcases g with⟨kvs,k,e,ey,l⟩|⟨kvs,k,b,e,ey,eb,l⟩;.subst ey;obtain⟨z,hd,vs,Ef,dd⟩:=KQ I.fQ e;obtain⟨w',hw,LQ⟩:=tF.some_of (v:=v) (o:=Ai vs k) (by rw[l];exact Ef.val k);exact wpAny_getItem_of (Kn ry) dd.mapOf hw (h w' _ (I.tok _) LQ)
 subst ey;cases(show u=ci b from ry);obtain⟨z,hd,xs,Ef,dd⟩:=KP I.fQ e;obtain⟨w',hw,LQ⟩:=tF.some_of (v:=v) (o:=(Gx xs k).map (·.2)) (by rw[l];exact Ef.val k);obtain⟨p,hp,hp2⟩:=b9.mp hw;refine wpAny_getItem_heap (xX hu) (Dq I.fQ eb) dd hp ?_;rw[hp2];exact h w' _ (I.tok _) LQ
theorem Uk{Q:aI->aU->Prop}(hu:A.units+1<tW)(I:cG X au Z H s)(g:Jj H a y o)(ry:eM y u)(h:∀s',cG X au Z H s'->Q (.bool (!o.isSome)) s'):wpAny (b7 X.prog X.w) A (gx .NotIn u (.ref a)) Q E s:=by
 rcases g with⟨kvs,k,e,ey,l⟩|⟨kvs,k,b,e,ey,eb,l⟩;.subst ey;obtain⟨z,hd,vs,Ef,dd⟩:=KQ I.fQ e;refine wpAny_notIn_of (Kn ry) hd dd.mapOf ?_;rw[<-(Ef.val k).wx,<-l];exact h _ (I.tok _)
 subst ey;cases(show u=ci b from ry);obtain⟨z,hd,xs,Ef,dd⟩:=KP I.fQ e;refine wpAny_notIn_heap (xX hu) (Dq I.fQ eb) hd dd ?_;have q:=(Ef.val k).wx;rw[Jt]at q;rw[<-q,<-l];exact h _ (I.tok _)
theorem KZ(I:cG X au Z H s)(mu:VV (H a))(hs:wc a s.heap h')(he:∃q,h'.get? a=some q)(new:iq X.prog X.w (cE H a ob) h' a ob):cG X au Z (cE H a ob) {s with heap:=h',toks:=t'}:=I.write (x:=a) (e:=a) mu (.inl rfl) (λb q hb z=>(hs.2 b hb).trans z) he new
theorem YR{kvs:List (Key×V)}(z:kvs.length<=bn)(hd:(a==kR)=false)(Ef:KV kvs vs)(dd:h'.DictOf (iM P w) a vs):iq P w H' h' a (.dK kvs):=⟨z,hd,vs,Ef,dd⟩
theorem MF{Q:Unit->aU->Prop}(hu:A.units+1<tW)(I:cG X au Z H s)(g:Ji H a y v H')(ry:eM y u)(rv:eM v r)(h:∀s',cG X au Z H' s'->Q () s'):wpAny (b7 X.prog X.w) A (setItem (.ref a) u r) Q E s:=by
 rcases g with⟨kvs,k,e,ey,l,eH⟩|⟨kvs,k,b,e,ey,eb,l,eH⟩;.subst ey eH;obtain⟨z,hd,vs,Ef,dd⟩:=VR I.fQ e;(have hz:vs.length<=bn:=by rw[<-Ef.length];exact z);(have hl:(putK kvs k v).length<=bn:=by have:=xf kvs k v;omega);refine wpAny_setItem_pairs (hsz:=hz) (Kn ry) dd λh' dd' hs=>h _ ?_;have he:∃q,h'.get? a=some q:=let ⟨q,_,_,hq,_⟩:=dd';⟨q,hq⟩;exact KZ I (by rw[e];exact qZ) hs he (YR hl hd (Ef.put k rv) dd')
 subst ey eH;cases(show u=ci b from ry);obtain⟨z,hd,xs,Ef,dd⟩:=acR I.fQ e;have hz:xs.length<=bn:=by rw[<-jy Ef];exact z
 have hl:(putK kvs k v).length<=bn:=by have:=xf kvs k v;omega
 refine wpAny_setItem_heap (hsz:=hz) (xX hu) (Dq I.fQ eb) dd λh' dd' hs=>h _ ?_;obtain⟨q,es,ep,hq,h2,h3,h4,_,h5⟩:=dd';refine KZ I (by rw[e];exact qZ) hs ⟨q,hq⟩ ⟨hl,hd,_,(Ef.put k eb rv).keeps λc ys ec=>?_,q,es,ep,hq,h2,h3,h4,h5⟩;rw[aM (zr ec e (λz=>nomatch z))];exact ec
end
def ac4(i:gA):Prop:=∀ov iv,Cy i false ov iv=operate [ov,iv] (An ov iv)
theorem Sj{prog:cI}{w:eU}{A:jQ}{E:aI->aU->Prop}{s:aU}{env:Nr}{value slice:gA}{pos:Et}{T id:String}{Q:aI->aU->Prop}(hl:typeLookup (.type T) "__getitem__"=pure (some (.builtin id)))(hs:ac4 slice)(h:wpAny (b7 prog w) A (gG value env) (λo s₁=>wpAny (b7 prog w) A (gG slice env) (λi s₂=>s₂.TypeIs o T/\wpAny (b7 prog w) A (An o i) Q E s₂) E s₁) E s):wpAny (b7 prog w) A (gG (.Subscript value slice pos) env) Q E s:=by
 refine Gz (gw h (λo s₁ h₁=>gw h₁ (λi s₂ h₂=>?_) λ_ _ x=>x) λ_ _ x=>x);obtain⟨hT,h₂⟩:=h₂;unfold Jn;refine bv ?_;rw[getitemInPython_of_ne hT.not_modules];refine bv (wpAny_specialOf hT hl ?_);have fin:wpAny (b7 prog w) A (Cy slice false o i) (λr s₃=>wpAny (b7 prog w) A (letTemporaryGo value o r >>=λ_=>pure r) Q E s₃) E s₂:=by rw[hs o i];exact wpAny_operating (gw h₂ (λr s₃ h₃=>bv (wpAny_letTemporaryGo (cM h₃))) λ_ _ x=>x)
 first
  |exact cM (bv fin)
  |exact bv (cM (bv fin))
  |exact bv fin
theorem FX{y:V}{o:Option V}(I:cG X au Z H s)(g:Jj H a y o):s.TypeIs (.ref a) "dict":=by
 rcases g with⟨kvs,k,e,_,_⟩|⟨kvs,k,b,e,_,_,_⟩;.obtain⟨_,_,vs,_,dd⟩:=KQ I.fQ e;exact dd.typeIs
 obtain⟨_,_,xs,_,dd⟩:=KP I.fQ e;exact dd.typeIs
def UZ(td ty:TE):TE:=λZ H Q=>td Z H λx H1=>ty Z H1 λy H2=>∃a v,x=.ref a/\Jj H2 a y (some v)/\Q v H2
def JP(ty td:TE):TE:=λZ H Q=>ty Z H λy H1=>td Z H1 λx H2=>∃a o,x=.ref a/\Jj H2 a y o/\Q (.bl (!o.isSome)) H2
def Vd(td ty tv:TE):TS:=λD Z H=>tv Z H λv H1=>td Z H1 λx H2=>ty Z H2 λy H3=>∃a H4,x=.ref a/\Ji H3 a y v H4/\D.nx Z H4
section
variable {X:Cx}{o i e value:gA}{pos oB uK:Et}{td ty tv:TE}
theorem SJ(hu:X.A.units+1<tW)(ho:PE X o td)(hi:PE X i ty)(hs:ac4 i):PE X (.Subscript o i pos) (UZ td ty):=by intro au s Z H Q I h;refine Sj PySem.F.slot_dict_getitem.lookup hs (i4 (ho au s Z H _ I h) λu s1 ⟨x,H1,I1,rx,q1⟩=>i4 (hi au s1 Z H1 _ I1 q1) λiv s2 hq=>?_);obtain⟨y,H2,I2,ry,a,v,ex,g,q2⟩:=hq;subst ex;obtain rfl:u=ci a:=rx;exact⟨FX I2 g,MG hu I2 g ry λw' s3 I3 LQ=>⟨v,H2,I3,LQ,q2⟩⟩
theorem LY(hu:X.A.units+1<tW)(hi:PE X i ty)(ho:PE X o td):PC X .NotIn i o (JP ty td):=by intro au s Z H Q I h;refine i4 (hi au s Z H _ I h) λiv s1 ⟨y,H1,I1,ry,q1⟩=>i4 (ho au s1 Z H1 _ I1 q1) λu s2 hq=>?_;obtain⟨x,H2,I2,rx,a,ov,ex,g,q2⟩:=hq;subst ex;obtain rfl:u=ci a:=rx;exact Uk hu I2 g ry λs3 I3=>⟨.bl (!ov.isSome),H2,I3,rfl,q2⟩
theorem J4(hu:X.A.units+1<tW)(ho:PE X o td)(hi:PE X i ty)(hv:PE X value tv)(hs:nz value (some (.Subscript o i oB)) pos.line X.env=pure false):PS X (.Assign [.Subscript o i oB] value pos) (Vd td ty tv):=by intro au s Z H D I h;refine wpAny_Assign_Subscript (i4 (hv au s Z H _ I h) λr s1 ⟨v,H1,I1,rv,q1⟩=>i4 (ho au s1 Z H1 _ I1 q1) λu s2 ⟨x,H2,I2,rx,q2⟩=>i4 (hi au s2 Z H2 _ I2 q2) λiv s3 hq=>?_) hs;obtain⟨y,H3,I3,ry,a,H4,ex,g,q3⟩:=hq;subst ex;obtain rfl:u=ci a:=rx;exact MF hu I3 g ry rv λs4 I4=>⟨Z,H4,I4,q3⟩
end
theorem QO(h:f9)(hb:kR<h.objs.size):iq P w H (h.push {cls:=.type "dict",data:=.dict #[]}) h.objs.size (.dK []):=⟨bX _,beq_eq_false_iff_ne.mpr (lC (cN hb)),[],.nil,f9.DictOf.new h⟩
def Of:TE:=λ_ H Q=>∀p,H p=none->Q (.ref p) (cE H p (.dK []))
section
variable {X:Cx}{pos:Et}
theorem O1:PE X (.Dict [] [] pos) Of:=λau s Z H Q I h=>wpAny_Dict_empty ⟨.ref s.heap.objs.size,_,I.laid (a:=s.heap.objs.size) (o:=.dK []) (t':=s.toks) (λ_ _ q=>bx _ q) (aw _) (QO s.heap I.big),rfl,h _ (I.fQ.fresh (aw _))⟩
end
section
variable {X:Cx}{au:List (aH×kY)}{Z:St}{H:Hp}{s:aU}{h':f9}
theorem cG.Sd{t':Nat}{ch:List aH}(I:cG X au Z H s)(k:∀b o,b∉ch->s.heap.get? b=some o->h'.get? b=some o)(hf:∀b∈ch,xU X au H b):cG X au Z H {s with heap:=h',toks:=t'}:=by
 have Vl:∀b u,H b=some u->b∉ch:=λb u e z=>by have q:=(hf b z).1;rw[q]at e;cases e
 refine I.step (g':=s.gens) (d':=s.drawn) (ch:=ch) (λb hb=>⟨(hf b hb).2.2.2.1,(hf b hb).2.1,(hf b hb).2.2.2.2.1,(hf b hb).2.2.2.2.2⟩) (λb o _ _ hc e _=>k b o hc e) (λb o _ _ hc e _=>⟨o.slots,k b o hc e⟩) (λ_ _ _ _ n=>n) (λb o hc e=>⟨o,k b o hc e⟩) (λ_ _ e=>e) (λ_ _ _ e=>e) (λb ps e=>⟨#[],by rw[e];simp⟩) (λm hm=>?_) (λb u e=>?_) I.bare;.obtain⟨o,es,ep,ho,r⟩:=hm;exact⟨o,es,ep,k _ o (λz=>(hf _ z).2.1 rfl) ho,r⟩
 refine(I.fQ b u e).stay (λc v hc q=>k c v ?_ q) (λ_ q=>q) λ_ _ q=>q;rcases hc with z|z;.rw[z];exact Vl b u e
 exact Vl c _ z
theorem cG.wf{t':Nat}{ch:List aH}{T:aH}{ob:HO}(I:cG X au Z H s)(k:∀b o,b∉ch->s.heap.get? b=some o->h'.get? b=some o)(hf:∀b∈ch,xU X au H b)(hT:s.heap.objs.size<=T)(new:iq X.prog X.w (cE H T ob) h' T ob):cG X au Z (cE H T ob) {s with heap:=h',toks:=t'}:=by
 have hn:=I.fQ.fresh hT;have Vl:∀b u,H b=some u->b∉ch:=λb u e z=>by have q:=(hf b z).1;rw[q]at e;cases e
 refine I.step (g':=s.gens) (d':=s.drawn) (ch:=ch) (λb hb=>⟨(hf b hb).2.2.2.1,(hf b hb).2.1,(hf b hb).2.2.2.2.1,(hf b hb).2.2.2.2.2⟩) (λb o _ _ hc e _=>k b o hc e) (λb o _ _ hc e _=>⟨o.slots,k b o hc e⟩) (λb o _ e n=>?_) (λb o hc e=>⟨o,k b o hc e⟩) (λb xs e=>?_) (λb o u e=>?_) (λb ps e=>⟨#[],?_⟩) (λm hm=>?_) (λb u e=>?_) I.bare;.rw[aM (cN (bh (bG e) hT))];exact n
 .rw[aM (bB e hn)];exact e
 .rw[aM (bB e hn)];exact e
 .rw[aM (bB e hn),e];simp
 .obtain⟨o,es,ep,ho,r⟩:=hm;exact⟨o,es,ep,k _ o (λz=>(hf _ z).2.1 rfl) ho,r⟩
 by_cases hb:b=T;.subst hb;rw[am]at e;cases e;exact new
 rw[aM hb]at e;refine(I.fQ b u e).stay (λc v hc q=>k c v ?_ q) (λc q=>by rw[aM (bB q hn)];exact q) λc xs q=>by rw[aM (bB q hn)];exact q
 rcases hc with z|z;.rw[z];exact Vl b u e
 exact Vl c _ z
theorem cG.lock(I:cG X au Z H s)(h:H d=some u)(mu:VV (some u)):∃od,cG X au Z (cE H d (.lQ od u)) s:=by
 have x:=I.fQ d u h;have ex:∃od,s.heap.get? d=some od:=by
  cases u with
   |lst xs=>obtain⟨_,_,_,_,e⟩:=x;exact⟨_,e⟩
   |dK kvs=>obtain⟨_,_,_,_,o,_,_,e,_⟩:=x;exact⟨o,e⟩
   |dT kvs=>obtain⟨_,_,_,_,o,_,_,e,_⟩:=x;exact⟨o,e⟩
   |set S n=>obtain⟨o,_,_,_,e,_⟩:=x;exact⟨o,e⟩
   |ins C dx fs=>obtain⟨_,_,_,e,_⟩:=x;exact⟨_,e⟩
   |ext φ=>obtain⟨_,⟨_,e⟩,_⟩:=x;exact⟨_,e⟩
   |_=>exact dY mu
 obtain⟨od,e⟩:=ex;have new:iq X.prog X.w (cE H d (.lQ od u)) s.heap d (.lQ od u):=by refine⟨e,x.stay (λb v _ q=>q) (λb q=>?_) λb xs q=>?_⟩;(·rw[aM (λz=>by rw[z,h]at q;cases q;exact mu)];exact q);rw[aM (λz=>by rw[z,h]at q;cases q;exact mu)];exact q
 exact⟨od,I.write (x:=d) (e:=d) (t':=s.toks) (h':=s.heap) (by rw[h];exact mu) (.inl rfl) (λb v _ q=>q) ⟨od,e⟩ new⟩
theorem cG.Fg(I:cG X au Z H s)(h:H d=some u)(mu:VV (some u)):∀o' u',X.RZ d≠some (.lQ o' u'):=λo' u' e=>by have q:=I.base.zN d o' u' e;rw[h]at q;cases q;exact mu
theorem cG.unlock(I:cG X au Z H s)(h:H d=some (.lQ od u))(hn:∀o' u',X.RZ d≠some (.lQ o' u')):cG X au Z (cE H d u) s:=by
 have Zk:∀b o,H b=some o->(∀o' u',o≠.lQ o' u')->b≠d:=λb o e hne z=>by rw[z,h]at e;cases e;exact hne _ _ rfl
 have neN:∀b,H b=none->b≠d:=λb e z=>by rw[z,h]at e;cases e
 refine⟨I.ok,I.os,I.bare,⟨I.base.keep,I.base.slot,λb o e n hx=>?_,I.base.there,λb xs e=>?_,λb o x e=>?_,λb ps e=>?_⟩,I.loc,I.cell,?_,λx c e=>?_,λp hp=>?_,λb o e=>?_,I.len⟩;.rw[aM (neN b (I.base.free b o e n hx))];exact I.base.free b o e n hx
 .have q:=I.base.tups b xs e;rw[aM (Zk b _ q (λ_ _ z=>nomatch z))];exact q
 .have q:=I.base.zN b o x e;rw[aM (λz=>by rw[z]at e;exact hn _ _ e)];exact q
 .obtain⟨m,q⟩:=I.base.CU b ps e;exact⟨m,by rw[aM (Zk b _ q (λ_ _ z=>nomatch z))];exact q⟩
 .rw[aM (neN _ I.free)];exact I.free
 .rw[aM (neN c (I.pX x c e))];exact I.pX x c e
 .obtain⟨e,n,r⟩:=I.pin p hp;exact⟨e,by rw[aM (neN _ n)];exact n,r⟩
 by_cases hb:b=d;.rw[hb,am]at e;cases e;rw[hb];obtain⟨_,x⟩:=I.fQ d _ h;exact x.stay (λc v _ q=>q) (λc q=>by rw[aM (Zk c _ q (λ_ _ z=>nomatch z))];exact q) λc xs q=>by rw[aM (Zk c _ q (λ_ _ z=>nomatch z))];exact q
 rw[aM hb]at e;exact(I.fQ b o e).stay (λc v _ q=>q) (λc q=>by rw[aM (Zk c _ q (λ_ _ z=>nomatch z))];exact q) λc xs q=>by rw[aM (Zk c _ q (λ_ _ z=>nomatch z))];exact q
end
def Oe(t:TS):TS:=λD Z H=>∃d u,H d=some u/\VV (some u)/\∀od,t ⟨λZ' H'=>H' d=some (.lQ od u)/\D.nx Z' (cE H' d u),λv H'=>H' d=some (.lQ od u)/\D.rt v (cE H' d u),λZ' H'=>H' d=some (.lQ od u)/\D.bk Z' (cE H' d u),λZ' H'=>H' d=some (.lQ od u)/\D.ct Z' (cE H' d u)⟩ Z (cE H d (.lQ od u))
section
variable {X:Cx}
theorem J3{st:rm}{t:TS}(h:PS X st t):PS X st (Oe t):=by
 intro au s Z H D I hw;obtain⟨d,u,hd,mu,hw⟩:=hw;obtain⟨od,I1⟩:=I.lock hd mu;refine i4 (h au s Z _ _ I1 (hw od)) λf s1 q=>?_;cases f with
  |next=>obtain⟨Z',H',I2,e,q⟩:=q;exact⟨Z',_,I2.unlock e (I.Fg hd mu),q⟩
  |brk=>obtain⟨Z',H',I2,e,q⟩:=q;exact⟨Z',_,I2.unlock e (I.Fg hd mu),q⟩
  |cont=>obtain⟨Z',H',I2,e,q⟩:=q;exact⟨Z',_,I2.unlock e (I.Fg hd mu),q⟩
  |ret v=>obtain⟨x,Z',H',I2,r,e,q⟩:=q;exact⟨x,Z',_,I2.unlock e (I.Fg hd mu),r,q⟩
theorem OX{R:It->Hp->Prop}{tn:Nat->f9->Prop}(I:cG X au Z H s)(o:kY)(T:Turn X.prog X.w X.K tg J [s.heap.objs.size] s.heap.objs.size tn)(st:tn 0 (s.heap.push o))(q:R J H):PIE X au Z tg R (.ref s.heap.objs.size) {s with heap:=s.heap.push o,toks:=tk}:=by
 refine⟨s.heap.objs.size,[s.heap.objs.size],tn,J,H,rfl,I.kept λb ob e=>bx _ e,T,st,λb hb=>?_,q⟩;have e:b=s.heap.objs.size:=by simpa using hb
 subst e;exact I.MD (aw _) (I.fQ.fresh (aw _))
end
noncomputable def ZX(lo c:Int)(n:Nat):It:=⟨λi _=>i<n,λi H x H'=>H'=H/\x=.int (lo+(i:Nat)*c),λi _=>n<=i⟩
theorem EI{P:cI}{w:eU}{K:ai}{tg:gA}(it:aH)(lo c:Int)(n:Nat):Turn P w K tg (ZX lo c n) [it] it (λi h=>CK h it (lo+(i:Nat)*c) ((n:Int)-(i:Nat)) c) where
 mem:=by simp
 obj:=λi h st b hb=>by
  have e:b=it:=by simpa using hb
  subst e
  exact⟨_,st,λv z=>nomatch z⟩
 keep:=λi h h' st k=>k it (by simp) _ st
 item:=by
  intro X hP hw hK hc i au s Z H E I hf st hg
  subst hP hw hK
  obtain⟨f0,f1,f2,f3,f4,f5⟩:=hf it (by simp)
  have W:=Walks.range (prog:=X.prog) (w:=X.w) (I.ok.hd hc) it lo c n
  refine W.item i s _ _ hg st λv h' tk hv Sm kk=>?_
  obtain⟨t,rfl⟩:=hv
  have I1:cG X au Z H {s with heap:=h',toks:=tk}:=I.oY (λb o hb e=>kk b o (by simpa using hb) e) f0 f1 f3 f4 f5
  exact⟨_,rfl,Qt (s:={s with heap:=h',toks:=tk}) (n:="range_iterator") Sm rfl rfl ∅ ⟨.int (lo+(i:Nat)*c),H,I1,⟨t,rfl⟩,⟨rfl,rfl⟩,Sm,λb hb=>(hf b hb).1⟩⟩
 done:=by
  intro X hP hw hK hc i au s Z H E I hf st hg
  subst hP hw hK
  obtain⟨f0,f1,f2,f3,f4,f5⟩:=hf it (by simp)
  exact Nb (I.ok.hd hc) st (by have:n<=i:=hg;omega) λh' eb=>⟨rfl,I.oY (t':=s.toks) (λb o hb e=>eb b o hb e) f0 f1 f3 f4 f5⟩
 self:=λA i s Q E st h=>Nc st h
def ZW(i j c:Int)(n:Nat):Prop:=c≠0/\c.natAbs<1073741824/\Builtin.Range.small i j c=true/\nF i j c=n
theorem ZW.neg(ha:-(2^62)<=i)(ha':i<2^62)(hb:-(2^62)<=j)(hb':j<2^62):ZW i j (-1) (i-j).toNat:=⟨∅,∅,PySem.W.small_down ha ha' hb hb',PySem.W.rangeSize_downNat i j⟩
def PM(ta:TA):TI:=λZ H R=>ta Z H λvs H1=>∃(i j c:Int) (n:Nat),vs=[.int i,.int j,.int c]/\ZW i j c n/\R (ZX i c n) H1
section
variable {X:Cx}{tg:gA}
theorem BN(hg:Gl X "range")(hm:X.mg "range"=none)(ha:PA X [a,b,c] ta)(hs:b8 [a,b,c] X.env=(false,gG a X.env)::b8 [b,c] X.env:=by rfl)(hpl:(lX pos (b8 [b,c] X.env)).any (·.1)=false:=by rfl):PI X tg (.Call (.Name "range" p) [a,b,c] [] pos) (PM ta):=by
 intro au s Z H R I h;refine Call_ (qC I hg hm UL (d_ (i4 (ha pos au s Z H _ I h) λus s1 hq=>?_) hs hpl));obtain⟨vs,H1,I1,r1,q1⟩:=hq;obtain⟨i,j,k,n,e,⟨c0,c1,c2,c3⟩,q⟩:=q1;subst e;cases r1 with
  |cons r rr=>
   cases rr with
    |cons r' rr=>
     cases rr with
      |cons r'' rr=>cases rr;obtain⟨t,rfl⟩:=r;obtain⟨t',rfl⟩:=r';obtain⟨t'',rfl⟩:=r'';refine call_range_3 c0 ?_ (.inl (PyProof.noPylong_small c1));refine UF (Eb ..) c2 ?_;have I2:cG X au Z H1 {s1 with heap:=s1.heap.push {cls:=.type "range",data:=.fields #[.int i t,.int j t',.int k t'']}}:=I1.kept (t':=s1.toks) λb o e=>bx _ e;refine OX (tk:=s1.toks) I2 _ (EI _ i k n) ?_ q;(have e1:i+((0:Nat):Int)*k=i:=by simp);(have e2:(n:Int)-((0:Nat):Int)=nF i j k:=by rw[c3];simp);show CK _ _ (i+((0:Nat):Int)*k) ((n:Int)-((0:Nat):Int)) k;rw[e1,e2];exact cD _ rfl
end
theorem ID{lo c:Int}{n:Nat}{g:TG}{tb:TS}{D:Ends}{Z:St}{H:Hp}(Pv:Nat->St->Hp->Prop)(h0:Pv 0 Z H)(hs:∀i Z H,i<n->Pv i Z H->g (.int (lo+(i:Nat)*c)) Z H λσ2 H2=>tb {D with nx:=Pv (i+1),ct:=Pv (i+1),bk:=D.nx} σ2 H2)(hd:∀Z H,Pv n Z H->D.nx Z H):∃W:Nat->Nat->St->Hp->Prop,(∃m,W 0 m Z H)/\∀i m Z H,W i m Z H->((ZX lo c n).stop i H/\D.nx Z H)\/((ZX lo c n).go i H/\∃N:St->Hp->Prop,(∀Z' H',N Z' H'->∃m',m'<m/\W (i+1) m' Z' H')/\∀x H',(ZX lo c n).Lr i H x H'->g x Z H' λσ2 H2=>tb {D with nx:=N,ct:=N,bk:=D.nx} σ2 H2):=by
 refine⟨λi m Z H=>m=n-i/\i<=n/\Pv i Z H,⟨n,by simp,bX _,h0⟩,?_⟩;rintro i m Z H ⟨rfl,hi,p⟩;by_cases hlt:i<n;.refine .inr ⟨hlt,Pv (i+1),λZ' H' p'=>⟨n-(i+1),by omega,rfl,hlt,p'⟩,λx H' y=>?_⟩;obtain⟨e,y⟩:=y;subst e y;exact hs i Z _ hlt p
 have e:i=n:=by omega
 subst e;exact .inl ⟨aw _,hd Z H p⟩
theorem PF{κ:Type}{kvs:List (κ×V)}{vs:List (κ×aI)}(h:KV kvs vs):∀{i:Nat} {k:κ} {v:V},kvs[i]?=some (k,v)->∃u,vs[i]?=some (k,u)/\eM v u:=by
 unfold KV at h;induction h with
  |nil=>intro i k v e;simp at e
  |@cons a b l₁ l₂ r t ih=>
   intro i k v e;cases i with
    |zero=>simp only[eI,gb]at e;subst e;refine⟨b.2,?_,r.2⟩;simp only[eI];exact aK some (Prod.ext r.1.symm rfl)
    |succ j=>simp only[ji]at e ⊢;exact ih e
theorem E3(h:xh k u=true):eM (kV k) u:=by
 rcases gP h with⟨i,t,rfl,rfl⟩|⟨x,t,rfl,rfl⟩;.exact⟨t,rfl⟩
 exact⟨t,rfl⟩
section
variable {X:Cx}{au:List (aH×kY)}{Z:St}{H:Hp}{s:aU}{d:aH}{o:kY}
theorem cG.YF{kvs:List (Key×V)}(I:cG X au Z H s)(h:H d=some (.lQ o (.dK kvs))):(d==kR)=false/\s.heap.get? d=some o/\o.ExactDict/\∃es ep vs,o.data=.dict es ep/\es.size=kvs.length/\KV kvs vs/\s.heap.DictAt (iM X.prog X.w) d vs ep:=by obtain⟨hd,z,hs,vs,kv,o',es,ep,ho,hx,hdt,r⟩:=I.fQ d _ h;rw[hd]at ho;cases ho;refine⟨hs,hd,hx,es,ep,vs,hdt,?_,kv,o,es,hd,hx,hdt,r⟩;have l1:=r.2.1.length;have l2:=jy kv;rw[cX]at l1;omega
end
noncomputable def Iti(d:aH)(o:kY)(kvs:List (Key×V)):It:=⟨λi H=>H d=some (.lQ o (.dK kvs))/\i<kvs.length,λi H x H'=>∃T k v,kvs[i]?=some (k,v)/\x=.ref T/\H T=none/\H'=cE H T (.tup [kV k,v]),λi H=>H d=some (.lQ o (.dK kvs))/\kvs.length<=i⟩
theorem KR{o:kY}{es VN:Array DictEntry}{ep VP:Nat}(h:o.data=.dict es ep)(h':o.data=.dict VN VP):VN=es/\VP=ep:=by rw[h]at h';cases h';exact⟨rfl,rfl⟩
section
variable {P:cI}{w:eU}{K:ai}{tg:gA}{d:aH}{o:kY}{es:Array DictEntry}{ep:Nat}
theorem Hs{kvs:List (Key×V)}{zU:List gA}{kk:Nat}{uK:Et}(it:aH)(hod:o.data=.dict es ep):
  Turn P w K (.Tuple zU kk uK) (Iti d o kvs) [it] it (λi h=>∃ok ov,IsItemIter h it d i kvs.length ep ok ov) where
 mem:=by simp
 obj:=λi h st b hb=>by
  have e:b=it:=by simpa using hb
  subst e
  obtain⟨ok,ov,e⟩:=st
  exact⟨_,e,λv z=>nomatch z⟩
 keep:=λi h h' st k=>let ⟨ok,ov,e⟩:=st;⟨ok,ov,k it (by simp) _ e⟩
 item:=by
  intro X hP hw hK hc i au s Z H E I hf st hg
  subst hP hw hK
  obtain⟨hd,hi⟩:=hg
  obtain⟨hs,yu,hx,VN,VP,vs,hdt,hsz,kv,hm⟩:=I.YF hd
  obtain⟨rfl,rfl⟩:=KR hod hdt
  obtain⟨⟨k,v⟩,hkv⟩:∃p,kvs[i]?=some p:=⟨kvs[i],aa hi⟩
  obtain⟨u,hu,ru⟩:=PF kv hkv
  have hl:=jy kv
  obtain⟨ok,ov,he⟩:=st
  rw[hl]at he
  have hlt:=bG he
  refine wpAny_pyNext_items_item he hm hu λkey h' TV ho hT hz hk=>?_
  refine⟨_,rfl,wpAny_letOwnedTupleGo_items (s:={s with heap:=h'}) ho λT2 he' sb=>?_⟩
  have hT2:=(sb.2 _ (rA hlt)).trans hT
  have new:iq X.prog X.w (cE H s.heap.objs.size (.tup [kV k,v])) T2 s.heap.objs.size (.tup [kV k,v]):=
   ⟨by show 2<=bn;decide,[key,u],.cons (E3 (show xh k key=true from TV)) (.cons ru .nil),⟨_,hT2,rfl,_,rfl⟩⟩
  have I1:cG X au Z (cE H s.heap.objs.size (.tup [kV k,v])) {s with heap:=T2}:=
   I.wf (t':=s.toks) (ch:=[it]) (λb ob hb e=>(sb.2 b (by simpa using hb)).trans (hk b ob (by simpa using hb) e)) hf (aw _) new
  refine⟨.ref s.heap.objs.size,_,I1,rfl,⟨_,k,v,hkv,rfl,I.fQ.fresh (aw _),rfl⟩,⟨key,u,?_⟩,λb hb=>?_⟩
  .rw[hl];exact he'
  .have e:b=it:=by simpa using hb
   rw[e,aM (cN hlt)]
   exact(hf it (by simp)).1
 done:=by
  intro X hP hw hK hc i au s Z H E I hf st hg
  subst hP hw hK
  obtain⟨hd,hi⟩:=hg
  obtain⟨f0,f1,f2,f3,f4,f5⟩:=hf it (by simp)
  obtain⟨hs,yu,hx,VN,VP,vs,hdt,hsz,kv,hm⟩:=I.YF hd
  obtain⟨rfl,rfl⟩:=KR hod hdt
  have hl:=jy kv
  obtain⟨ok,ov,he⟩:=st
  rw[hl]at he
  exact wpAny_pyNext_items_end (I.ok.hd hc) he hm (aG (by omega)) λh' eb=>⟨rfl,I.oY (t':=s.toks) (λb ob hb e=>eb b ob hb e) f0 f1 f3 f4 f5⟩
 self:=λA i s Q E st h=>let ⟨_,_,e⟩:=st;PySem.W.kcp_self e h
end
def Ik(td:TE):TI:=λZ H R=>td Z H λx H1=>∃d o kvs,x=.ref d/\H1 d=some (.lQ o (.dK kvs))/\R (Iti d o kvs) H1
section
variable {X:Cx}{tg e:gA}{td:TE}{xP zZ:Et}
theorem E9(he:PE X e td)(Ql:xB e "items" X.env (gG e X.env)=gG e X.env:=by rfl)(P8:(xP.endLine==zZ.line)=true:=by rfl):PI X (.Tuple zU kk uK) (.Call (.Attribute e "items" xP) [] [] zZ) (Ik td):=by
 intro au s Z H R I h;refine wpAny_Call_method (T:="dict") (id:="dict.items") Ql rfl P8 F.plainAttrs_dict Sb F.type_dict_items (i4 (he au s Z H _ I h) λu s1 hq=>?_);obtain⟨x,H1,I1,rx,d,o,kvs,ex,hd,q⟩:=hq;subst ex;obtain rfl:u=ci d:=rx;obtain⟨hs,yu,hx,es,ep,vs,hdt,hsz,kv,hm⟩:=I1.YF hd;have hl:=jy kv;refine⟨hm.dictOf.typeIs,hm.dictOf.mapOf.noDict,?_⟩;have I2:cG X au Z H1 {s1 with heap:=s1.heap.push {cls:=.type "dict_items",data:=.fields #[.ref d]}}:=I1.kept (t':=s1.toks) λb ob q=>bx _ q;have fin:wpAny (b7 X.prog X.w) X.A (UJ (.ref s1.heap.objs.size)) (PIE X au Z (.Tuple zU kk uK) R) X.xe {s1 with heap:=s1.heap.push {cls:=.type "dict_items",data:=.fields #[.ref d]}}:=by refine wpAny_pyIter_items (d:=d) (knd:=iM X.prog X.w) ⟨_,cD _ rfl,rfl,rfl⟩ (hm.push _) (OX (tk:=s1.toks) I2 _ (Hs _ hdt) ⟨.none,.none,?_⟩ q);rw[hl];exact cD _ rfl
 show wpAny _ _ (callWith zZ (.builtin "dict.items") [.ref d] [] []) _ X.xe s1;exact method_meetsIn Sb F.entry_dict_items rfl (PySem.evalArgs_none ⟨rfl,hm.dictOf.typeIs,F.args_dict_items_1 _,_,meets_dict_items (iM X.prog X.w) d hs,⟨vs,hm.dictOf⟩,fin⟩)
end
noncomputable def UC(K:ai)(a:aH):It:=⟨λi H=>∃(xs:List V) (x:V),cu K H a xs/\xs[i]?=some x,λi H v H'=>∃T x,v=.ref T/\H T=none/\H'=cE H T (.tup [.int (i:Nat),x])/\∀xs,cu K H a xs->xs[i]?=some x,λi H=>∃xs:List V,cu K H a xs/\xs.length<=i⟩
theorem Lv{P:cI}{w:eU}{K:ai}{zU:List gA}{kk:Nat}{uK:Et}(a e it:aH):
  Turn P w K (.Tuple zU kk uK) (UC K a) [e,it] e (λi h=>(∃Vj,IsEnum h e it ((i:Nat):Int) Vj)/\h.IsListIter it a i/\e≠it) where
 mem:=by simp
 obj:=λi h st b hb=>by
  obtain⟨⟨Vj,he⟩,⟨o,ho,hc,hd⟩,_⟩:=st
  have e':b=e\/b=it:=by simpa using hb
  rcases e' with z|z
  .rw[z];exact⟨_,he,λv q=>nomatch q⟩
  .rw[z];exact⟨o,ho,λv q=>by rw[hd]at q;cases q⟩
 keep:=λi h h' st k=>let ⟨⟨Vj,he⟩,hi,hne⟩:=st;⟨⟨Vj,k e (by simp) _ he⟩,hi.at λo q=>k it (by simp) o q,hne⟩
 item:=by
  intro X hP hw hK hc i au s Z H E I hf st hg
  subst hP hw hK
  obtain⟨⟨Vj,he⟩,ZE,hne⟩:=st
  obtain⟨xs,x,hq,hx⟩:=hg
  obtain⟨its,rv,p,hz⟩:=I.list hq
  obtain⟨u,hu,ru⟩:=rv.get hx
  have hel:=bG he
  have hil:it<s.heap.objs.size:=by obtain⟨_,q,_⟩:=ZE;exact bG q
  refine wpAny_pyNext_enum_item he ZE p.isList (x:=u) (by simpa using hu) hne λh' ho af5 hT hsz hk=>?_
  refine⟨_,rfl,wpAny_letOwnedTupleGo_enum (s:={s with heap:=h',toks:=s.toks+1}) ho λT2 he' sb=>?_⟩
  have hT2:=(sb.2 _ (rA hel)).trans hT
  have new:iq X.prog X.w (cE H s.heap.objs.size (.tup [.int (i:Nat),x])) T2 s.heap.objs.size (.tup [.int (i:Nat),x]):=
   ⟨by show 2<=bn;decide,[.int i s.toks,u],.cons ⟨_,rfl⟩ (.cons ru .nil),⟨_,hT2,rfl,_,rfl⟩⟩
  have I1:cG X au Z (cE H s.heap.objs.size (.tup [.int (i:Nat),x])) {s with heap:=T2,toks:=s.toks+1}:=
   I.wf (ch:=[e,it]) (λb ob hb q=>(sb.2 b (λz=>hb (by simp[z]))).trans (hk b ob (λz=>hb (by simp[z])) (λz=>hb (by simp[z])) q)) hf (aw _) new
  refine⟨.ref s.heap.objs.size,_,I1,rfl,⟨_,x,rfl,I.fQ.fresh (aw _),rfl,λys hy=>by rw[I.u_ hy hq];exact hx⟩,⟨⟨u,?_⟩,af5.at λo q=>(sb.2 it (lC hne)).trans q,hne⟩,λb hb=>?_⟩
  .have e1:((i+1:Nat):Int)=(i:Int)+1:=by omega
   rw[e1];exact he'
  .have hb':b<s.heap.objs.size:=by
    have e':b=e\/b=it:=by simpa using hb
    rcases e' with z|z
    .rw[z];exact hel
    .rw[z];exact hil
   rw[aM (cN hb')]
   exact(hf b hb).1
 done:=by
  intro X hP hw hK hc i au s Z H E I hf st hg
  subst hP hw hK
  obtain⟨⟨Vj,he⟩,ZE,hne⟩:=st
  obtain⟨xs,hq,hx⟩:=hg
  obtain⟨its,rv,p,hz⟩:=I.list hq
  obtain⟨f0,f1,f2,f3,f4,f5⟩:=hf it (by simp)
  have hl:=rv.length
  exact wpAny_pyNext_enum_end (I.ok.hd hc) he ZE p.isList (by simp;omega) λh' eb=>⟨rfl,I.oY (t':=s.toks) (λb o hb q=>eb b o hb q) f0 f1 f3 f4 f5⟩
 self:=λA i s Q E st h=>let ⟨⟨_,he⟩,_⟩:=st;wpAny_pyIter_enum he h
def FC(K:ai)(ta:TA):TI:=λZ H R=>ta Z H λvs H1=>∃a xs,vs=[.ref a]/\cu K H1 a xs/\R (UC K a) H1
theorem ny{X:Cx}{e:gA}{ta:TA}{p pos uK:Et}{zU:List gA}{kk:Nat}(hg:Gl X "enumerate")(hm:X.mg "enumerate"=none)(ha:PA X [e] ta)(hs:b8 [e] X.env=[(false,gG e X.env)]:=by rfl):PI X (.Tuple zU kk uK) (.Call (.Name "enumerate" p) [e] [] pos) (FC X.K ta):=by
 intro au s Z H R I h;refine Call_ (qC I hg hm boot_enumerate (d_ (i4 (ha pos au s Z H _ I h) λus s1 hq=>?_) hs rfl));obtain⟨vs,H1,I1,r1,q1⟩:=hq;obtain⟨a,xs,ex,hq,q⟩:=q1;subst ex;cases r1 with
  |cons r rr=>cases rr;cases r;obtain⟨its,rv,p',hz⟩:=I1.list hq;refine call_enumerate_list p'.isList λh' he ZE hsz hk=>wpAny_pyIter_enum he ?_;have I2:=I1.kept (t':=s1.toks) hk;refine⟨s1.heap.objs.size+1,[s1.heap.objs.size+1,s1.heap.objs.size],_,_,H1,rfl,I2,Lv a (s1.heap.objs.size+1) s1.heap.objs.size,⟨⟨.none,he⟩,ZE,Nat.succ_ne_self _⟩,λb hb=>?_,q⟩;(have e':b=s1.heap.objs.size+1\/b=s1.heap.objs.size:=by simpa using hb);(have hle:s1.heap.objs.size<=b:=by rcases e' with z|z;(·rw[z];exact mV _ _);rw[z];exact aw _);exact I1.MD hle (I1.fQ.fresh hle)
theorem MM:pk "zip"=some (.type "zip"):=by decide+kernel
noncomputable def Itz(K:ai)(a b:aH):It:=⟨λi H=>∃(xs ys:List V) (x y:V),cu K H a xs/\cu K H b ys/\xs[i]?=some x/\ys[i]?=some y,λi H v H'=>∃T x y,v=.ref T/\H T=none/\H'=cE H T (.tup [x,y])/\(∀xs,cu K H a xs->xs[i]?=some x)/\∀ys,cu K H b ys->ys[i]?=some y,λi H=>∃xs ys:List V,cu K H a xs/\cu K H b ys/\(xs.length<=i\/ys.length<=i)⟩
theorem N5{P:cI}{w:eU}{K:ai}{zU:List gA}{kk:Nat}{uK:Et}{a b z TI TO i1 i2:aH}(D:ZipApart z TI TO i1 i2 a b):
  Turn P w K (.Tuple zU kk uK) (Itz K a b) [z,TI,TO,i1,i2] z (λi h=>IsZip h z TI TO .none/\IsPair h TI (.ref i1) (.ref i2)/\(∃x y,IsPair h TO x y)/\h.IsListIter i1 a i/\h.IsListIter i2 b i) where
 mem:=by simp
 obj:=λi h st c hc=>by
  obtain⟨hz,Qp,⟨x,y,RS⟩,⟨o1,e1,_,d1⟩,⟨o2,e2,_,d2⟩⟩:=st
  have e':c=z\/c=TI\/c=TO\/c=i1\/c=i2:=by simpa using hc
  rcases e' with q|q|q|q|q
  .rw[q];exact⟨_,hz,λv q=>nomatch q⟩
  .rw[q];exact⟨_,Qp,λv q=>nomatch q⟩
  .rw[q];exact⟨_,RS,λv q=>nomatch q⟩
  .rw[q];exact⟨o1,e1,λv q=>by rw[d1]at q;cases q⟩
  .rw[q];exact⟨o2,e2,λv q=>by rw[d2]at q;cases q⟩
 keep:=λi h h' st k=>by
  obtain⟨hz,Qp,⟨x,y,RS⟩,h1,h2⟩:=st
  exact⟨k z (by simp) _ hz,k TI (by simp) _ Qp,⟨x,y,k TO (by simp) _ RS⟩,h1.at λo q=>k i1 (by simp) o q,h2.at λo q=>k i2 (by simp) o q⟩
 item:=by
  intro X hP hw hK hc i au s Z H E I hf st hg
  subst hP hw hK
  obtain⟨hz,Qp,⟨x0,y0,RS⟩,h1,h2⟩:=st
  obtain⟨xs,ys,x,y,Zx,Zw,hx,hy⟩:=hg
  obtain⟨its,rv,p,_⟩:=I.list Zx
  obtain⟨its2,rv2,p2,_⟩:=I.list Zw
  obtain⟨u,hu,ru⟩:=rv.get hx
  obtain⟨u2,hu2,ru2⟩:=rv2.get hy
  have Kt:=bG hz
  refine wpAny_pyNext_zip_item D hz Qp RS h1 h2 p.isList p2.isList (x:=u) (y:=u2) (by simpa using hu) (by simpa using hu2) λh' z' TO' FQ ZS hT hsz hk=>?_
  refine⟨_,rfl,wpAny_letOwnedTupleGo_zip (s:={s with heap:=h'}) z' λT2 z'' sb=>?_⟩
  have hT2:=(sb.2 _ (rA Kt)).trans hT
  have new:iq X.prog X.w (cE H s.heap.objs.size (.tup [x,y])) T2 s.heap.objs.size (.tup [x,y]):=
   ⟨by show 2<=bn;decide,[u,u2],.cons ru (.cons ru2 .nil),⟨_,hT2,rfl,_,rfl⟩⟩
  have I1:cG X au Z (cE H s.heap.objs.size (.tup [x,y])) {s with heap:=T2}:=
   I.wf (t':=s.toks) (ch:=[z,TI,TO,i1,i2]) (λc o hb q=>(sb.2 c (λq'=>hb (by simp[q']))).trans (hk c o (λq'=>hb (by simp[q'])) (λq'=>hb (by simp[q'])) (λq'=>hb (by simp[q'])) (λq'=>hb (by simp[q'])) q)) hf (aw _) new
  refine⟨.ref s.heap.objs.size,_,I1,rfl,⟨_,x,y,rfl,I.fQ.fresh (aw _),rfl,λl hl=>by rw[I.u_ hl Zx];exact hx,λl hl=>by rw[I.u_ hl Zw];exact hy⟩,⟨z'',?_,⟨u,u2,?_⟩,?_,?_⟩,λc Yt=>?_⟩
  .exact(sb.2 _ D.TIz).trans (hk _ _ D.TIz D.TITO D.TIi1 D.TIi2 Qp)
  .exact(sb.2 _ D.TOz).trans TO'
  .exact FQ.at λo q=>(sb.2 _ D.i1z).trans q
  .exact ZS.at λo q=>(sb.2 _ D.i2z).trans q
  .have hlt:c<s.heap.objs.size:=by
    have e':c=z\/c=TI\/c=TO\/c=i1\/c=i2:=by simpa using Yt
    rcases e' with q|q|q|q|q
    .rw[q];exact Kt
    .rw[q];exact bG Qp
    .rw[q];exact bG RS
    .rw[q];obtain⟨_,e1,_⟩:=h1;exact bG e1
    .rw[q];obtain⟨_,e2,_⟩:=h2;exact bG e2
   rw[aM (cN hlt)]
   exact(hf c Yt).1
 done:=by
  intro X hP hw hK hc i au s Z H E I hf st hg
  subst hP hw hK
  obtain⟨hz,Qp,⟨x0,y0,RS⟩,h1,h2⟩:=st
  obtain⟨xs,ys,Zx,Zw,hend⟩:=hg
  obtain⟨its,rv,p,_⟩:=I.list Zx
  obtain⟨its2,rv2,p2,_⟩:=I.list Zw
  have l1:=rv.length
  have l2:=rv2.length
  have he:its.toArray[i]?=none\/its2.toArray[i]?=none:=by
   rcases hend with q|q
   .exact .inl (by simp;omega)
   .exact .inr (by simp;omega)
  exact wpAny_pyNext_zip_end (I.ok.hd hc) D hz Qp RS h1 h2 p.isList p2.isList he λh' hk=>⟨rfl,I.Sd (t':=s.toks) (ch:=[z,TI,TO,i1,i2]) (λc o hb q=>
   hk c o (λq'=>hb (by simp[q'])) (λq'=>hb (by simp[q'])) (λq'=>hb (by simp[q'])) (λq'=>hb (by simp[q'])) q) hf⟩
 self:=λA i s Q E st h=>wpAny_pyIter_zip st.1 h
def abF(K:ai)(ta:TA):TI:=λZ H R=>ta Z H λvs H1=>∃a b xs ys,vs=[.ref a,.ref b]/\cu K H1 a xs/\cu K H1 b ys/\R (Itz K a b) H1
theorem WU{X:Cx}{e e2:gA}{ta:TA}{p pos uK:Et}{zU:List gA}{kk:Nat}(hg:Gl X "zip")(hm:X.mg "zip"=none)(ha:PA X [e,e2] ta)(hs:b8 [e,e2] X.env=(false,gG e X.env)::b8 [e2] X.env:=by rfl)(hpl:(lX pos (b8 [e2] X.env)).any (·.1)=false:=by rfl):PI X (.Tuple zU kk uK) (.Call (.Name "zip" p) [e,e2] [] pos) (abF X.K ta):=by
 intro au s Z H R I h;refine Call_ (qC I hg hm MM (d_ (i4 (ha pos au s Z H _ I h) λus s1 hq=>?_) hs hpl));obtain⟨vs,H1,I1,r1,q1⟩:=hq;obtain⟨a,b,xs,ys,ex,Zx,Zw,q⟩:=q1;subst ex;cases r1 with
  |cons r rr=>
   cases rr with
    |cons r' rr=>cases rr;cases r;cases r';obtain⟨its,rv,p1,_⟩:=I1.list Zx;obtain⟨its2,rv2,p2,_⟩:=I1.list Zw;have la:=p1.lt;have lb:=p2.lt;refine call_zip_2 p1.isList p2.isList λh' hz Qp RS h1 h2 hsz hk=>wpAny_pyIter_zip hz ?_;have I2:=I1.kept (t':=s1.toks) hk;refine⟨s1.heap.objs.size+4,[s1.heap.objs.size+4,s1.heap.objs.size+2,s1.heap.objs.size+3,s1.heap.objs.size,s1.heap.objs.size+1],_,_,H1,rfl,I2,N5 (PySem.W.ktu_apart s1.heap.objs.size a b la lb),⟨hz,Qp,⟨_,_,RS⟩,h1,h2⟩,λc Yt=>?_,q⟩;(have e':c=s1.heap.objs.size+4\/c=s1.heap.objs.size+2\/c=s1.heap.objs.size+3\/c=s1.heap.objs.size\/c=s1.heap.objs.size+1:=by simpa using Yt);(have hle:s1.heap.objs.size<=c:=by rcases e' with z|z|z|z|z;(·rw[z];exact mV _ _);(·rw[z];exact mV _ _);(·rw[z];exact mV _ _);(·rw[z];exact aw _);rw[z];exact mV _ _);exact I1.MD hle (I1.fQ.fresh hle)
noncomputable abbrev je:Rt:=λ_ _ _ _ _ _=>False
noncomputable abbrev E0:XK:=λ_ _ _=>False
theorem uT:Passes je X E0:=λ_ _ _ _ _ _ _ h=>h.elim
structure uF(K:ai)(x jj:cJ)(st:rm)(f:aH)(fd:fY):Prop where
 ex:∃(oc:aI) (od:Option aH) (kV IK pm:aI) (an:Option aH) (tO ct:aI) (RK:Array (Option aI)),
  fd=nh x jj (vA st) (qG st) (jx st) .none kV IK pm an tO ct/\K.lookup f=some ⟨oc,od,.func fd,RK⟩/\x6 K tO jj=true
 kp:jO K (.ref f)=true
section
variable {P:cI}{w:eU}{K:ai}{mg:cJ->Option aI}{base:f9}
theorem uF.ok{x jj:cJ}{st:rm}{f:aH}{fd:fY}{N ps:List cJ}{k:Nat}{sp:Sp}(F:uF K x jj st f fd)(S:mF N ps (jx st))(len:∀vs H Q E,sp vs H Q E->vs.length=ps.length)(FP:∀tO A outer s H vs Q E,j_ k (A.deeper (vP jj (jx st) s.heap.objs.size f tO))->sp vs H Q E->∃t,K_ (DI je P w K mg base N jj (jx st) f tO A outer s H E).Zi (qG st) t/\t {nx:=λ_ H'=>Q .jk H',rt:=Q} (start N vs) H):dm P w K mg base je (k+1) f fd ps sp:=by obtain⟨oc,od,kV,IK,pm,an,tO,ct,RK,rfl,lk,hcd⟩:=F.ex;refine acP lk hcd S len λA outer s H vs Q E hr zG=>?_;obtain⟨t,h,q⟩:=FP tO A outer s H vs Q E hr zG;exact⟨t,h.Zi,q⟩
theorem uF.binds{x jj:cJ}{st:rm}{f:aH}{fd:fY}{ps:List cJ}(F:uF K x jj st f fd)(h:∀kV IK pm an tO ct us,us.length=ps.length->bindArgs (nh x jj (vA st) (qG st) (jx st) .none kV IK pm an tO ct) ⟨us,[]⟩=pure (ps.zip us)):gF K fd ps []:=by obtain⟨oc,od,kV,IK,pm,an,tO,ct,RK,rfl,lk,hcd⟩:=F.ex;exact .all (h kV IK pm an tO ct)
theorem YE{x jj:cJ}{st:rm}{f:aH}{oc:aI}{od an:Option aH}{RK:Array (Option aI)}{kV IK pm tO ct:aI}(l:K.lookup f=some ⟨oc,od,.func (nh x jj (vA st) (qG st) (jx st) .none kV IK pm an tO ct),RK⟩)(c:x6 K tO jj=true)(k:jO K (.ref f)=true):uF K x jj st f (nh x jj (vA st) (qG st) (jx st) .none kV IK pm an tO ct):=⟨⟨oc,od,kV,IK,pm,an,tO,ct,RK,rfl,l,c⟩,k⟩
end
theorem FE(hr:j_ k A):A.units+1<tW:=bS (Nat.add_le_add_left (by decide:1<=64) _) hr.units
theorem LO(h:n<=1000):n<bn:=bS h ∅
section
variable {X:Cx}
theorem pv(i:Nat)(hN:X.N[i]?=some x:=by rfl)(hv:ZU X.env.scope x:=by first|exact CH rfl|exact wa (CH rfl)|exact wa (wa rfl))(hd:(x==("__debug__":cJ))=false:=by decide)(hcd:(x==("__classdict__":cJ))=false:=by decide):PE X (.Name x pos) (Sg i):=WW hN hv hd hcd
end
theorem dA{c A B:Prop}[Decidable c](h1:c->A)(h2:¬c->B):if c then A else B:=by
 by_cases h:c;.rw[aj h];exact h1 h
 rw[ah h];exact h2 h
def bC(H H':Hp):Prop:=∀b o,H b=some o->H' b=some o
theorem bC.refl(H:Hp):bC H H:=λ_ _ h=>h
theorem bC.trans(a:bC H H1)(b:bC H1 H2):bC H H2:=λc o h=>b c o (a c o h)
theorem bC.free(e:bC H H')(h:H' l=UO):H l=UO:=by
 cases q:H l with
  |none=>rfl
  |some o=>rw[e l o q]at h;cases h
theorem bC.seq{K:ai}{H H':Hp}{a:aH}{xs:List V}(e:bC H H')(h:cu K H a xs):cu K H' a xs:=by
 rcases h with(h|⟨o,h⟩)|h;.exact .inl (.inl (e _ _ h))
 .exact .inl (.inr ⟨o,e _ _ h⟩)
 exact .inr h
section
variable {κ:Type}[DecidableEq κ]
theorem N2{kvs:List (κ×V)}{k:κ}(h:tf kvs k=none):¬k∈kvs.map (·.1):=by intro m;obtain⟨p,hp,e⟩:=ao.mp m;have q:(kvs.any λkv=>decide (kv.1=k))=true:=qt.mpr ⟨p,hp,decide_eq_true e⟩;rw[rN,h]at q;exact ap q (by simp)
end
end L2
end
section
namespace L2
open PySem PySem.Spec PyProof.Rows
section
variable {X:Cx}
theorem SN:tQ X (mO .Mult) (rI GJ λi j=>.int (i*j)):=opI λ_ _ _ _ _ _ _ hc q=>mul_int q hc
def ac9(_ j:Int):Prop:=j≠0/\j.natAbs.log2<9000
theorem uV:tQ X (mO .FloorDiv) (rI ac9 λi j=>.int (i.fdiv j)):=opI λ_ _ _ _ _ _ _ hc q=>floordiv_int hc.1 q (.inl (PyProof.noPylong_of_log2 hc.2))
def BG:R2:=λx y H Q=>HP (λi j=>.int (i+j)) x y H Q\/LU x y H Q
theorem fq:tQ X (mO .Add) BG:=W9.or W8
def BF:R2:=λx y H Q=>rI GJ (λi j=>.int (i*j)) x y H Q\/LR x y H Q
theorem ez:tQ X (mO .Mult) BF:=SN.or W7
theorem Qv:Zb X (E4 X.K):=by
 intro au s Z H x y v u Q I rx ry h;obtain⟨p,xs,i,z,rfl,rfl,hq,he,q⟩:=h;cases rx;obtain⟨t,rfl⟩:=ry;obtain⟨its,r,pl,hz⟩:=I.list hq;obtain⟨j,h1,h2,h3,h4,h5⟩:=DS he;obtain⟨w,ew,LQ⟩:=r.get h2;have hl:=r.length;have hn:=zC;have fin:EP X au Z Q w s:=⟨z,H,I,LQ,q⟩;by_cases h0:0<=i;·(have hj:i.toNat=j:=by rw[Cz h0 h5]at h1;exact aZ h1);exact wpAny_getItem_list pl.isList h0 ⋯ (by rw[hj];simpa using ew) fin
 have hj:(i+(its.toArray.size:Int)).toNat=j:=by rw[Ak ⋯ h4]at h1;rw[bc,<-hl];exact aZ h1
 exact Nd pl.isList ⋯ (by rw[bc]<;>lia) ⋯ (by rw[hj];simpa using ew) fin
theorem ML:qV X (.builtin "len") (λxs H Q=>∃p ys,xs=[.ref p]/\cu X.K H p ys/\Q (.int ys.length) H):=by intro au s Z H xs us Q I r h;obtain⟨p,ys,e,hq,q⟩:=h;exact DM au s Z H xs us Q I r ⟨p,ys,e,.inl hq,q⟩
theorem aP(h:H p=none):bC H (cE H p o):=λb u e=>by rw[aM (bB e h)];exact e
theorem dn(s:bC H0 H)(h:H0 p=none):bC H0 (cE H p o):=λb u e=>by rw[aM (bB e h)];exact s b u e
section
variable {K:ai}
theorem ixL(h:X.K=K:=by rfl):IxR X (E4 K):=by subst h;exact Tv
theorem ixT(h:X.K=K:=by rfl):IxR X (LS K):=by subst h;exact XJ
theorem slL(h:X.K=K:=by rfl):SlR X (OM K):=by subst h;exact Sr
theorem acV(h:X.K=K:=by rfl):qV X (.builtin "len") (λxs H Q=>∃p ys,xs=[.ref p]/\cu K H p ys/\Q (.int ys.length) H):=by subst h;exact ML
theorem ahe(hc:X.calm=true)(h:X.K=K:=by rfl):qV X (.builtin "sum") (aaz K):=by subst h;exact YW hc
theorem getL(h:X.K=K:=by rfl):Zb X (E4 K):=by subst h;exact Qv
theorem inL(h:X.K=K:=by rfl):tQ X (gx .In) (rIn K false):=by subst h;exact L1
theorem aeV(h:X.K=K:=by rfl):tQ X (gx .NotIn) (rIn K true):=by subst h;exact Dh
theorem Nz(hc:X.calm=true)(h:PGs X es t)(hK:X.K=K:=by rfl)(hn:(nA es X.env).length=n:=by rfl)(i5:(nA es X.env).findIdx? (·.1)=none:=by rfl):PG X (.Tuple es k pos) (MB K n t):=by subst hK;exact WV hc h hn i5
theorem Ax(hl:PE X l tl)(h:X.K=K:=by rfl):PI X tg l (tN K tl):=by subst h;exact SG hl
end
theorem y9(i j:Int):OG (.int i) (.int j)=true:=rfl
theorem QB{K:ai}{a:aH}{xs:List V}{g:TG}{tb:TS}{D:Ends}{Z:St}{H:Hp}(Pv:Nat->St->Hp->Prop)(h0:Pv 0 Z H)(hl:∀i Z H,i<=xs.length->Pv i Z H->cu K H a xs)(hs:∀i x Z H T,xs[i]?=some x->Pv i Z H->H T=none->g (.ref T) Z (cE H T (.tup [.int (i:Nat),x])) λσ2 H2=>tb {D with nx:=Pv (i+1),ct:=Pv (i+1),bk:=D.nx} σ2 H2)(hd:∀Z H,Pv xs.length Z H->D.nx Z H):∃W:Nat->Nat->St->Hp->Prop,(∃m,W 0 m Z H)/\∀i m Z H,W i m Z H->((UC K a).stop i H/\D.nx Z H)\/((UC K a).go i H/\∃N:St->Hp->Prop,(∀Z' H',N Z' H'->∃m',m'<m/\W (i+1) m' Z' H')/\∀x H',(UC K a).Lr i H x H'->g x Z H' λσ2 H2=>tb {D with nx:=N,ct:=N,bk:=D.nx} σ2 H2):=by
 refine⟨λi m Z H=>m=xs.length-i/\i<=xs.length/\Pv i Z H,⟨xs.length,by simp,bX _,h0⟩,?_⟩;rintro i m Z H ⟨rfl,hi,p⟩;have q:=hl i Z H hi p;by_cases hlt:i<xs.length;.refine .inr ⟨⟨xs,xs[i],q,by simp[hlt]⟩,Pv (i+1),λZ' H' p'=>⟨xs.length-(i+1),⋯,rfl,hlt,p'⟩,λx H' y=>?_⟩;obtain⟨T,z,rfl,hT,rfl,y⟩:=y;exact hs i z Z _ T (y xs q) p hT
 have e:i=xs.length:=⋯;subst e;exact .inl ⟨⟨xs,q,aw _⟩,hd Z H p⟩
theorem Kl{K:ai}{a:aH}{xs:List V}{g:TG}{tt:TT}{te:TE}{vs:List Nat}{Z:St}{H1:Hp}{D:aH}{Qd:Hp->Prop}(Pv:Nat->Hp->Prop)(h0:Pv 0 (cE H1 D (.lst [])))(hl:∀i H,i<=xs.length->Pv i H->cu K H a xs)(hs:∀i x H T,xs[i]?=some x->Pv i H->H T=none->g (.ref T) (gk Z vs) (cE H T (.tup [.int (i:Nat),x])) λσ2 H2=>gk σ2 vs=gk Z vs/\tt σ2 H2 λb H3=>if b=true then te σ2 H3 λy H4=>∃acc,H4 D=some (.lst acc)/\acc.length<bn/\Pv (i+1) (cE H4 D (.lst (acc++[y])))else Pv (i+1) H3)(hd:∀H,Pv xs.length H->Qd H):∃W:Nat->Nat->Hp->Prop,(∃m,W 0 m (cE H1 D (.lst [])))/\∀i m H,W i m H->((UC K a).stop i H/\Qd H)\/((UC K a).go i H/\∃Nx:Hp->Prop,(∀H',Nx H'->∃m',m'<m/\W (i+1) m' H')/\∀x H',(UC K a).Lr i H x H'->g x (gk Z vs) H' λσ2 H2=>gk σ2 vs=gk Z vs/\tt σ2 H2 λb H3=>if b=true then te σ2 H3 λy H4=>∃acc,H4 D=some (.lst acc)/\acc.length<bn/\Nx (cE H4 D (.lst (acc++[y])))else Nx H3):=by
 refine⟨λi m H=>m=xs.length-i/\i<=xs.length/\Pv i H,⟨xs.length,by simp,bX _,h0⟩,?_⟩;rintro i m H ⟨rfl,hi,p⟩;have q:=hl i H hi p;by_cases hlt:i<xs.length;.refine .inr ⟨⟨xs,xs[i],q,by simp[hlt]⟩,Pv (i+1),λH' p'=>⟨xs.length-(i+1),⋯,rfl,hlt,p'⟩,λx H' y=>?_⟩;obtain⟨T,z,rfl,hT,rfl,y⟩:=y;exact hs i z _ T (y xs q) p hT
 have e:i=xs.length:=⋯;subst e;exact .inl ⟨⟨xs,q,aw _⟩,hd H p⟩
noncomputable def L4(f:Int->V):V->V
 |.int y=>f y
 |v=>v
def tV(i:Nat):TE:=λZ H Q=>match Z[i]? with
 |some (some v)=>Q v H
 |_=>False
theorem pN(i:Nat):tV i=Sg i:=by
 funext Z H Q;unfold tV Sg;split;.rename_i v e;exact propext ⟨λq=>⟨v,e,q⟩,λ⟨u,e2,q⟩=>by rw[e]at e2;cases e2;exact q⟩
 rename_i e;exact propext ⟨dY,λ⟨u,e2,_⟩=>e u e2⟩
def Z_(i:Nat)(te:TE)(ti:ZV):TS:=λD Z H=>tV i Z H λx H0=>te Z H0 λy H1=>ti x y H1 λz H2=>jl i z Z H2 D.nx
theorem V9(i:Nat)(te:TE)(ti:ZV):Z_ i te ti=Z9 i te ti:=by unfold Z_;rw[pN];rfl
theorem l9{K:ai}{a:aH}{xs:List V}{j:Nat}{g:TG}{tb:TS}{D:Ends}{Z:St}{H:Hp}(hZ:Z[j]?=some (some (.ref a)))(hq:cu K H a xs)(Pv:Nat->St->Hp->Prop)(h0:Pv 0 Z H)(hl:∀i Z H,i<=xs.length->Pv i Z H->cu K H a xs)(hs:∀i x Z H,xs[i]?=some x->Pv i Z H->∀W,(∀Z H,Pv (i+1) Z H->W Z H)->g x Z H λσ2 H2=>tb {D with nx:=W,ct:=W,bk:=D.nx} σ2 H2)(hd:∀Z H,Pv xs.length Z H->D.nx Z H):EN (tN K (tV j)) g tb D Z H:=by simp only[pN];exact⟨_,hZ,a,rfl,⟨_,hq⟩,FR Pv h0 hl (λi x Z H h1 h2=>hs i x Z H h1 h2 _ λ_ _ z=>z) hd⟩
theorem k7{K:ai}{a:aH}{xs:List V}{j:Nat}{g:TG}{tb:TS}{D:Ends}{Z:St}{H:Hp}(hZ:Z[j]?=some (some (.ref a)))(hq:cu K H a xs)(Pv:Nat->St->Hp->Prop)(h0:Pv 0 Z H)(hl:∀i Z H,i<=xs.length->Pv i Z H->cu K H a xs)(hs:∀i x Z H T,xs[i]?=some x->Pv i Z H->H T=none->∀W:St->Hp->Prop,(∀Z H,Pv (i+1) Z H->W Z H)->g (.ref T) Z (cE H T (.tup [.int (i:Nat),x])) λσ2 H2=>tb {D with nx:=W,ct:=W,bk:=D.nx} σ2 H2)(hd:∀Z H,Pv xs.length Z H->D.nx Z H):EN (FC K (pO (tV j) xG)) g tb D Z H:=by simp only[pN];exact⟨_,hZ,a,xs,rfl,hq,QB Pv h0 hl (λi x Z H T h1 h2 h3=>hs i x Z H T h1 h2 h3 _ λ_ _ z=>z) hd⟩
theorem mI(hta:∀R,R [.int n] H1->ta Z H R)(h1:-(2^62)<=n)(h2:n<2^62)(Pv:Nat->St->Hp->Prop)(h0:Pv 0 Z H1)(hs:∀(i:Nat) Z H,(i:Int)<n->Pv i Z H->∀W:St->Hp->Prop,(∀Z H,Pv (i+1) Z H->W Z H)->g (.int (i:Int)) Z H λσ2 H2=>tb {D with nx:=W,ct:=W,bk:=D.nx} σ2 H2)(hd:∀Z H,Pv n.toNat Z H->D.nx Z H):EN (Ks ta) g tb D Z H:=hta _ ⟨n,rfl,h1,h2,ME Pv h0 (λi Z H hi hp=>by rw[GL];exact hs i Z H ⋯ hp _ λ_ _ z=>z) hd⟩
theorem yV(hta:∀R,R [.int ((n:Int)-1),.int (-1),.int (-1)] H1->ta Z H R)(h2:n<2^61)(Pv:Nat->St->Hp->Prop)(h0:Pv 0 Z H1)(hs:∀i Z H,i<n->Pv i Z H->∀W,(∀Z H,Pv (i+1) Z H->W Z H)->g (.int ((n-1-i:Nat):Int)) Z H λσ2 H2=>tb {D with nx:=W,ct:=W,bk:=D.nx} σ2 H2)(hd:∀Z H,Pv n Z H->D.nx Z H):EN (PM ta) g tb D Z H:=by
 have hr:ZW ((n:Int)-1) (-1) (-1) n:=by have:=ZW.neg (i:=(n:Int)-1) (j:=-1) ⋯ ⋯ ⋯ ⋯;have e:((n:Int)-1- -1).toNat=n:=⋯;rwa[e]at this
 refine hta _ ⟨_,_,_,n,rfl,hr,ID Pv h0 (λi Z H hi hp=>?_) hd⟩;have e:(n:Int)-1+(i:Nat)*(-1)=((n-1-i:Nat):Int):=⋯;rw[e];exact hs i Z H hi hp _ λ_ _ z=>z
theorem oQ{W:Nat->St->Hp->Prop}{G:(St->Hp->Prop)->Prop}(h:∀N,(∀m' Z' H',m'<m->W m' Z' H'->N Z' H')->G N):∃N,(∀Z' H',N Z' H'->∃m',m'<m/\W m' Z' H')/\G N:=⟨λZ' H'=>∃m',m'<m/\W m' Z' H',λ_ _ h=>h,h _ λm' _ _ a b=>⟨m',a,b⟩⟩
theorem gZ(Z:St)(v:Nat):gk Z [v]=Z.set v none:=rfl
theorem jS(Z:St)(v u:Nat):gk Z [v,u]=(Z.set u none).set v none:=rfl
theorem nw{K:ai}{a:aH}{xs:List V}{j v:Nat}{te:TE}{Z:St}{H:Hp}{Q:VK}(hZ:Z[j]?=some (some (.ref a)))(hq:cu K H a xs)(hlen:xs.length<bn)(f:V->V)(wz:∀z,z∈xs->∀H' Q',bC H H'->(∀Ag,bC H' Ag->Q' (f z) Ag)->te ((Z.set v none).set v (some z)) H' Q')(hk:∀H' D,bC H H'->H' D=some (.lst (xs.map f))->Q (.ref D) H'):JN (tN K (tV j)) (jl v) AN te [v] Z H Q:=by
 simp only[pN];refine⟨_,hZ,a,rfl,⟨_,hq⟩,λD hD=>yr (λi H'=>bC H H'/\H' D=some (.lst ((xs.take i).map f))) ⟨aP hD,am⟩ (λi H' _ h=>h.1.seq hq) ?_ ?_⟩;.rintro i x H1 hx ⟨hs,hd⟩;refine⟨?_,?_⟩;(·rw[gZ,gZ,iR,iR]);show te (oy (gk Z [v]) v (some x)) H1 _;rw[gZ];refine wz x (a_ hx) H1 _ hs λH2 h2=>⟨_,h2 _ _ hd,?_,?_,?_⟩;(·rw[ab,da];lia);(·exact dn (hs.trans h2) hD);rw[am];obtain⟨hi,rfl⟩:=ax.mp hx;rw[aW hi,aF];rfl
 rintro H1 ⟨hs,hd⟩;rw[bR]at hd;exact hk H1 D hs hd
theorem wn(h:v≠u)(x y:Option V):gk ((((Z.set u none).set v none).set v x).set u y) [v,u]=gk Z [v,u]:=by rw[jS,jS];apply iT;intro k;simp only[Nm,ee];by_cases h1:v=k<;>by_cases h2:u=k<;>simp_all
theorem N9{K:ai}{a:aH}{xs:List V}{j v u:Nat}{te:TE}{Z:St}{H:Hp}{Q:VK}(hvu:v≠u)(hZ:Z[j]?=some (some (.ref a)))(hq:cu K H a xs)(hlen:xs.length<bn)(f:Nat->V->V)(wz:∀i z,xs[i]?=some z->∀H' (Q':VK),bC H H'->(∀Ag,bC H' Ag->Q' (f i z) Ag)->te ((((Z.set u none).set v none).set v (some (.int (i:Nat)))).set u (some z)) H' Q')(hk:∀H' D,bC H H'->H' D=some (.lst (xs.mapIdx f))->Q (.ref D) H'):JN (FC K (pO (tV j) xG)) (MB K 2 (xl (jl v) (xl (jl u) Qx))) AN te [v,u] Z H Q:=by
 simp only[pN];refine⟨_,hZ,a,xs,rfl,hq,λD hD=>Kl (λi H'=>bC H H'/\H' D=some (.lst ((xs.mapIdx f).take i))) ⟨aP hD,by rw[am,fI]⟩ (λi H' _ h=>h.1.seq hq) ?_ ?_⟩;.rintro i x H1 T hx ⟨hs,hd⟩ hT;refine⟨T,_,rfl,.inl (.inl am),rfl,_,_,rfl,_,_,rfl,rfl,?_,?_⟩;(·rw[jS (Z:=Z)];have:=wn (Z:=Z) hvu (some (V.int (i:Nat))) (some x);rwa[jS (Z:=Z)]at this);show te ((oy (gk Z [v,u]) v (some (V.int (i:Nat)))).set u (some x)) (cE H1 T (HO.tup [V.int (i:Nat),x])) _;rw[jS];have zH:bC H1 (cE H1 T (.tup [.int (i:Nat),x])):=aP hT;refine wz i x hx _ _ (hs.trans zH) λH2 h2=>⟨_,h2 _ _ (zH _ _ hd),?_,?_,?_⟩;(·rw[da,fe];lia);(·exact dn ((hs.trans zH).trans h2) hD);rw[am];obtain⟨hi,rfl⟩:=ax.mp hx;rw[aW (by rw[fe];exact hi),tZ]
 rintro H1 ⟨hs,hd⟩;have e:xs.length=(xs.mapIdx f).length:=by rw[fe]
 rw[e,bR]at hd;exact hk H1 D hs hd
end
section
variable {t:TE}{ta tb te to ti:TE}{tr:TA}{g:TG}{D:Ends}{Z:St}{H:Hp}{Q:VK}{i j:Int}{n:Nat}{K:ai}
theorem aaE{t u:TS}:V6 t u D Z H=t {D with nx:=u D} Z H:=rfl
theorem aaR:Hz te g D Z H=te Z H λx H1=>g x Z H1 D.nx:=rfl
theorem aaF:V8 te D Z H=te Z H D.rt:=rfl
theorem WG:UY te D Z H=te Z H λ_ H1=>D.nx Z H1:=rfl
theorem WD:UW D Z H=D.nx Z H:=rfl
theorem aaO{c:TT}{t u:TS}:Z7 c t u D Z H=c Z H λb H1=>if b=true then t D Z H1 else u D Z H1:=rfl
theorem aaQ:Z_ n te ip D Z H=tV n Z H λx H0=>te Z H0 λy H1=>ip x y H1 λz H2=>jl n z Z H2 D.nx:=rfl
theorem WN{Hw:V->V->Hp->VK->Prop}:U1 to ti te Hw ip ts D Z H=to Z H λo H1=>ti Z H1 λi H2=>Hw o i H2 λx H3=>te Z H3 λy H4=>ip x y H4 λz H5=>ts o i z H5 λH6=>D.nx Z H6:=rfl
theorem aeA{r:List V->Hp->VK->Prop}:tCB r tr Z H Q=tr Z H λvs H1=>r vs H1 Q:=rfl
theorem WM{ds:List V}:EO sp ds E tr Z H Q=tr Z H λvs H1=>sp (vs++ds) H1 Q E:=rfl
theorem WL{R:List V->Hp->Prop}:pO ta tr Z H R=ta Z H λx H1=>tr Z H1 λxs H2=>R (x::xs) H2:=rfl
theorem aaK{R:List V->Hp->Prop}:xG Z H R=R [] H:=rfl
theorem Wp{x:V}:tV 0 (some x::Z) H Q=Q x H:=rfl
theorem Wo{y:Option V}:tV (n+1) (y::Z) H Q=tV n Z H Q:=rfl
theorem aaC:tV n Z H Q=∃v,Z[n]?=some (some v)/\Q v H:=by rw[pN];rfl
theorem aaJ{x:V}{y:Option V}{R:St->Hp->Prop}:jl 0 x (y::Z) H R=R (some x::Z) H:=rfl
theorem aaI{x:V}{y:Option V}{R:St->Hp->Prop}:jl (n+1) x (y::Z) H R=jl n x Z H λs=>R (y::s):=rfl
theorem aeq{x:V}{R:St->Hp->Prop}:jl n x Z H R=R (Z.set n (some x)) H:=rfl
theorem aew{x:V}{R:St->Hp->Prop}:MB K n u x Z H R=∃a xs,x=.ref a/\Ad K H a xs/\xs.length=n/\u xs Z H R:=rfl
theorem aez{xs:List V}{R:St->Hp->Prop}:xl g u xs Z H R=∃v r,xs=v::r/\g v Z H λZ' H'=>u r Z' H' R:=rfl
theorem aey{xs:List V}{R:St->Hp->Prop}:Qx xs Z H R=(xs=[]/\R Z H):=rfl
theorem aex{x:V}{R:St->Hp->Prop}:acN to ti ts x Z H R=to Z H λo H1=>ti Z H1 λi H2=>ts o i x H2 λH3=>R Z H3:=rfl
theorem q_c{v:V}:tC v Z H Q=Q v H:=rfl
theorem aep:UV r ta tb Z H Q=ta Z H λx H1=>tb Z H1 λy H2=>r x y H2 Q:=rfl
theorem aek{r:V->Hp->VK->Prop}:tUn r ta Z H Q=ta Z H λx H1=>r x H1 Q:=rfl
theorem Wq{R:Bool->Hp->Prop}:Oa t Z H R=t Z H λx H'=>∃k,x=.bl k/\R k H':=rfl
theorem q_b{R:Bool->Hp->Prop}:tB t Z H R=t Z H λx H'=>∃k,x=.bl k/\R k H':=rfl
theorem aaM:Z6 ta Z H Q=ta Z H λx H1=>Q (.bl (decide (x=.jk))) H1:=rfl
theorem WC:Oc ta Z H Q=ta Z H λx H1=>Q (.bl (!decide (x=.jk))) H1:=rfl
theorem aaS{t u:TT}{R:Bool->Hp->Prop}:aaa t u Z H R=t Z H λc H1=>if c=true then u Z H1 R else R false H1:=rfl
theorem aeo{t u:TT}{R:Bool->Hp->Prop}:tOr t u Z H R=t Z H λc H1=>if c=true then R true H1 else u Z H1 R:=rfl
theorem aes:tIf c ta tb Z H Q=c Z H λc H1=>if c=true then ta Z H1 Q else tb Z H1 Q:=rfl
theorem aaL:Z5 tr Z H Q=tr Z H λxs H1=>xs.length<=bn/\∀p,H1 p=none->Q (.ref p) (cE H1 p (.lst xs)):=rfl
theorem aaD:Z4 tr Z H Q=tr Z H λxs H1=>xs.length<=bn/\∀p,H1 p=none->Q (.ref p) (cE H1 p (.tup xs)):=rfl
theorem ael{r:V->Option Int->Option Int->Hp->VK->Prop}:tSl r te tl th Z H Q=te Z H λx H1=>tl Z H1 λl H2=>th Z H2 λu H3=>r x l u H3 Q:=rfl
theorem WB{R:Option Int->Hp->Prop}:UU t Z H R=t Z H λx H1=>∃i,x=.int i/\R (some i) H1:=rfl
theorem ON{R:Option Int->Hp->Prop}:JM Z H R=R none H:=rfl
theorem aeB{r:V->List V->Hp->VK->Prop}:tBM K T r to tr Z H Q=to Z H λx H1=>tyV K T x H1/\tr Z H1 λxs H2=>r x xs H2 Q:=rfl
theorem aaP:Z8 K ta f Z H Q=ta Z H λx H1=>∃a C dx fs v,x=.ref a/\H1 a=some (.ins C dx fs)/\NI K C/\ph K C f/\fs.lookup f=some v/\Q v H1:=rfl
theorem Wr:aav K ta tb f D Z H=tb Z H λy H1=>ta Z H1 λx H2=>∃a C dx fs,x=.ref a/\H2 a=some (.ins C dx fs)/\NI K C/\ph K C f/\fs.length<1000/\D.nx Z (cE H2 a (.ins C dx (o5 f y fs))):=rfl
theorem WE{ds:List V}:Od C m sp ds E ta tr Z H Q=ta Z H λx H1=>∃a dx fs,x=.ref a/\H1 a=some (.ins C dx fs)/\fs.lookup m=none/\tr Z H1 λvs H2=>sp (x::(vs++ds)) H2 Q E:=rfl
theorem WF{ds:List V}:UX C sp ds E tr Z H Q=tr Z H λvs H1=>∀x dx,H1 x=none->H1 dx=none->dx≠x->sp (.ref x::(vs++ds)) (cE (cE H1 dx (.own x)) x (.ins C dx [])) (λv H2=>v=.jk/\Q (.ref x) H2) E:=rfl
theorem WJ:Of Z H Q=∀p,H p=none->Q (.ref p) (cE H p (.dK [])):=rfl
theorem WH:Vd ta tb te D Z H=te Z H λv H1=>ta Z H1 λx H2=>tb Z H2 λy H3=>∃a H4,x=.ref a/\Ji H3 a y v H4/\D.nx Z H4:=rfl
theorem WK:UZ ta tb Z H Q=ta Z H λx H1=>tb Z H1 λy H2=>∃a v,x=.ref a/\Jj H2 a y (some v)/\Q v H2:=rfl
theorem WI:JP ta tb Z H Q=ta Z H λy H1=>tb Z H1 λx H2=>∃a o,x=.ref a/\Jj H2 a y o/\Q (.bl (!o.isSome)) H2:=rfl
theorem aer{R:It->Hp->Prop}:tN K t Z H R=t Z H λx H1=>∃a,x=.ref a/\(∃xs,cu K H1 a xs)/\R (Jf K a) H1:=rfl
theorem aet{R:It->Hp->Prop}:FC K tr Z H R=tr Z H λvs H1=>∃a xs,vs=[.ref a]/\cu K H1 a xs/\R (UC K a) H1:=rfl
theorem aev{R:It->Hp->Prop}:Ks tr Z H R=tr Z H λvs H1=>∃j,vs=[.int j]/\-(2^62)<=j/\j<2^62/\R (RY 0 j.toNat) H1:=rfl
theorem aeu{R:It->Hp->Prop}:PM tr Z H R=tr Z H λvs H1=>∃i j c n,vs=[.int i,.int j,.int c]/\ZW i j c n/\R (ZX i c n) H1:=rfl
theorem aaH{f:Int->Int->V}{x y:V}:HP f x y H Q=∃i j,x=.int i/\y=.int j/\Q (f i j) H:=rfl
theorem aen{C:Int->Int->Prop}{f:Int->Int->V}{x y:V}:rI C f x y H Q=∃i j,x=.int i/\y=.int j/\C i j/\Q (f i j) H:=rfl
theorem aem{f:Int->V}{x:V}:rU f x H Q=∃i,x=.int i/\Q (f i) H:=rfl
theorem aaN{x y:V}:Zl f x y H Q=∃i j,x=.int i/\y=.int j/\Q (.int (f i j)) H:=rfl
theorem Vh{x y:V}:rEq x y H Q=(OG x y=true/\Q (.bl (decide (x=y))) H):=rfl
theorem Vg{x y:V}:rNe x y H Q=(OG x y=true/\Q (.bl (!decide (x=y))) H):=rfl
theorem WA{x y:V}:BG x y H Q=(HP (λi j=>.int (i+j)) x y H Q\/LU x y H Q):=rfl
theorem Wu{x y:V}:BF x y H Q=(rI GJ (λi j=>.int (i*j)) x y H Q\/LR x y H Q):=rfl
theorem Wy{x y:V}:LU x y H Q=∃l b xs zs,x=.ref l/\y=.ref b/\H l=some (.lst xs)/\H b=some (.lst zs)/\xs.length+zs.length<=bn/\∀p,H p=none->Q (.ref p) (cE H p (.lst (xs++zs))):=rfl
theorem Wt{x y:V}:LR x y H Q=∃l k xs,x=.ref l/\y=.int k/\H l=some (.lst xs)/\-(2^63)<=k/\k<2^63/\xs.length*k.toNat<=bn/\∀p,H p=none->Q (.ref p) (cE H p (.lst (aQ k.toNat xs).flatten)):=rfl
theorem Ww{x y:V}:E4 K x y H Q=∃p xs i v,x=.ref p/\y=.int i/\cu K H p xs/\DT xs i=some v/\Q v H:=rfl
theorem Wv{x y:V}:LS K x y H Q=∃p xs i v,x=.ref p/\y=.int i/\Ad K H p xs/\DT xs i=some v/\Q v H:=rfl
theorem Ws{o k v:V}{R:Hp->Prop}:J1 o k v H R=∃p xs i j,o=.ref p/\k=.int i/\H p=some (.lst xs)/\Mh xs.length i=some j/\R (cE H p (.lst (xs.set j v))):=rfl
theorem aaG{x:V}{lo hi:Option Int}:OM K x lo hi H Q=∃a xs,x=.ref a/\cu K H a xs/\∀p,H p=none->Q (.ref p) (cE H p (.lst (ur xs lo hi))):=rfl
theorem Wz{x:V}{vs:List V}:yi x vs H Q=∃l xs y,x=.ref l/\vs=[y]/\H l=some (.lst xs)/\xs.length<bn/\Q .jk (cE H l (.lst (xs++[y]))):=rfl
theorem Wx{x:V}{vs:List V}:J2 x vs H Q=∃l b xs zs,x=.ref l/\vs=[.ref b]/\H l=some (.lst xs)/\H b=some (.lst zs)/\xs.length+zs.length<=bn/\Q .jk (cE H l (.lst (xs++zs))):=rfl
theorem aa5{f:Int->Int->V}:HP f (.int i) (.int j) H Q=Q (f i j) H:=by simp[HP]
theorem aeO{C:Int->Int->Prop}{f:Int->Int->V}:rI C f (.int i) (.int j) H Q=(C i j/\Q (f i j) H):=by simp[rI]
theorem p_u{f:Int->V}:rU f (.int i) H Q=Q (f i) H:=by simp[rU]
theorem aeN:Zl f (.int i) (.int j) H Q=Q (.int (f i j)) H:=by simp[Zl]
theorem aeP:rEq (.int i) (.int j) H Q=Q (.bl (decide (i=j))) H:=by simp only[Vh,y9,true_and,V.int.injEq]
theorem aeK:rNe (.int i) (.int j) H Q=Q (.bl (!decide (i=j))) H:=by simp only[Vg,y9,true_and,V.int.injEq]
theorem W3:BG (.int i) (.int j) H Q=Q (.int (i+j)) H:=by simp[BG,HP,LU]
theorem W0:BG (.ref l) (.ref b) H Q=∃xs,H l=some (.lst xs)/\∃zs,H b=some (.lst zs)/\xs.length+zs.length<=bn/\∀p,H p=none->Q (.ref p) (cE H p (.lst (xs++zs))):=by simp[BG,HP,LU]
theorem WZ:BF (.int i) (.int j) H Q=(GJ i j/\Q (.int (i*j)) H):=by simp[BF,rI,LR]
theorem WY:BF (.ref l) (.int j) H Q=∃xs,H l=some (.lst xs)/\-(2^63)<=j/\j<2^63/\xs.length*j.toNat<=bn/\∀p,H p=none->Q (.ref p) (cE H p (.lst (aQ j.toNat xs).flatten)):=by simp only[BF,rI,LR,V.ref.injEq,V.int.injEq,reduceCtorEq,false_and,exists_false,false_or,exists_and_left,exists_eq_left',and_false]
theorem aa2:E4 K (.ref p) (.int i) H Q=∃xs,cu K H p xs/\∃v,DT xs i=some v/\Q v H:=by simp[E4]
theorem aa1:LS K (.ref p) (.int i) H Q=∃xs,Ad K H p xs/\∃v,DT xs i=some v/\Q v H:=by simp[LS]
theorem aaZ{v:V}{R:Hp->Prop}:J1 (.ref p) (.int i) v H R=∃xs,H p=some (.lst xs)/\∃j,Mh xs.length i=some j/\R (cE H p (.lst (xs.set j v))):=by simp[J1]
theorem aeI{lo hi:Option Int}:OM K (.ref a) lo hi H Q=∃xs,cu K H a xs/\∀p,H p=none->Q (.ref p) (cE H p (.lst (ur xs lo hi))):=by simp[OM]
theorem aa6{y:V}:yi (.ref l) [y] H Q=∃xs,H l=some (.lst xs)/\xs.length<bn/\Q .jk (cE H l (.lst (xs++[y]))):=by simp[yi]
theorem aeQ{p:Bool->Prop}:(∃k,V.bl b=V.bl k/\p k)=p b:=by simp
theorem aa4{p:Int->Prop}:(∃k,V.int i=V.int k/\p k)=p i:=by simp
theorem aa0{p:aH->Prop}:(∃k,V.ref a=V.ref k/\p k)=p a:=by simp
theorem aeM{p:Int->Prop}:(∃k,[V.int i]=[V.int k]/\p k)=p i:=by simp
theorem aeJ{α:Type}{p:aH->α->Prop}:(∃k x,V.ref a=V.ref k/\p k x)=∃x,p a x:=by simp
theorem aeL{α:Type}{p:aH->α->Prop}:(∃k x,[V.ref a]=[V.ref k]/\p k x)=∃x,p a x:=by simp
theorem aa3{c A B:Prop}[Decidable c]:(if decide c=true then A else B)=if c then A else B:=by simp
end
section
variable {X:Cx}{x:cJ}{e a b:gA}{es:List gA}{te ta tb:TE}{pos p oB:Et}{N ps:List cJ}{sc:oU}
theorem eT(i:Nat)(S:mF X.N ps sc)(he:PE X e te)(hi:X.N[i]?=some x:=by rfl)(hx:Loc X.env.scope x:=by first|exact CH rfl|exact wa rfl)(hs:nz e (some (.Name x oB)) pos.line X.env=pure false:=by rfl)(hf:X.fn x=true\/X.env.scope.names.lookup x=some .local:=by first|exact .inl rfl|exact .inr rfl|assumption):PS X (.Assign [.Name x oB] e pos) (Hz te (jl i)):=WO S.nd hi hx he hs hf
theorem my(i:Nat)(S:mF X.N ps sc)(hi:X.N[i]?=some x:=by rfl)(hx:Loc X.env.scope x:=by first|exact CH rfl|exact wa rfl)(hf:X.fn x=true\/X.env.scope.names.lookup x=some .local:=by first|exact .inl rfl|exact .inr rfl|assumption):PG X (.Name x pos) (jl i):=SH S.nd hi hx hf
theorem W5(i:Nat)(S:mF X.N ps sc)(he:PE X e te)(ho:PIp X op ti)(hi:X.N[i]?=some x:=by rfl)(hx:Loc X.env.scope x:=by first|exact CH rfl|exact wa rfl)(hf:X.fn x=true\/X.env.scope.names.lookup x=some .local:=by first|exact .inl rfl|exact .inr rfl|assumption):PS X (.AugAssign (.Name x oB) op e pos) (Z_ i te ti):=by rw[V9];exact WP S.nd hi hx he ho hf
theorem g7(ha:PE X e te)(hs:b8 [e] X.env=(false,gG e X.env)::b8 [] X.env:=by rfl):PA X [e] (pO te xG):=cf ha lH hs
theorem io(ha:PE X a ta)(hb:PE X b tb)(hs:b8 [a,b] X.env=(false,gG a X.env)::b8 [b] X.env:=by rfl)(zH:b8 [b] X.env=(false,gG b X.env)::b8 [] X.env:=by rfl):PA X [a,b] (pO ta (pO tb xG)):=cf ha (g7 hb zH) hs
theorem pL(K:ai)(hm:X.mg "len"=none)(he:PE X e te)(hK:X.K=K:=by rfl)(hg:Gl X "len":=by rfl)(h0:b8 [e] X.env=(false,gG e X.env)::b8 [] X.env:=by rfl)(h1:(lX pos (b8 [] X.env)).any (·.1)=false:=by rfl):PE X (.Call (.Name "len" p) [e] [] pos) (tCB (λxs H Q=>∃p ys,xs=[.ref p]/\cu K H p ys/\Q (.int ys.length) H) (pO te xG)):=jY (acV hK) hg hm PySem.boot_len (g7 he h0) ∅ ∅ h0 h1
theorem rd(K:ai)(ha:PE X a ta)(hb:PE X b tb)(hK:X.K=K:=by rfl)(hs:DZ b:=by exact λ_ _=>rfl):PE X (.Subscript a b pos) (UV (E4 K) ta tb):=Vi (ixL hK) ha hb hs
theorem LZ(K:ai)(ha:PE X a ta)(hb:PE X b tb)(hK:X.K=K:=by rfl)(hs:DZ b:=by exact λ_ _=>rfl):PE X (.Subscript a b pos) (UV (LS K) ta tb):=Vi (ixT hK) ha hb hs
theorem lI(ho:tQ X (gx op) r)(ha:PE X a ta)(hb:PE X b tb)(hm:kf op b=false:=by exact zp _):PT X (.Compare a [op] [b] pos) (Oa (UV r ta tb)):=yk ho ha hb hm
theorem uU(v:Int)(hg:Gl X x:=by rfl)(hm:X.mg x=some (.int v t):=by assumption)(hd:(x==("__debug__":cJ))=false:=by decide):PE X (.Name x pos) (tC (V.int v)):=SI hg hm ⟨_,rfl⟩ hd
end
theorem lJ{P:cI}{w:eU}{K:ai}{mg:cJ->Option aI}{base:f9}{x jj:cJ}{st:rm}{f:aH}{fd:fY}{ps:List cJ}{k:Nat}{sp:Sp}(N:List cJ)(F:uF K x jj st f fd)(FP:∀{tO:aI} {A:jQ} {outer:List Nr} {s:aU} {vs:List V} (H:Hp) (Q:VK) (E:XK),mF N ps (jx st)->j_ k (A.deeper (vP jj (jx st) s.heap.objs.size f tO))->sp vs H Q E->∃t,K_ (DI je P w K mg base N jj (jx st) f tO A outer s H E).Zi (qG st) t/\t {nx:=λ_ H'=>Q .jk H',rt:=Q} (start N vs) H)(S:mF N ps (jx st):=by exact⟨rfl,rfl,rfl,by decide+kernel,rfl,by decide+kernel,by decide+kernel⟩)(len:∀vs H Q E,sp vs H Q E->vs.length=ps.length:=by(intro _ _ _ _ h;cases h;subst_vars;rfl)):dm P w K mg base je (k+1) f fd ps sp:=F.ok S len λ_ _ _ _ H _ Q E hr h=>FP H Q E S hr h
section
variable {X:Cx}{DC tg lA:gA}{AW:List gA}{scope sc:oU}{pos:Et}{wi:TI}{g:TG}{tt:TT}{te:TE}{N ps:List cJ}
theorem O5(own:List (cJ×Nat))(S:mF N ps sc)(hi:PI X tg lA wi)(hg:∀{s:aU} {H:Hp} {C:aH} {cl:List (cJ×aH)} {fp:List aH},PG (X.xN s H scope (gH scope cl C X.env) fp) tg g)(ht:∀{s:aU} {H:Hp} {C:aH} {cl:List (cJ×aH)} {fp:List aH},Y_ (X.xN s H scope (gH scope cl C X.env) fp) AW tt)(he:∀{s:aU} {H:Hp} {C:aH} {cl:List (cJ×aH)} {fp:List aH},PE (X.xN s H scope (gH scope cl C X.env) fp) DC te)(ok:Cw N sc scope own:=by exact⟨rfl,by decide+kernel,by decide+kernel,by decide+kernel,by decide+kernel⟩)(hc:X.calm=true:=by rfl)(hN:X.N=N:=by rfl)(RL:X.env.scope=sc:=by rfl)(hs:∀x,kD lA X.env x=pure x:=by intro _;rfl):PE X (.ListComp DC [⟨tg,lA,AW,0⟩] scope pos) (JN wi g tt te (own.map (·.2))):=by subst hN RL;exact aaY hc S.nd hi ok (λ_ _ _ _ _=>hg) (λ_ _ _ _ _=>ht) (λ_ _ _ _ _=>he) hs
theorem W4(i:Nat)(own:List (cJ×Nat))(S:mF N ps sc)(hi:PI X tg lA wi)(hg:∀{s:aU} {H:Hp} {C:aH} {cl:List (cJ×aH)} {fp:List aH},PG (X.xN s H scope (gH scope cl C X.env) fp) tg g)(ht:∀{s:aU} {H:Hp} {C:aH} {cl:List (cJ×aH)} {fp:List aH},Y_ (X.xN s H scope (gH scope cl C X.env) fp) AW tt)(he:∀{s:aU} {H:Hp} {C:aH} {cl:List (cJ×aH)} {fp:List aH},PE (X.xN s H scope (gH scope cl C X.env) fp) DC te)(ok:Cw N sc scope own:=by exact⟨rfl,by decide+kernel,by decide+kernel,by decide+kernel,by decide+kernel⟩)(hy:N[i]?=some y:=by rfl)(Zm:sc.names.lookup y=some .local:=by rfl)(hsw:nz (.ListComp DC [⟨tg,lA,AW,0⟩] scope pos) (some (.Name y py)) spos.line X.env=pure true:=by exact Sh rfl rfl rfl (by decide+kernel))(hc:X.calm=true:=by rfl)(hN:X.N=N:=by rfl)(RL:X.env.scope=sc:=by rfl)(hs:∀x,kD lA X.env x=pure x:=by intro _;rfl):PS X (.Assign [.Name y py] (.ListComp DC [⟨tg,lA,AW,0⟩] scope pos) spos) (Hz (JN wi g tt te (own.map (·.2))) (jl i)):=by subst hN RL;exact OP hc S.nd hy Zm hsw hi ok (λ_ _ _ _ _=>hg) (λ_ _ _ _ _=>ht) (λ_ _ _ _ _=>he) hs
end
end L2
namespace Pt
open PySem PySem.Spec PyProof.Rows L2
section
variable {P:cI}{w:eU}{K:ai}{mg:cJ->Option aI}{base:f9}
def acZ(P:cI)(w:eU)(K:ai)(mg:cJ->Option aI)(base:f9)(x:cJ)(k:Nat)(ps:List cJ)(sp:Sp):Prop:=∃f fd,dm P w K mg base je k f fd ps sp/\gF K fd ps []/\mg x=some (.ref f)/\jO K (.ref f)=true
def ij(P:cI)(w:eU)(K:ai)(mg:cJ->Option aI)(base:f9)(x:cJ)(k:Nat)(sp:Sp):Prop:=∃f fd ps,dm P w K mg base je k f fd ps sp/\gF K fd ps []/\mg x=some (.ref f)/\jO K (.ref f)=true
theorem pv(i:Nat)(hN:X.N[i]?=some x:=by rfl)(hv:ZU X.env.scope x:=by first|exact CH rfl|exact wa (CH rfl)|exact wa (wa rfl))(hd:(x==("__debug__":cJ))=false:=by decide)(hcd:(x==("__classdict__":cJ))=false:=by decide):PE X (.Name x pos) (tV i):=by rw[pN];exact L2.pv i hN hv hd hcd
theorem WX(U:ij X.prog X.w X.K X.mg X.base x k sp)(hr:j_ j X.A)(hj:k<=j)(hg:Gl X x)(ha:PA X (e::es) t)(GW:(x==("__debug__":cJ))=false:=by decide)(he:b8 (e::es) X.env=(false,gG e X.env)::b8 es X.env:=by rfl)(hpl:(lX pos (b8 es X.env)).any (·.1)=false:=by rfl):PE X (.Call (.Name x p) (e::es) [] pos) (EO sp [] E0 t):=by obtain⟨f,fd,ps,h1,h2,h3,h4⟩:=U;exact SK h1 (hr.mono hj) hg h3 h4 h2 .nil uT ha GW he hpl
theorem pU(U:ij X.prog X.w X.K X.mg X.base x k sp)(hr:j_ j X.A)(ha:PA X (e::es) t)(hj:k<=j:=by decide)(hg:Gl X x:=by rfl)(GW:(x==("__debug__":cJ))=false:=by decide)(he:b8 (e::es) X.env=(false,gG e X.env)::b8 es X.env:=by rfl)(hpl:(lX pos (b8 es X.env)).any (·.1)=false:=by rfl):PE X (.Call (.Name x p) (e::es) [] pos) (EO sp [] E0 t):=WX U hr hj hg ha GW he hpl
theorem V1{x:cJ}{st:rm}{f:aH}{fd:fY}{k:Nat}{ps:List cJ}{sp:Sp}(F:uF K x x st f fd)(hm:mg x=some (.ref f))(G:dm P w K mg base je k f fd ps sp)(hb:gF K fd ps []):ij P w K mg base x k sp:=⟨f,fd,ps,G,hb,hm,F.kp⟩
structure Bt(mg:cJ->Option aI):Prop where
 len:mg "len"=none
 abs:mg "abs"=none
 max:mg "max"=none
 range:mg "range"=none
 enumerate:mg "enumerate"=none
 list:mg "list"=none
 sum:mg "sum"=none
 any:mg "any"=none
 zip:mg "zip"=none
theorem ahc{CX P w K mg base N q sc f tO A outer s H E}:(DI CX P w K mg base N q sc f tO A outer s H E).K=K:=rfl
theorem abt{CX P w K mg base N q sc f tO A outer s H E}:(DI CX P w K mg base N q sc f tO A outer s H E).Zi.K=K:=rfl
theorem Cn(ns:List Int)(n:Nat)(h:n<=ns.length):ur (ns.map V.int) none (some (n:Int))=(ns.take n).map V.int:=by unfold ur;rw[HT.y_,HT.uN,ab,oA,lY,lw h,uA]
abbrev IL(K:ai)(H:Hp)(a:aH)(ns:List Int):Prop:=cu K H a (ns.map V.int)
end
end Pt
end
section
namespace rF
open PySem PySem.SeqAt PyProof.Rows
open AutoSeq1 (wpAny_loadPart')
open MeetsSeq MeetsSeq2 MeetsSeq3 SeqRoads2
noncomputable def uk:List Int->List Int->Bool
 |[],[]=>false
 |[],_::_=>true
 |_::_,[]=>false
 |x::xs,y::ys=>if x=y then uk xs ys else decide (x<y)
theorem Kh(h:x=[]\/y=[]):uk x y=decide (x.length<y.length):=by cases x<;>cases y<;>simp_all [uk]
theorem pS(h:wb v z):∀{i:Nat},i<v.length->∃n t,v[i]?=some (.int n t)/\z[i]?=some n:=by
 induction h with
  |nil=>intro i hi;simp at hi
  |cons n t h ih=>
   intro i hi;cases i with
    |zero=>exact⟨n,t,rfl,rfl⟩
    |succ i=>simpa using ih (by simpa using hi)
theorem Tl(p q:aH)(xs ys:Array aI)(zx zy:List Int)(n m:Nat)(dd de:Option aH)(sl sm:Array (Option aI))(hx:wb xs.toList zx)(hy:wb ys.toList zy)(k:Nat):∀i,i<=xs.size->i<=ys.size->xs.size-i=k->Meets (Builtin.«list.__eq__.loop» ⟨[.ref p,.ref q,rawInt i,rawInt 0],[]⟩) (λA R s=>s.heap.get? p=some {cls:=.type "list",dict:=dd,data:=.seq xs n,slots:=sl}/\s.heap.get? q=some {cls:=.type "list",dict:=de,data:=.seq ys m,slots:=sm}/\R (.ok (.ret (.bool (uk (zx.drop i) (zy.drop i))))) s):=by
 have lx:=hx.length;have ly:=hy.length;rw[cX]at lx ly;induction k with
  |zero=>intro i h1 h2 hk prog w A R s hh;rcases s with⟨hp,g,d,tk,os⟩;rcases hh with⟨a1,a2,a3⟩;wp_walk using eV a1,eV a2;(have e1:xs[((i:Nat):Int).toNat]?=none:=by simp;lia);rw[e1];wp_walk using eV a1,eV a2;rw[Kh (.inl (by rw[s_];lia)),ei,ei]at a3;show R (.ok (.ret (.bool (decide (xs.size<ys.size))))) _;(have e2:decide (xs.size<ys.size)=decide (zx.length-i<zy.length-i):=by rw[<-lx,<-ly];exact decide_eq_decide.mpr (D9 h1).symm);rw[e2];exact a3
  |succ k ih=>intro i h1 h2 hk prog w A R s hh;rcases s with⟨hp,g,d,tk,os⟩;rcases hh with⟨a1,a2,a3⟩;have hix:i<xs.size:=⋯;wp_walk using eV a1,eV a2;obtain⟨u,t,f1,f2⟩:=pS hx (i:=i) (by rw[cX];exact hix);(have e1:xs[((i:Nat):Int).toNat]?=some (.int u t):=by rw[dM,<-ii];exact f1);rw[e1];by_cases hiy:i<ys.size;(·obtain⟨u',t',f3,f4⟩:=pS hy (i:=i) (by rw[cX];exact hiy);(have e2:ys[((i:Nat):Int).toNat]?=some (.int u' t'):=by rw[dM,<-ii];exact f3);rw[e2];(have d1:zx.drop i=u::zx.drop (i+1):=by obtain⟨h,e⟩:=ax.mp f2;rw[oV h,e]);(have d2:zy.drop i=u'::zy.drop (i+1):=by obtain⟨h,e⟩:=ax.mp f4;rw[oV h,e]);rw[d1,d2,uk]at a3;refine bv (EqAt.int_int u t u' t' prog w _ _ ?_);have hc:((i:Int)+1)=((i+1:Nat):Int):=⋯;by_cases huu:u=u';(·rw[aj huu]at a3;(have:(u==u')=true:=by simp[huu]);rw[this];wp_walk;rw[hc];refine⟨plainId_quiet plain_eq_loop _,codeAny_builtin entry_eq_loop ?_⟩;rw[EE plain_eq_loop _];exact ih (i+1) ⋯ ⋯ ⋯ prog w A R _ ⟨a1,a2,a3⟩);rw[ah huu]at a3;(have:(u==u')=false:=by simp[huu]);rw[this];wp_walk using eV a1,eV a2;rw[e1,e2];show wpAny (b7 prog w) A.in1 (gx .Lt (.int u t) (.int u' t') >>= ret) _ _ _;exact bv (wpAny_lt_int (cM a3)));(have e2:ys[((i:Nat):Int).toNat]?=none:=by simp;lia);rw[e2];wp_walk using eV a1,eV a2;rw[Kh (.inr (by rw[s_];lia)),ei,ei]at a3;show R (.ok (.ret (.bool (decide (xs.size<ys.size))))) _;(have e3:decide (xs.size<ys.size)=decide (zx.length-i<zy.length-i):=by rw[<-lx,<-ly];exact decide_eq_decide.mpr (D9 h1).symm);rw[e3];exact a3
theorem Tr(p q:aH)(xs ys:Array aI)(zx zy:List Int)(n m:Nat)(dd de:Option aH)(sl sm:Array (Option aI))(hx:wb xs.toList zx)(hy:wb ys.toList zy):Meets (Builtin.«list.__lt__» ⟨[.ref p,.ref q],[]⟩) (λA R s=>s.heap.get? p=some {cls:=.type "list",dict:=dd,data:=.seq xs n,slots:=sl}/\s.heap.get? q=some {cls:=.type "list",dict:=de,data:=.seq ys m,slots:=sm}/\R (.ok (.ret (.bool (uk zx zy)))) s):=by intro prog w A R s hh;rcases s with⟨hp,g,d,tk,os⟩;rcases hh with⟨a1,a2,a3⟩;have sub:=AutoSeq1.sub_list_list;wp_walk using eV a1,eV a2;refine⟨plainId_quiet plain_eq_loop _,codeAny_builtin entry_eq_loop ?_⟩;rw[EE plain_eq_loop _];exact Tl p q xs ys zx zy n m dd de sl sm hx hy _ 0 (bX _) (bX _) rfl prog w A R _ ⟨a1,a2,a3⟩
def At(h:f9)(p:aH)(z:List Int):Prop:=∃xs:Array aI,h.IsList p xs/\wb xs.toList z
theorem Fc{E:aI->aU->Prop}{Q:Bool->aU->Prop}(hu:A.units<tW)(hp:At s.heap p zx)(hq:At s.heap q zy)(h:Q (uk zx zy) s):wpAny (b7 prog w) A (oneLt' true (.ref p) (.ref q)) Q E s:=by obtain⟨xs,⟨⟨c1,d1,t1,l1⟩,o1,b1,n,k1⟩,ix⟩:=hp;obtain⟨ys,⟨⟨c2,d2,t2,l2⟩,o2,b2,m,k2⟩,iy⟩:=hq;simp only at b1 k1 b2 k2;subst b1 k1 b2 k2;rw[oneLt'_eq];simp only[if_true];refine bv (wpAny_cRoomFor hu ?_);refine bv (wpAny_callSpecialIfBound?_slot (T:="list") ⟨_,o1,rfl⟩ F.slot_list_lt ?_);refine xY F.slot_list_lt ⟨_,o1,rfl⟩ F.entry_list_lt (F.args_list_lt_2 _ _) (Tr p q xs ys zx zy n m d1 d2 l1 l2 ix iy) ⟨o1,o2,?_⟩;exact qX h
end rF
end
section
namespace Rk
open PySem PySem.W PyProof.Rows
noncomputable def ev(lt:Nat->Nat->Bool){α:Type}:KasT α->α
 |.ret a=>a
 |.ask i j k=>ev lt (k (lt i j))
theorem sP(lt:Nat->Nat->Bool){α β:Type}(f:α->KasT β):∀t,ev lt (t.bind f)=ev lt (f (ev lt t))
 |.ret _=>rfl
 |.ask i j k=>by show ev lt ((k (lt i j)).bind f)=_;rw[sP lt f (k (lt i j))];rfl
structure Ord(lt:Nat->Nat->Bool)(n:Nat):Prop where
 Ay:∀i,lt i i=false
 tr:∀i j k,lt i j=true->lt j k=true->lt i k=true
 tot:∀i j,i<n->j<n->i≠j->lt i j=true\/lt j i=true
def Rv(lt:Nat->Nat->Bool)(p:Array Nat)(k:Nat):Prop:=∀i j,i<j->j<k->lt (p.getD i 0) (p.getD j 0)=true
def Dsc(lt:Nat->Nat->Bool)(p:Array Nat)(k:Nat):Prop:=∀i j,i<j->j<k->lt (p.getD j 0) (p.getD i 0)=true
structure Gs(p:Array Nat)(n:Nat):Prop where
 sz:p.size=n
 lt:∀i,i<n->p.getD i 0<n
 inj:∀i j,i<n->j<n->p.getD i 0=p.getD j 0->i=j
 pm:p.Perm (lS (aX n))
section
variable {lt:Nat->Nat->Bool}{n:Nat}(O:Ord lt n)
include O
theorem other(P:Gs p n)(hi:i<n)(hj:j<n)(hij:i≠j)(h:lt (p.getD i 0) (p.getD j 0)=false):lt (p.getD j 0) (p.getD i 0)=true:=by
 rcases O.tot _ _ (P.lt i hi) (P.lt j hj) (λe=>hij (P.inj i j hi hj e))with k|k;.rw[h]at k;cases k
 exact k
theorem Q5(h:Rv lt p k)(hk:1<=k)(hl:lt (p.getD (k-1) 0) (p.getD k 0)=true):Rv lt p (k+1):=by
 intro i j hij hj;by_cases e:j=k;.subst e;by_cases e2:i=j-1;(·rw[e2];exact hl);exact O.tr _ _ _ (h i (j-1) ⋯ ⋯) hl
 exact h i j hij ⋯
theorem QN(h:Dsc lt p k)(hk:1<=k)(hl:lt (p.getD k 0) (p.getD (k-1) 0)=true):Dsc lt p (k+1):=by
 intro i j hij hj;by_cases e:j=k;.subst e;by_cases e2:i=j-1;(·rw[e2];exact hl);exact O.tr _ _ _ hl (h i (j-1) ⋯ ⋯)
 exact h i j hij ⋯
theorem QI(P:Gs p n):∀f k,1<=k->k+f<=n->Rv lt p k->k<=ev lt (pj p f k)/\ev lt (pj p f k)<=k+f/\Rv lt p (ev lt (pj p f k))/\(ev lt (pj p f k)<k+f->lt (p.getD (ev lt (pj p f k)) 0) (p.getD (ev lt (pj p f k)-1) 0)=true):=by
 intro f;induction f with
  |zero=>intro k _ _ h;exact⟨aw _,aw _,h,λh=>ap h (by simp[pj,ev])⟩
  |succ f ih=>intro k hk TU h;rw[pj];simp only[ev];by_cases hc:lt (p.getD k 0) (p.getD (k-1) 0)=true;(·rw[aj hc];exact⟨aw _,by simp only[ev];lia,h,λ_=>hc⟩);rw[ah hc];have h2:=other O P (i:=k) (j:=k-1) ⋯ ⋯ ⋯ (by simpa using hc);obtain⟨a,b,c,d⟩:=ih (k+1) ⋯ ⋯ (Q5 O h hk h2);exact⟨⋯,⋯,c,λh=>d ⋯⟩
theorem T_(P:Gs p n):∀f k,1<=k->k+f<=n->Dsc lt p k->∃m,ev lt (Ry f p k 0)=(p,m,0)/\k<=m/\m<=k+f/\Dsc lt p m:=by
 intro f;induction f with
  |zero=>intro k _ _ h;exact⟨k,rfl,aw _,aw _,h⟩
  |succ f ih=>intro k hk TU h;rw[Ry];simp only[ev];by_cases hc:lt (p.getD k 0) (p.getD (k-1) 0)=true;(·rw[aj hc,ah ⋯];obtain⟨m,a,b,c,d⟩:=ih (k+1) ⋯ ⋯ (QN O h hk hc);exact⟨m,a,⋯,⋯,d⟩);rw[ah hc];have h2:=other O P (i:=k) (j:=k-1) ⋯ ⋯ ⋯ (by simpa using hc);simp only[ev];rw[aj h2];exact⟨k,rfl,aw _,⋯,h⟩
omit O in
theorem uO(hk:k<=p.size)(i:Nat):(Al p 0 k).getD i 0=if i<k then p.getD (k-1-i) 0 else p.getD i 0:=by
 have e:=getElem?_mirror_all (i:=0) hk i;unfold Al;simp only[bX,true_and,fL]at e;have g:∀(q:Array Nat) (j:Nat),q.getD j 0=(q[j]?).getD 0:=λq j=>by simp[yL]
 rw[g,e];split<;>rw[g]
omit O in
theorem vG(hk:k<p.size)(hl:l<=k)(i:Nat):(bubble p k (k-l)).getD i 0=if i=l then p.getD k 0 else if l<i/\i<=k then p.getD (i-1) 0 else p.getD i 0:=by
 have e:=getElem?_bubble hk (k-l) ⋯ i;have g:∀(q:Array Nat) (j:Nat),q.getD j 0=(q[j]?).getD 0:=λq j=>by simp[yL]
 rw[show k-(k-l)=l by lia]at e;rw[g,e];by_cases h1:i=l;.rw[aj h1,aj h1,g]
 rw[ah h1,ah h1];by_cases h2:l<i/\i<=k;.rw[aj h2,aj h2,g]
 rw[ah h2,ah h2,g]
omit O in
theorem Gs.rev(P:Gs p n)(hk:k<=n):Gs (Al p 0 k) n:=by
 have hs:=P.sz;refine⟨by rw[Al,mirror_size];exact hs,λi hi=>?_,λi j hi hj e=>?_,(vO _ _ _ _).trans P.pm⟩;.rw[uO ⋯];split;(·exact P.lt _ ⋯);exact P.lt _ hi
 rw[uO ⋯,uO ⋯]at e;split at e<;>split at e;.have:=P.inj _ _ ⋯ ⋯ e;lia
 .have:=P.inj _ _ ⋯ ⋯ e;lia
 .have:=P.inj _ _ ⋯ ⋯ e;lia
 exact P.inj _ _ hi hj e
omit O in
theorem Gs.bub(P:Gs p n)(hk:k<n)(hl:l<=k):Gs (bubble p k (k-l)) n:=by
 have hs:=P.sz;refine⟨by rw[bubble_size];exact hs,λi hi=>?_,λi j hi hj e=>?_,(bubble_perm _ _ _).trans P.pm⟩;.rw[vG ⋯ hl];split;(·exact P.lt _ hk);split;(·exact P.lt _ ⋯);exact P.lt _ hi
 rw[vG ⋯ hl,vG ⋯ hl]at e;split at e<;>split at e<;>(try split at e)<;>(try split at e)<;>first|lia|(have:=P.inj _ _ ⋯ ⋯ e;lia)
theorem QH(P:Gs p n)(hn:2<=n):1<=(ev lt (pE n p)).1/\(ev lt (pE n p)).1<=n/\Gs (ev lt (pE n p)).2 n/\Rv lt (ev lt (pE n p)).2 (ev lt (pE n p)).1:=by
 have hs:=P.sz;obtain⟨a,b,c,d⟩:=QI O P (n-1) 1 (aw _) ⋯ (λi j h1 h2=>by lia);rw[pE,sP];generalize ev lt (pj p (n-1) 1)=m at*;by_cases hm:m=n;.rw[aj (by simpa using hm)];exact⟨a,by show m<=n;lia,P,c⟩
 rw[ah (by simpa using hm)];by_cases h1:m>1;.rw[aj h1];simp only[ev];rw[aj (c 0 (m-1) ⋯ ⋯)];exact⟨a,by show m<=n;lia,P,c⟩
 rw[ah h1];have hm1:m=1:=⋯;subst hm1;have hd:=d ⋯;obtain⟨m,e,h3,h4,h5⟩:=T_ O P (n-(1+1)) 2 ⋯ ⋯ (λi j hij hj=>by have:i=0:=⋯;have:j=1:=⋯;subst_vars;exact hd);rw[kas_descPart,sP,e];simp only[fH,gt_iff_lt,if_false];have agF:Rv lt (Al p 0 m) m:=by intro i j hij hj;rw[uO ⋯,uO ⋯,aj ⋯,aj hj];exact h5 _ _ ⋯ ⋯
 obtain⟨a',b',c',_⟩:=QI O (P.rev (k:=m) ⋯) (n-m) m ⋯ ⋯ agF;rw[kas_tail3,sP];refine⟨?_,?_,P.rev ⋯,c'⟩<;>(simp only[ev];lia)
theorem QF(P:Gs p n)(hk:k<n)(hA:Rv lt p k):∀f l r,r-l<=f->l<=r->r<=k->(∀i,i<l->lt (p.getD i 0) (p.getD k 0)=true)->(∀i,r<=i->i<k->lt (p.getD k 0) (p.getD i 0)=true)->ev lt (sB p k f l r)<=k/\(∀i,i<ev lt (sB p k f l r)->lt (p.getD i 0) (p.getD k 0)=true)/\∀i,ev lt (sB p k f l r)<=i->i<k->lt (p.getD k 0) (p.getD i 0)=true:=by
 intro f;induction f with
  |zero=>intro l r h1 h2 h3 h4 h5;have:l=r:=⋯;subst this;exact⟨h3,h4,h5⟩
  |succ f ih=>intro l r h1 h2 h3 h4 h5;rw[sB];by_cases hlr:l>=r;(·rw[aj hlr];have:l=r:=⋯;subst this;exact⟨h3,h4,h5⟩);rw[ah hlr];simp only[ev];have m1:l<=(l+r)/2:=⋯;have m2:(l+r)/2<r:=⋯;generalize (l+r)/2=m at*;by_cases hc:lt (p.getD k 0) (p.getD m 0)=true;(·rw[aj hc];refine ih l m ⋯ m1 ⋯ h4 λi hi hik=>?_;by_cases e:i=m;(·rw[e];exact hc);exact O.tr _ _ _ hc (hA m i ⋯ hik));rw[ah hc];have h6:=other O P (i:=k) (j:=m) hk ⋯ ⋯ (by simpa using hc);refine ih (m+1) r ⋯ ⋯ h3 (λi hi=>?_) h5;by_cases e:i=m;(·rw[e];exact h6);exact O.tr _ _ _ (hA i m ⋯ ⋯) h6
theorem YJ:∀f p k,Gs p n->1<=k->k+f=n->Rv lt p k->Gs (ev lt (kas_bin f p k)) n/\Rv lt (ev lt (kas_bin f p k)) n:=by
 intro f;induction f with
  |zero=>intro p k P hk e h;exact⟨P,by rw[<-e];exact h⟩
  |succ f ih=>intro p k P hk e h;rw[kas_bin,sP];have hs:=P.sz;obtain⟨a,b,c⟩:=QF O P (k:=k) ⋯ h k 0 k ⋯ ⋯ (aw _) (λi hi=>by lia) (λi h1 h2=>by lia);generalize ev lt (sB p k k 0 k)=l at*;refine ih _ (k+1) (P.bub ⋯ a) ⋯ ⋯ ?_;intro i j hij hj;rw[vG ⋯ a,vG ⋯ a];by_cases i1:i=l;(·rw[aj i1,ah ⋯,aj ⋯];exact c (j-1) ⋯ ⋯);rw[ah i1];by_cases i2:l<i/\i<=k;(·rw[aj i2,ah ⋯,aj ⋯];exact h (i-1) (j-1) ⋯ ⋯);rw[ah i2];by_cases j1:j=l;(·rw[aj j1];exact b i ⋯);rw[ah j1];by_cases j2:l<j/\j<=k;(·rw[aj j2];by_cases e2:i=j-1;(·lia);exact h i (j-1) ⋯ ⋯);rw[ah j2];exact h i j hij ⋯
theorem T9(hn:2<=n):Gs (ev lt (Rx n)) n/\Rv lt (ev lt (Rx n)) n:=by
 have P0:Gs (lS (aX n)) n:=by(have g:∀i,i<n->(lS (aX n)).getD i 0=i:=λi hi=>by simp[hi]);exact⟨by simp,λi hi=>by rw[g i hi];exact hi,λi j hi hj e=>by rwa[g i hi,g j hj]at e,Array.Perm.refl _⟩
 obtain⟨a,b,c,d⟩:=QH O P0 hn;rw[Rx,sP];generalize ev lt (pE n (lS (aX n)))=r at*;by_cases h:r.1<n;.rw[aj h];have hm:max r.1 1=r.1:=⋯;rw[hm];exact YJ O (n-r.1) r.2 r.1 c a ⋯ d
 rw[ah h];have:r.1=n:=⋯;rw[this]at d;exact⟨c,d⟩
end
noncomputable def MY(n:Nat){α:Type}(P:α->Prop):KasT α->Prop
 |.ret a=>P a
 |.ask i j k=>i<n/\j<n/\∀b,MY n P (k b)
theorem pT{α β:Type}{P:α->Prop}{R:β->Prop}{f:α->KasT β}(hf:∀a,P a->MY n R (f a)):∀t,MY n P t->MY n R (t.bind f)
 |.ret a,h=>hf a h
 |.ask i j k,h=>⟨h.1,h.2.1,λb=>pT hf (k b) (h.2.2 b)⟩
theorem QE{cmp:Nat->Nat->(Bool->aU->Prop)->aU->Prop}(hc:∀i j C,i<n->j<n->C (lt i j) s->cmp i j C s){α:Type}{P:α->Prop}{Q:α->aU->Prop}:∀t,MY n P t->Q (ev lt t) s->t.kasWp cmp Q s
 |.ret _,_,h=>h
 |.ask i j k,hi,h=>hc i j _ hi.1 hi.2.1 (QE hc (k (lt i j)) (hi.2.2 _) h)
def AL(n:Nat)(p:Array Nat):Prop:=∀x,x∈p.toList->x<n
theorem AL.get(h:AL n p)(hn:0<n)(i:Nat):p.getD i 0<n:=by
 by_cases hi:i<p.size;·(have:p.getD i 0=p[i]:=by simp[JF,hi]);rw[this];exact h _ (by simp)
 have:p.getD i 0=0:=by simp[JF,hi]
 rw[this];exact hn
theorem AL.perm(h:AL n p)(e:q.Perm p):AL n q:=λx hx=>h x ((Av.mp e).mem_iff.mp hx)
section
variable {n:Nat}(hn:0<n)
include hn
theorem PL(h:AL n p):∀f k,MY n (λ_=>True) (pj p f k):=by
 intro f;induction f with
  |zero=>intro k;exact trivial
  |succ f ih=>intro k;rw[pj];refine⟨h.get hn _,h.get hn _,λb=>?_⟩;cases b;(·exact ih _);exact trivial
theorem Tz:∀f p k q,AL n p->MY n (λr:Array Nat×Nat×Nat=>AL n r.1) (Ry f p k q):=by
 intro f;induction f with
  |zero=>intro p k q h;exact h
  |succ f ih=>intro p k q h;rw[Ry];refine⟨h.get hn _,h.get hn _,λb=>?_⟩;cases b;(·refine⟨h.get hn _,h.get hn _,λc=>?_⟩;cases c;(·exact ih _ _ _ h);exact h);simp only[if_true];split;(·exact ih _ _ _ (h.perm (vO _ _ _ _)));exact ih _ _ _ h
theorem FA(h:AL n p)(a b:Nat):MY n (λr:Nat×Array Nat=>AL n r.2) (kas_tail3 a b p):=by have h2:AL n (Al p 0 a):=h.perm (vO _ _ _ _);unfold kas_tail3;exact pT (f:=λm=>KasT.ret (m,Al p 0 a)) (P:=λ_=>True) (R:=λr:Nat×Array Nat=>AL n r.2) (λm _=>h2) _ (PL hn h2 _ _)
theorem xi(h:AL n p)(a b:Nat):MY n (λr:Nat×Array Nat=>AL n r.2) (kas_descPart a b p):=by
 refine pT (λr hr=>?_) _ (Tz hn _ _ _ _ h);split;.exact FA hn (hr.perm (vO _ _ _ _)) _ _
 exact FA hn hr _ _
theorem PK(h:AL n p)(b:Nat):MY n (λr:Nat×Array Nat=>AL n r.2) (pE b p):=by
 refine pT (λr _=>?_) _ (PL hn h _ _);split;.exact h
 split;.refine⟨h.get hn _,h.get hn _,λc=>?_⟩;cases c;(·exact xi hn (h.perm (vO _ _ _ _)) _ _);exact h
 exact xi hn h _ _
theorem PJ(h:AL n p)(k:Nat):∀f l r,MY n (λ_=>True) (sB p k f l r):=by
 intro f;induction f with
  |zero=>intro l r;exact trivial
  |succ f ih=>intro l r;rw[sB];split;(·exact trivial);refine⟨h.get hn _,h.get hn _,λb=>?_⟩;cases b;(·exact ih _ _);exact ih _ _
theorem XM:∀f p k,AL n p->MY n (AL n) (kas_bin f p k):=by
 intro f;induction f with
  |zero=>intro p k h;exact h
  |succ f ih=>intro p k h;exact pT (λl _=>ih _ _ (h.perm (bubble_perm _ _ _))) _ (PJ hn h k _ _ _)
theorem Tx:MY n (AL n) (Rx n):=by
 refine pT (λr hr=>?_) _ (PK hn (p:=lS (aX n)) (λx hx=>cr.mp (by simpa using hx)) n);split;.exact XM hn _ _ _ hr
 exact hr
end
end Rk
end
section
namespace Pt
open PySem PySem.Spec PyProof.Rows L2
section
variable {X:Cx}{au:List (aH×kY)}{Z:L2.St}{H:Hp}{s:aU}
theorem Sy{vs:List V}(F:dm X.prog X.w X.K X.mg X.base je k f fd ps sp)(hr:j_ (k+2) X.A)(hb:gF X.K fd ps [])(I:cG X au Z H s)(r:dk vs us)(h:sp vs H Q E0):wpAny (b7 X.prog X.w) X.A.in1.in1 (call (.ref f) us) (EP X au Z Q) (λ_ _=>False) s:=by
 have hl:(us++[]).length=ps.length:=by rw[eN,<-r.length];exact F.len _ _ _ _ h
 have My:=hb s us I.Ij hl;rw[eN]at My;refine UG (tG (F.run X.A.in1.in1 X.stack s H ⟨us,[]⟩ us vs Q E0 hr.in1.in1 I.YL.in1.in1 My r h) λr s' hq=>?_);cases r with
  |error e=>exact hq.elim
  |ok fl=>
   cases fl with
    |ret u=>exact I.after hq
    |next=>exact dY hq
    |brk=>exact dY hq
    |cont=>exact dY hq
theorem at_of(I:cG X au Z H s)(h:H q=some (.lst (z.map V.int))):rF.At s.heap q z:=by obtain⟨_,its,n,r,_,e⟩:=I.uZ h;exact⟨its.toArray,⟨_,e,rfl,n,rfl⟩,by simpa using r.ints⟩
theorem Ig(e:h.get? q=some o)(hc:o.cls=.type "list"):PySem.W.Looks M h (typeOf (.ref q)) (.type "list"):=by intro A Q E s' kp hq;exact wpAny_typeOf ⟨o,kp _ _ e,hc⟩ hq
end
structure vM(zs:List (List Int))(p:List Nat):Prop where
 perm:p.Perm (aX zs.length)
 asc:p.Pairwise λi j=>rF.uk (zs.getD i []) (zs.getD j [])=true
def Ob(sp:Sp)(te:TE):TE:=λZ H Q=>te Z H λx H1=>∃(a:aH) (xs:List V) (zs:List (List Int)),x=.ref a/\H1 a=some (.lst xs)/\xs.length<64/\zs.length=xs.length/\zs.Nodup/\(∀z,z∈zs->z≠[])/\(∀(i:Nat) y z,xs[i]?=some y->zs[i]?=some z->∀H2 (Q':VK),bC H1 H2->(∀H3 q,bC H2 H3->H3 q=some (.lst (z.map V.int))->Q' (.ref q) H3)->sp [y] H2 Q' E0)/\∀D p H',bC H1 H'->H1 D=none->H' D=some (.lst (p.map λi=>xs.getD i .jk))->vM zs p->Q (.ref D) H'
theorem To(x:List Int):rF.uk x x=false:=by
 induction x with
  |nil=>rfl
  |cons a x ih=>simp[rF.uk,ih]
theorem Xz:∀x y z,rF.uk x y=true->rF.uk y z=true->rF.uk x z=true:=by
  intro x
  induction x with
  |nil=>intro y z h1 h2;cases y with
    |nil=>simp[rF.uk]at h1
    |cons b y=>cases z with
      |nil=>simp[rF.uk]at h2
      |cons c z=>rfl
  |cons a x ih=>intro y z h1 h2;cases y with
    |nil=>simp[rF.uk]at h1
    |cons b y=>cases z with
      |nil=>simp[rF.uk]at h2
      |cons c z=>
        simp only[rF.uk]at h1 h2 ⊢
        by_cases e1:a=b
        . subst e1
          rw[aj rfl]at h1
          by_cases e2:a=c
          . subst e2
            rw[aj rfl]at h2 ⊢
            exact ih y z h1 h2
          . rw[ah e2]at h2 ⊢;exact h2
        . rw[ah e1]at h1
          by_cases e2:b=c
          . subst e2
            rw[ah e1];exact h1
          . rw[ah e2]at h2
            rw[ah ⋯]
            simp;lia
theorem Tn:∀x y,x≠y->rF.uk x y=true\/rF.uk y x=true:=by
  intro x
  induction x with
  |nil=>intro y h;cases y with
    |nil=>exact ap rfl h
    |cons b y=>exact .inl rfl
  |cons a x ih=>intro y h;cases y with
    |nil=>exact .inr rfl
    |cons b y=>
      simp only[rF.uk]
      by_cases e:a=b
      . subst e
        rw[aj rfl,aj rfl]
        exact ih y λe=>h (by rw[e])
      . rw[ah e,ah (lC e)]
        simp;lia
theorem W6{zs:List (List Int)}(hn:zs.Nodup):Rk.Ord (λi j=>rF.uk (zs.getD i []) (zs.getD j [])) zs.length where
 Ay i:=To _
 tr i j k:=Xz _ _ _
 tot i j hi hj hij:=Tn _ _ λe=>by
  simp only[aD,aa hi,aa hj,gT]at e
  rcases fM i j with h|h|h
  .exact fW.mp hn i j hi hj h e
  .exact hij h
  .exact fW.mp hn j i hj hi h e.symm
theorem We(P:Rk.Gs p zs.length)(hA:Rk.Rv (λi j=>rF.uk (zs.getD i []) (zs.getD j [])) p zs.length):vM zs p.toList:=by
 have hs:=P.sz;have g:∀i h,p.toList[i]=p.getD i 0:=λi h=>by(have h':i<p.size:=by simpa using h);simp[JF,h']
 constructor;.have:=Av.mp P.pm;simpa using this
 refine fW.mpr λi j hi hj hij=>?_;rw[g,g];exact hA i j hij (by rw[cX]at hj;lia)
section
variable {X:Cx}
theorem EG{xs:List V}(h:dk xs its):∀{p:List Nat},(∀i,i∈p->i<xs.length)->dk (p.map λi=>xs.getD i .jk) (p.map λi=>its.getD i .none)
 |[],_=>.nil
 |i::p,hp=>by have hi:=hp i (.head _);obtain⟨w,hw,LQ⟩:=h.get (aa hi);refine .cons ?_ (EG h λj hj=>hp j (.tail _ hj));simp only[aD,aa hi,hw,gT];exact LQ
theorem vM.lt(h:vM zs p):∀i,i∈p->i<zs.length:=λi hi=>cr.mp (h.perm.mem_iff.mp hi)
theorem Bw{au:List (aH×kY)}{Z:L2.St}{H:Hp}{s:aU}{A:jQ}{E:aI->aU->Prop}{D kS:aH}{od:kY}{e1:Nat}{xs:List V}{its:List aI}{zs:List (List Int)}{ks:List V}{Pf:Ni->aU->Prop}{st:SortSt}{p:List Nat}(I:cG X au Z H s)(hod:od=kq "list" #[] e1)(hD:H D=some (.lQ od (.lst [])))(hn0:∀o' u',X.RZ D≠some (.lQ o' u'))(hk:H kS=some (.lst ks))(ND:kS≠D)(hv:dk xs its)(Qs:xs.length<64)(Kt:zs.length=xs.length)(hp:vM zs p)(ho:(arrOf st).map (·.2)=lS (p.map λi=>its.getD i .none))(hf:failedOf st=none)(fin:∀s',cG X au Z (cE (cE H kS (.lst [])) D (.lst (p.map λi=>xs.getD i .jk))) s'->Pf (.done (.ret .none)) s'):wpAny (b7 X.prog X.w) A (ksk_tail D false e1 (.ref kS) st) Pf E s:=by
 have hpl:p.length=xs.length:=by rw[hp.perm.length_eq,eF,Kt]
 obtain⟨hz,itk,nk,rk,hlk,ek⟩:=I.uZ hk;unfold ksk_tail;dsimp only;refine bv (xA ek rfl ?_ (by rw[bc,<-hlk];exact hz) (bX _));refine bv (wpAny_letGo ?_);have I1:cG X au Z (cE H kS (.lst [])) {s with heap:=s.heap.update kS (fK λ_=>#[]),toks:=s.toks}:=I.Md (its':=[]) hk ek rfl .nil (bX _);have hD1:cE H kS (.lst []) D=some (.lQ od (.lst [])):=by rw[aM (lC ND)];exact hD
 have hgD:=(I1.fQ D _ hD1).1;rw[hod]at hgD;refine bv (seqEpoch_at hgD rfl ?_);have I2:=I1.unlock hD1 hn0;refine bv (xA hgD rfl ?_ (bX _) ?_);.rw[hf];simp only[bne_self_eq_false,d7,if_false];have I3:=I2.Md (l:=D) (its:=[]) (n:=e1) (ys:=p.map λi=>xs.getD i .jk) (its':=p.map λi=>its.getD i .none) (t':=s.toks) (f:=λ_=>(arrOf st).map (·.2)) am hgD ho (EG hv (λi hi=>by rw[<-Kt];exact hp.lt i hi)) (by rw[ab,hpl];exact bV (bU Qs ∅));rw[ya]at I3;exact cM (fin _ I3)
 simp only[d7,if_false];rw[ho,bc,ab,hpl];exact bV (bU Qs ∅)
theorem OC{au:List (aH×kY)}{E:aI->aU->Prop}{e1:Nat}{xs:List V}{its:List aI}{zs:List (List Int)}{ps:List aH}{Pf:Ni->aU->Prop}(hu:A.units<tW)(I:cG X au Z H s)(hod:od=kq "list" #[] e1)(hD:H D=some (.lQ od (.lst [])))(hn0:∀o' u',X.RZ D≠some (.lQ o' u'))(hk:H kS=some (.lst (ps.map V.ref)))(ND:kS≠D)(hv:dk xs its)(Qs:xs.length<64)(Kt:zs.length=xs.length)(hnd:zs.Nodup)(hpl:ps.length=xs.length)(hps:∀(i:Nat) q z,ps[i]?=some q->zs[i]?=some z->H q=some (.lst (z.map V.int)))(fin:∀p s',vM zs p->cG X au Z (cE (cE H kS (.lst [])) D (.lst (p.map λi=>xs.getD i .jk))) s'->Pf (.done (.ret .none)) s'):wpAny (b7 X.prog X.w) A (ksk_end D false its.toArray e1 (.ref kS) (ps.map ci).toArray) Pf E s:=by
 have hil:=hv.length;unfold ksk_end;simp only[d7,if_false];by_cases h2:its.toArray.size<2;.rw[aj h2,aj h2];rw[bc]at h2;refine bv (cM ?_);rw[StateT.run_pure];refine bv (cM ?_);dsimp only;have hs:vM zs (aX zs.length):=⟨ni _,by refine fW.mpr λi j hi hj hij=>?_;rw[eF]at hi hj;lia⟩;refine Bw (p:=aX zs.length) I hod hD hn0 hk ND hv Qs Kt hs ?_ rfl (λs' I'=>fin _ s' hs I');(have har:arrOf (SortSt.mk' general' ((ps.map ci).toArray.zip its.toArray) #[] 7 none)=(lS (aX zs.length)).map (Jq ((ps.map ci).toArray.zip its.toArray)):=by have e:=PySem.W.kas_range ((ps.map ci).toArray.zip its.toArray);rw[show((ps.map ci).toArray.zip its.toArray).size=zs.length by simp;lia]at e;exact e.symm);rw[Jp (by rw[ab];lia) har]
 rw[ah h2,ah h2];rw[bc]at h2;have hks:∀i,i<its.length->∃q z,(ps.map ci).getD i uu=.ref q/\zs.getD i []=z/\rF.At s.heap q z/\H q=some (.lst (z.map V.int)):=by intro i hi;have h1:i<ps.length:=⋯;have h3:i<zs.length:=⋯;have h4:=hps i ps[i] zs[i] (aa h1) (aa h3);exact⟨ps[i],zs[i],by simp[aD,aE,aa h1],by simp[aD,aa h3],at_of I h4,h4⟩
 refine bv (PySem.W.kas_kind (vs:=ps.map ci) (T:=.type "list") (by rw[ab];lia) ?_ ∅ ∅ ?_);.intro v Zs;obtain⟨q,hq,rfl⟩:=ao.mp Zs;obtain⟨i,hi,rfl⟩:=cO.mp hq;have h3:i<zs.length:=⋯;have h4:=hps i ps[i] zs[i] (aa hi) (aa h3);obtain⟨_,_,_,_,_,e⟩:=I.uZ h4;exact Ig e rfl
 obtain⟨P,hA⟩:=Rk.T9 (W6 hnd) ⋯;have hlen:zs.length=its.length:=⋯;refine bv (gw (PySem.W.kat_run (E:=E) (κ:=oneType') (ks:=ps.map ci) (vs:=its) (Q:=λst s'=>s'=s/\arrOf st=(Rk.ev (λi j=>rF.uk (zs.getD i []) (zs.getD j [])) (vQ zs.length)).map (Jq ((ps.map ci).toArray.zip its.toArray))/\failedOf st=none) (G:=λp s'=>s'=s/\p=Rk.ev (λi j=>rF.uk (zs.getD i []) (zs.getD j [])) (vQ zs.length)) (by rw[ab];lia) ⋯ ⋯ ?_ ?_) ?_ (λ_ _ e=>e));.rintro p Sm s' _ h1 h3 ⟨rfl,rfl⟩;exact⟨rfl,h1,h3⟩
 .rw[<-hlen];refine Rk.QE (n:=zs.length) (P:=Rk.AL zs.length) ?_ _ (Rk.Tx ⋯) ⟨rfl,rfl⟩;intro i j C hi hj hC;obtain⟨q1,z1,a1,a2,a3,_⟩:=hks i ⋯;obtain⟨q2,z2,b1,b2,b3,_⟩:=hks j ⋯;unfold PySem.W.kas_ask;rw[a1,b1,keyLt'_oneType];rw[a2,b2]at hC;exact rF.Fc hu a3 b3 hC
 rintro⟨⟨⟩,st⟩ s' ⟨rfl,har,hf⟩;dsimp only;have hs:=We P hA;refine Bw (p:=(Rk.ev (λi j=>rF.uk (zs.getD i []) (zs.getD j [])) (vQ zs.length)).toList) I hod hD hn0 hk ND hv Qs Kt hs ?_ hf (λs' I'=>fin _ s' hs I');exact Jp (by rw[ab];lia) har
theorem LK{au:List (aH×kY)}{k:Nat}{E:aI->aU->Prop}{pn:List cJ}{e1:Nat}{xs:List V}{its:List aI}{zs:List (List Int)}{Pf:Ni->aU->Prop}(F:dm X.prog X.w X.K X.mg X.base je k f fd pn sp)(hr:j_ (k+2) X.A)(hb:gF X.K fd pn [])(I:cG X au Z H s)(h1:bC H1 H)(TU:H1 kS=none)(hod:od=kq "list" #[] e1)(hD:H D=some (.lQ od (.lst [])))(hn0:∀o' u',X.RZ D≠some (.lQ o' u'))(hk:H kS=some (.lst []))(ND:kS≠D)(hv:dk xs its)(Qs:xs.length<64)(Kt:zs.length=xs.length)(hnd:zs.Nodup)(hz0:∀z,z∈zs->z≠[])(key:∀(i:Nat) y z,xs[i]?=some y->zs[i]?=some z->∀H2 (Q':VK),bC H1 H2->(∀H3 q,bC H2 H3->H3 q=some (.lst (z.map V.int))->Q' (.ref q) H3)->sp [y] H2 Q' E0)(fin:∀p H' s',bC H1 H'->H' D=some (.lQ od (.lst []))->vM zs p->cG X au Z (cE H' D (.lst (p.map λi=>xs.getD i .jk))) s'->Pf (.done (.ret .none)) s'):wpAny (b7 X.prog X.w) X.A.in1.in1 (ksk_rest D (.ref f) false its.toArray e1 (.ref kS)) Pf E s:=by
 have hil:=hv.length;unfold ksk_rest;refine bv (wpAny_rule ?_);rw[List.forIn_toArray];refine bv (ksk_fold (λi s'=>∃(H':Hp) (ps:List aH),cG X au Z H' s'/\bC H1 H'/\H' D=some (.lQ od (.lst []))/\H' kS=some (.lst (ps.map V.ref))/\ps.length=i/\∀(j:Nat) q z,ps[j]?=some q->zs[j]?=some z->H' q=some (.lst (z.map V.int))) its 0 s ⟨H,[],I,h1,hD,hk,rfl,by simp⟩ ?_ ?_)
 .rintro j x s' hx ⟨H',ps,I',FQ,YA,Iq,hpl,hps⟩;rw[fL]at hpl ⊢;have hj:=(ax.mp hx).1;have hjx:j<xs.length:=⋯;have hjz:j<zs.length:=⋯;obtain⟨u,hu,ru⟩:=hv.get (aa hjx);rw[hx]at hu;cases hu;refine bv (wpAny_attempt (gw (Sy F hr hb I' (vs:=[xs[j]]) (us:=[x]) (.cons ru .nil) (Q:=λv Ag=>∃q,v=.ref q/\bC H' Ag/\Ag q=some (.lst (zs[j].map V.int))) (key j _ _ (aa hjx) (aa hjz) H' _ FQ λH3 q s3 hq=>⟨q,rfl,s3,hq⟩)) (λv Zg he=>?_) λ_ _ hF=>hF.elim));obtain⟨y,Ag,I'',rv,q,rfl,s3,hq⟩:=he;cases rv;dsimp only;obtain⟨hz,itk,nk,rk,hlk,ek⟩:=I''.uZ (s3 _ _ Iq);refine bv (xA ek rfl ?_ (by rw[bc,<-hlk];exact hz) ?_)
  .refine cM ⟨rfl,cE Ag kS (.lst ((ps++[q]).map V.ref)),ps++[q],?_,dn (FQ.trans s3) TU,by rw[aM (lC ND)];exact s3 _ _ YA,am,by simp[hpl],?_⟩;(·refine I''.Md (its':=itk++[ci q]) (s3 _ _ Iq) ek (by simp) ?_ (by rw[ab,bw,hpl];exact bV (bU (show j+1<65 by lia) ∅));rw[aF];exact rk.append (.cons rfl .nil));have hne:∀b z,Ag b=some (.lst (z.map V.int))->z≠[]->b≠kS:=by
    rintro b z hb hz rfl;rw[s3 _ _ Iq]at hb;have hb:=HO.lst.inj (aZ hb);cases z with
     |nil=>exact hz rfl
     |cons a z=>
      cases ps with
       |nil=>simp at hb
       |cons c ps=>simp at hb
   intro j' q' z' h1 h2;by_cases hjj:j'<ps.length;(·rw[bA hjj]at h1;have h3:=s3 _ _ (hps j' q' z' h1 h2);rw[aM (hne q' z' h3 (hz0 z' (a_ h2)))];exact h3);(have:j'=j:=by have:=(ax.mp h1).1;simp at this;lia);subst this;rw[bK ⋯,hpl,kH]at h1;simp at h1;subst h1;rw[aa hjz]at h2;cases h2;rw[aM (hne q _ hq (hz0 _ (ba hjz)))];exact hq
  rw[Array.size_push,bc,<-hlk];lia
 rintro s' ⟨H',ps,I',FQ,YA,Iq,hpl,hps⟩;rw[fL]at hpl;obtain⟨hz,itk,nk,rk,hlk,ek⟩:=I'.uZ Iq;refine bv (listItems_at ek rfl ?_);have af4:itk=ps.map ci:=by
  have go:∀(qs:List aH) (ws:List aI),dk (qs.map V.ref) ws->ws=qs.map ci:=by
   intro qs;induction qs with
    |nil=>intro ws h;cases h;rfl
    |cons a qs ih=>
     intro ws h;rw[aR]at h;cases h with
      |cons ha ht=>cases ha;rw[ih _ ht,aR]
  exact go ps itk rk
 rw[af4];refine OC (by have:=hr.un;show X.A.units+1+1<_;lia) I' hod YA hn0 Iq ND hv Qs Kt hnd ⋯ hps λp Zg hs I''=>?_;exact fin p _ Zg (dn FQ TU) (by rw[aM (lC ND)];exact YA) hs I''
theorem IS{xs:List V}(F:dm X.prog X.w X.K X.mg X.base je k f fd pn sp)(hr:j_ (k+2) X.A)(hb:gF X.K fd pn [])(I:cG X au Z H1 s)(ha:H1 a=some (.lst xs))(Qs:xs.length<64)(Kt:zs.length=xs.length)(hnd:zs.Nodup)(hz0:∀z,z∈zs->z≠[])(key:∀(i:Nat) y z,xs[i]?=some y->zs[i]?=some z->∀H2 (Q':VK),bC H1 H2->(∀H3 q,bC H2 H3->H3 q=some (.lst (z.map V.int))->Q' (.ref q) H3)->sp [y] H2 Q' E0)(fin:∀D p H',bC H1 H'->H1 D=none->H' D=some (.lst (p.map λi=>xs.getD i .jk))->vM zs p->Q (.ref D) H'):wpAny (b7 X.prog X.w) X.A (call (.builtin "sorted") [.ref a] [(rj "key",.ref f)]) (EP X au Z Q) X.xe s:=by
 obtain⟨hz,its,n,hv,hil,ea⟩:=I.uZ ha;refine call_function_entry_kw kind_sorted plain_sorted entry_sorted (ksk_s1 _ _) ?_;unfold Builtin.«sorted»;refine bv (m:=checkCount "sorted" 1 1 _) (cM ?_);refine bv (collect_list ⟨_,ea,rfl,n,rfl⟩ ?_ (by rw[qY];lia));refine bv (wpAny_newList ?_ (by rw[qY];lia));have hsz:((s.heap.push (kq "list" #[] 0)).update s.heap.objs.size (fK (·++its.toArray))).objs.size=s.heap.objs.size+1:=by rw[f9.size_update,size_push']
 have kp:∀b o,s.heap.get? b=some o->(((s.heap.push (kq "list" #[] 0)).update s.heap.objs.size (fK (·++its.toArray))).push (kq "list" its.toArray 0)).get? b=some o:=λb o q=>by have hlt:=bG q;rw[Nq _ _ _ (by rw[hsz];exact cN (pF hlt)),f9.get?_update_ne _ _ _ _ (cN hlt),Nq _ _ _ (cN hlt)];exact q
 have Vu:(((s.heap.push (kq "list" #[] 0)).update s.heap.objs.size (fK (·++its.toArray))).push (kq "list" its.toArray 0)).get? (s.heap.objs.size+1)=some (kq "list" its.toArray 0):=by rw[<-hsz];exact cD _ rfl
 have hDn:H1 (s.heap.objs.size+1)=none:=I.fQ.fresh (Jw _);show wpAny _ _ _ _ _ {s with heap:=((s.heap.push (kq "list" #[] 0)).update s.heap.objs.size (fK (·++its.toArray))).push (kq "list" its.toArray 0)};rw[hsz];generalize hDe:s.heap.objs.size+1=D at*;have I1:cG X au Z (cE H1 D (.lst xs)) {s with heap:=((s.heap.push (kq "list" #[] 0)).update s.heap.objs.size (fK (·++its.toArray))).push (kq "list" its.toArray 0),toks:=s.toks}:=I.laid kp ⋯ ⟨hz,its,0,hv,Vu⟩;generalize ((s.heap.push (kq "list" #[] 0)).update s.heap.objs.size (fK (·++its.toArray))).push (kq "list" its.toArray 0)=h1 at*;refine bv (rh (wpAny_call_entry_kw slot_list_sort ⟨_,Vu,rfl⟩ entry_list_sort ?_ (ksk_l1 _ _)));show wpAny (b7 X.prog X.w) X.A.in1.in1 (Builtin.«list.sort» ⟨[.ref D],[(rj "key",.ref f)]⟩) _ _ _;rw[ksk_t1];unfold ksk_tree;refine bv (listItems_at Vu rfl ?_);refine bv (xA Vu rfl ?_ (by rw[bc,qY];lia) (bX _));obtain⟨e1,ZC⟩:∃e1,(h1.update D (fK λ_=>(#[]:Array aI))).get? D=some (kq "list" #[] e1):=⟨_,get?_update_seq Vu λ_=>#[]⟩;refine bv (seqEpoch_at ZC rfl ?_);have I2:=I1.Md (l:=D) (its:=its) (n:=0) (ys:=[]) (its':=[]) (t':=s.toks) (f:=λ_=>#[]) am Vu rfl .nil (bX _);rw[ya]at I2;obtain⟨od,I3⟩:=I2.lock am trivial;have hn0:=I2.Fg am trivial;rw[ya]at I3;have hod:od=kq "list" #[] e1:=by have:=(I3.fQ D _ am).1;have h:=this.symm.trans ZC;exact aZ h
 refine bv (wpAny_newTuple ?_ (by rw[qY];simp;lia));refine bv (wpAny_newList ?_ (bX _));refine rh ?_;have I4:cG X au Z (cE H1 D (.lQ od (.lst []))) {s with heap:=(h1.update D (fK λ_=>(#[]:Array aI))).push (kq "tuple" its.toArray 0),toks:=s.toks}:=I3.kept λb o q=>bx _ q;have hkf:=I4.fresh;have I5:=I4.Tp (ys:=[]) (its:=[]) (t':=s.toks) .nil (bX _);have ND:((h1.update D (fK λ_=>(#[]:Array aI))).push (kq "tuple" its.toArray 0)).objs.size≠D:=λe=>by have:=hkf;rw[e]at this;rw[am]at this;cases this
 have TU:H1 ((h1.update D (fK λ_=>(#[]:Array aI))).push (kq "tuple" its.toArray 0)).objs.size=none:=by have:=hkf;rwa[aM ND]at this
 refine LK (H1:=H1) F hr hb I5 (dn (aP hDn) TU) TU hod (by rw[aM (lC ND),am]) hn0 am ND hv Qs Kt hnd hz0 key λp H' s' s1 YA hs I'=>⟨_,rfl,?_⟩;exact cM ⟨_,rfl,.ref D,_,I',rfl,fin D p _ (dn s1 hDn) hDn am hs⟩
theorem OY(F:dm X.prog X.w X.K X.mg X.base je k f fd pn sp)(hr:j_ (k+2) X.A)(hb:gF X.K fd pn [])(hgs:Gl X "sorted")(hms:X.mg "sorted"=none)(hg:Gl X x)(hm:X.mg x=some (.ref f))(he:PE X e te)(GW:(x==("__debug__":cJ))=false:=by decide)(h1:lX pos (b8 [e] X.env)=[(false,gG e X.env)]:=by rfl)(hkw:(RB pos (CA [⟨some (rj "key"),.Name x p',kp⟩] X.env)).filterMap (·.1)=[rj "key"]:=by rfl):PE X (.Call (.Name "sorted" p) [e] [⟨some (rj "key"),.Name x p',kp⟩] pos) (Ob sp te):=by intro au s Z H Q I h;refine iO (qC I hgs hms boot_sorted ?_ ∅ ∅);refine callWith_kw ?_ (by rw[h1];rfl) (by rw[h1];rfl) rfl rfl;rw[h1,hkw];refine uD (i4 (he au s Z H _ I h) λu s1 ⟨y,H1,I1,r1,q1⟩=>vT ?_);refine kws_cons (yq I1 hg hm ?_ GW);refine kws_nil ?_;obtain⟨a,xs,zs,rfl,ha,Qs,Kt,hnd,hz0,key,fin⟩:=q1;cases r1;exact IS F hr hb I1 ha Qs Kt hnd hz0 key fin
end
end Pt
end
section
namespace Pt
open PySem PySem.Spec PyProof.Rows L2
section
variable {X:Cx}{e st:gA}{te ts:TE}{pos p2:Et}
def V7(K:ai)(te ts:TE):TE:=λZ H Q=>te Z H λx H1=>ts Z H1 λy H2=>y=.int (-1)/\∃a xs,x=.ref a/\cu K H2 a xs/\∀p,H2 p=none->Q (.ref p) (cE H2 p (.lst xs.reverse))
theorem N0{xs:List V}(h:dk xs its):dk xs.reverse its.reverse:=by
 induction h with
  |nil=>exact .nil
  |cons a b ih=>rw[lU,lU];exact ih.append (.cons a .nil)
theorem OZ{K:ai}(he:PE X e te)(hs:PE X st ts)(hK:X.K=K:=by rfl):PE X (.Subscript e (.Slice none none (some st) p2) pos) (V7 K te ts):=by subst hK;intro au s Z H Q I h;refine Gz (i4 (he au s Z H _ I h) λv s1 ⟨x,H1,I1,r1,q1⟩=>?_);refine wpAny_Slice ?_;rw[Jo];refine cM ?_;refine cM ?_;rw[evalPart_some];refine i4 (hs au s1 Z H1 _ I1 q1) λvk s2 ⟨y,H2,I2,r2,q2⟩=>?_;obtain⟨rfl,a,xs,rfl,hx,q⟩:=q2;obtain⟨t,rfl⟩:=r2;cases r1;have I3:cG X au Z H2 {s2 with heap:=s2.heap.push {cls:=.type "slice",data:=.fields #[.none,.none,.int (-1) t]}}:=I2.kept (t':=s2.toks) λb ob q=>bx _ q;obtain⟨its,r,pl,hz⟩:=I3.list hx;have hlen:=r.length;refine tail_any (T:="list") (ops:=[.ref a,.ref s2.heap.objs.size]) pl.isList.typeIs Aj.lookup ?_ (by with_unfolding_all rfl);refine Jm pl.isList (yK ..) .none .none (.int (-1) t) ∅ ?_ (by rw[bc];lia);rw[PySem.W.krv_pick];have I4:=I3.Tp (ys:=xs.reverse) (its:=its.reverse) (t':=s2.toks) (N0 r) (by rw[kM];lia);exact⟨.ref _,_,I4,rfl,q _ I3.fresh⟩
end
end Pt
end
section
namespace Pt
open PySem PySem.Spec PyProof.Rows L2
section
variable {A:jQ}{s:aU}
theorem all_eq(zx zy:List Int)(h:zx.length=zy.length):(aX zx.length).all (λj=>decide (zx.getD j 0=zy.getD j 0))=decide (zx=zy):=by
 rw[jH,fu,decide_eq_true_eq];constructor;.intro hh;apply qp h;intro i h1 h2;have:=hh i (cr.mpr h1);simpa[aD,aa h1,aa h2]using this
 rintro rfl x _;simp
theorem OK(hu:A.units<tW)(hp:rF.At s.heap p zx)(hq:rF.At s.heap q zy):SeqAt.RcAt A s (.ref p) (.ref q) (decide (zx=zy)):=by
 obtain⟨xs,lx,ix⟩:=hp;obtain⟨ys,ly,iy⟩:=hq;have hx:=ix.length;have hy:=iy.length;rw[cX]at hx hy;by_cases hl:zx.length=zy.length;.rw[<-all_eq zx zy hl];have:=SeqAt.RcAt.lists (A:=A) (s:=s) (e:=λj=>decide (zx.getD j 0=zy.getD j 0)) lx ly ⋯ hu λj h1 h2=>?_;(·rwa[show xs.size=zx.length by lia]at this);obtain⟨u,t,f1,f2⟩:=rF.pS ix (i:=j) (by rw[cX];exact h1);obtain⟨u',t',f3,f4⟩:=rF.pS iy (i:=j) (by rw[cX];exact h2);(have e1:xs[j]=.int u t:=by rw[ii,AH h1]at f1;exact aZ f1);(have e2:ys[j]=.int u' t':=by rw[ii,AH h2]at f3;exact aZ f3);rw[e1,e2];(have e3:decide (zx.getD j 0=zy.getD j 0)=(u==u'):=by simp only[aD,f2,f4,gT];by_cases h:u=u'<;>simp[h]);show uv A.in1 s _ _ (decide (zx.getD j 0=zy.getD j 0));rw[e3];exact CF u t u' t'
 have:decide (zx=zy)=false:=decide_eq_false λe=>hl (by rw[e]);rw[this];exact SeqAt.RcAt.lists_lengths lx ly (by simp;lia) hu
theorem QK(hu:A.units<tW)(hp:rF.At s.heap p zx)(hq:rF.At s.heap q zy):uv A s (.ref p) (.ref q) (decide (zx=zy)):=by
 by_cases e:p=q;.subst e;(have:zx=zy:=by obtain⟨xs,⟨o,a1,_,n,a2⟩,ix⟩:=hp;obtain⟨ys,⟨o',b1,_,n',b2⟩,iy⟩:=hq;rw[a1]at b1;cases b1;rw[a2]at b2;cases b2;(have hl:zx.length=zy.length:=by rw[<-ix.length,<-iy.length]);apply qp hl;intro i h1 h2;obtain⟨u,t,f1,f2⟩:=rF.pS ix (i:=i) (by rw[ix.length];exact h1);obtain⟨u',t',f3,f4⟩:=rF.pS iy (i:=i) (by rw[ix.length];exact h1);rw[f1]at f3;cases f3;rw[aa h1]at f2;rw[aa h2]at f4;exact(aZ f2).trans (aZ f4).symm);rw[decide_eq_true this];exact GA _
 exact uv.of_refs e (OK hu hp hq)
end
theorem we:∀{qs:List aH} {ws:List aI},dk (qs.map V.ref) ws->ws=qs.map ci
 |[],ws,h=>by cases h;rfl
 |a::qs,ws,h=>by
  rw[aR]at h;cases h with
   |cons ha ht=>cases ha;rw[we ht,aR]
theorem Ux(ls ms:List (List Int))(h:ls.length=ms.length):(aX ls.length).all (λj=>decide (ls.getD j []=ms.getD j []))=decide (ls=ms):=by
 rw[jH,fu,decide_eq_true_eq];constructor;.intro hh;apply qp h;intro i h1 h2;have:=hh i (cr.mpr h1);simpa[aD,aa h1,aa h2]using this
 rintro rfl x _;simp
def aaA:R2:=λx y H Q=>∃(a b:aH) (ps qs:List aH) (ls ms:List (List Int)),x=.ref a/\y=.ref b/\H a=some (.lst (ps.map V.ref))/\H b=some (.lst (qs.map V.ref))/\ps.length=ls.length/\qs.length=ms.length/\(∀(i:Nat) (p:aH) (l:List Int),ps[i]?=some p->ls[i]?=some l->H p=some (.lst (l.map V.int)))/\(∀(i:Nat) (p:aH) (l:List Int),qs[i]?=some p->ms[i]?=some l->H p=some (.lst (l.map V.int)))/\Q (.bl (decide (ls=ms))) H
theorem SO(hu:X.A.units+1<tW):tQ X (gx .Eq) aaA:=by
 intro au s Z H x y v u Q I rx ry h;obtain⟨a,b,ps,qs,ls,ms,rfl,rfl,ha,hb,hpl,RO,h1,h2,q⟩:=h;cases rx;cases ry;obtain⟨_,ia,na,ra,hla,ea⟩:=I.uZ ha;obtain⟨_,ib,nb,rb,TR,eb⟩:=I.uZ hb;have fin:∀b',b'=decide (ls=ms)->EP X au Z Q (.bool b') s:=λb' e=>⟨.bl b',H,I,rfl,by rw[e];exact q⟩;rw[we ra]at ea;rw[we rb]at eb;by_cases hl:ls.length=ms.length;.refine SeqAt.eq_listAt (items:=(ps.map ci).toArray) (items2:=(qs.map ci).toArray) (e:=λj=>decide (ls.getD j []=ms.getD j [])) ⟨_,ea,rfl,na,rfl⟩ ⟨_,eb,rfl,nb,rfl⟩ (by simp;lia) ⋯ (λj k1 k2=>?_) (fin _ ?_);(·(have j1:j<ps.length:=by simpa using k1);(have j2:j<qs.length:=by simpa using k2);have c1:=h1 j ps[j] (ls[j]'⋯) (aa j1) (aa ⋯);have c2:=h2 j qs[j] (ms[j]'⋯) (aa j2) (aa ⋯);(have e1:(ps.map ci).toArray[j]=.ref ps[j]:=by simp);(have e2:(qs.map ci).toArray[j]=.ref qs[j]:=by simp);rw[e1,e2];(have e3:ls.getD j []=ls[j]'⋯:=by simp[aD,aa (show j<ls.length by lia)]);(have e4:ms.getD j []=ms[j]'⋯:=by simp[aD,aa (show j<ms.length by lia)]);show uv X.A.in1 s _ _ (decide (ls.getD j []=ms.getD j []));rw[e3,e4];exact QK (by show X.A.units+1<_;exact hu) (at_of I c1) (at_of I c2));rw[<-Ux ls ms hl];(have e5:(ps.map ci).toArray.size=ls.length:=by simp;lia);rw[e5]
 refine SeqAt.eq_list_lengthsAt (items:=(ps.map ci).toArray) (items2:=(qs.map ci).toArray) ⟨_,ea,rfl,na,rfl⟩ ⟨_,eb,rfl,nb,rfl⟩ (by simp;lia) ⋯ (fin _ ?_);exact(decide_eq_false λe=>hl (by rw[e])).symm
end Pt
end
namespace Pt
open PySem PySem.Spec PyProof.Rows L2
open Tk (M9 kC iC Dv NH nU ZY gJ qh Af Jg Mo vN Pair Parts ag Pr cp fE ke sV Ek Rf Ae Gr Ac fc Zp wK z8 qJ sw fb vD wF Co mD oR F9 fj vv dot vq Cm A4 gr gQ j5 FT Ch KL KJ cn fh jw Fz yt zE dz BZ Ft BX nQ sL qA zu uX r9 az qS pp rT Dc eh qx fD lm oJ rem E2 rk C8 OI HM w9 J0 JZ run_get lG eS sel wo C5 sgn sG EY jD wk snoc_ind EU ET Bv y4 jW oa yZ bZ bJ kT eR wY bE fC dN aA Br bP lF gn qv fB yd mr sF yQ rQ cQ bH mH gl sE fU EJ uJ zm)
variable {P:cI}{w:eU}{K:ai}{mg:cJ->Option aI}{base:f9}
local macro_rules|`(tactic| ext)=>`(tactic| ((try dsimp only[abt,ahc,L2.start,Hg,oy,gk,AF,eN,aR,cK,kF,gE,a7,cV,fL,Nat.reduceAdd,Nat.reduceSub,dD,Jy]);(try simp only[↓aaE,↓aaR,↓aaF,↓WG,↓WD,↓aaO,↓aaQ,↓WN,↓aeA,↓WM,↓WL,↓aaK,↓Wp,↓Wo,↓aaJ,↓aaI,↓aex,↓q_c,↓aep,↓aek,↓Wq,↓q_b,↓aaM,↓WC,↓aaS,↓aeo,↓aes,↓aaL,↓aaD,↓ael,↓WB,↓ON,↓aeB,↓aaP,↓Wr,↓WE,↓WF,↓WJ,↓WH,↓WK,↓WI,↓aer,↓aet,↓aev,↓aeu,↓aa5,↓aeO,↓p_u,↓aeN,↓aeP,↓aeK,↓W3,↓W0,↓WZ,↓WY,↓aa2,↓aa1,↓aaZ,↓aeI,↓aa6,↓aeQ,↓aa4,↓aa0,↓aeM,↓aeJ,↓aeL,↓aa3,aaC,aeq,aew,aez,aey,aaH,aen,aem,Vh,Vg,WA,Wu,Wy,Wt,Ww,Wv,Ws,aaG,Wz,Wx,aaN,eN,aR,cK,kF,gE,a7,cV,fL,Nat.reduceAdd,Nat.reduceSub,dD,Jy,eI,ji,List.set_cons_zero,List.set_cons_succ,gb,exists_eq_left',exists_eq_left,V.int.injEq,V.ref.injEq,V.bl.injEq,List.cons.injEq,and_true,true_and,exists_and_left,exists_eq_right,exists_eq_right',exists_eq',y9,reduceCtorEq,false_and,and_false,exists_false,or_false,false_or,ab,if_true,d7,if_false,decide_eq_true_eq])))
abbrev Fn(K:ai)(x:cJ)(i:Nat)(f:aH)(fd:fY):Prop:=uF K x x (top i) f fd
theorem eJ{ns:List Int}{i:Nat}(h:i<ns.length):DT (ns.map V.int) (i:Int)=some (.int (ns.getD i 0)):=by apply DR;rw[aE,aa h];simp[aD,aa h]
theorem km(h:ns≠[]):DT (ns.map V.int) (-1)=some (.int (ns.getLast h)):=by
 have e:ns.map V.int=(ns.dropLast).map V.int++[V.int (ns.getLast h)]:=by rw[<-jr,<-aF,jG]
 rw[e];exact Gm _ _
theorem mz(h:k<n):Mh n (k:Int)=some k:=by unfold Mh;rw[aj ⋯,aj ⋯,dM]
theorem wB{ns:List Int}{i:Nat}{x:V}(h:(ns.map V.int)[i]?=some x):∃z,ns[i]?=some z/\x=V.int z:=by
 rw[aE]at h;cases e:ns[i]? with
  |none=>rw[e]at h;cases h
  |some z=>rw[e]at h;exact⟨z,rfl,(aZ h).symm⟩
theorem Hx{α:Type}{l:List α}{x:α}(h:l[i]?=some x):l.take (i+1)=l.take i++[x]:=by obtain⟨hi,rfl⟩:=ax.mp h;rw[aW hi]
noncomputable def oI:Nat->List Int->Nat
 |0,_=>0
 |n+1,l=>if l.getD n 0=0 then oI n l else n+1
theorem EK(l:List Int):∀n,oI n l<=n
 |0=>aw 0
 |n+1=>by unfold oI;split;(·exact Nat.le_succ_of_le (EK l n));exact aw _
theorem Bp(l m:List Int):∀n,n<=l.length->oI n (l++m)=oI n l
 |0,_=>rfl
 |n+1,h=>by(have e:(l++m).getD n 0=l.getD n 0:=by simp only[aD,bA (show n<l.length by lia)]);unfold oI;rw[e,Bp l m n ⋯]
theorem N7(l:List Int):l.take (oI l.length l)=aN l:=by
 refine snoc_ind (P:=λl=>l.take (oI l.length l)=aN l) rfl ?_ l;intro l a ih;rw[sE,bw,ck];have e:(l++[a]).getD l.length 0=a:=by simp[aD]
 unfold oI;rw[e];by_cases h:a=0;.rw[aj h,aj h,Bp l [a] l.length (aw _),x9 (EK l _),ih]
 rw[ah h,ah h,lT (by simp)]
inductive CW (K:ai) (vs:List V) (H:Hp) (Q:VK) (E:XK):Prop|mk (a) (ns) (_:vs=[.ref a]) (_:IL K H a ns) (_:∀H' p,bC H H'->H' p=some (.lst ((aN ns).map V.int))->Q (.ref p) H')
inductive JT (K:ai) (vs:List V) (H:Hp) (Q:VK) (E:XK):Prop|mk (a) (ns) (_:vs=[.ref a]) (_:IL K H a ns) (_:∀H' p,bC H H'->H p=none->H' p=some (.lst ((aN ns).map V.int))->Q (.ref p) H')
theorem Fd(F:Fn K "trimmed" 1 f fd)(T:Bt mg):dm P w K mg base je 1 f fd ["coefficients"] (JT K):=by
 refine lJ ["coefficients","length"] F λH Q E S hr h=>?_;obtain⟨a,ns,rfl,hl,k⟩:=h;refine⟨_,(ak (eT 1 S (pL K T.len (pv 0))) (ak (gp a9 (PW.pt (Db (lI rY (pv 1) aY) (yj (lI iL (rd K (pv 0) (bW f6 (pv 1) aY)) aY)))) (aJ (W5 1 S aY zF))) (aJ (bQ (rW (slL (K:=K)) (pv 0) yn (sJ (pv 1))))))),?_⟩;ext;refine⟨_,hl,?_⟩;rw[ab];refine⟨λN Z H'=>H'=H/\∃n:Nat,Z=[some (.ref a),some (.int n)]/\n<=ns.length/\oI n ns=oI ns.length ns/\n=N,⟨_,rfl,_,rfl,aw _,rfl,rfl⟩,?_⟩;rintro N Z H1 ⟨rfl,n,rfl,hn,ht,rfl⟩;have fin:oI n ns=n->∃x,cu K H1 a x/\∀p,H1 p=none->Q (.ref p) (cE H1 p (.lst (ur x none (some (n:Int))))):=λe=>⟨_,hl,λp hp=>k _ p (aP hp) hp (by rw[am,Cn ns n hn,<-N7,<-ht,e])⟩;ext;refine dA (λAX=>?_) (λafI=>?_);.obtain⟨m,rfl⟩:∃m,n=m+1:=⟨n-1,⋯⟩;have e1:((m+1:Nat):Int)-1=(m:Int):=⋯;rw[e1];refine⟨_,hl,_,eJ ⋯,rfl,?_⟩;refine dA (λhz=>?_) (λhz=>?_);(·refine oQ λN hN=>?_;(have Il:ns.getD m 0=0:=by injection hz);refine hN m _ _ (kI m) ⟨rfl,m,rfl,⋯,?_,rfl⟩;rw[<-ht];(conv=>rhs;unfold oI);rw[aj Il]);apply fin;unfold oI;rw[ah (λe=>hz (by rw[e]))]
 have:n=0:=⋯;subst this;exact fin rfl
theorem SS(F:Fn K "trimmed" 1 f fd)(T:Bt mg):dm P w K mg base je 1 f fd ["coefficients"] (CW K):=(Fd F T).imp λvs H Q E h=>by obtain⟨a,ns,h1,h2,h3⟩:=h;exact⟨a,ns,h1,h2,λH' p s _ hp=>h3 H' p s hp⟩
inductive Va (vs:List V) (H:Hp) (Q:VK) (E:XK):Prop|mk (a b) (_:vs=[.int a,.int b]) (_:∀H',bC H H'->Q (.int (iZ a b)) H')
theorem Xk(F:Fn K "common_divisor" 2 f fd)(T:Bt mg):dm P w K mg base je 1 f fd ["a","b"] Va:=by
 refine lJ ["a","b","greater","lesser","rest"] F λH Q E S hr h=>?_;obtain⟨a,b,rfl,k⟩:=h;refine⟨_,(ak (eT 2 S (jY vF (by rfl) T.abs RA (g7 (pv 0)))) (ak (eT 3 S (jY vF (by rfl) T.abs RA (g7 (pv 1)))) (ak (gp a9 (lI J_ (pv 3) aY) (ak (eT 4 S (bW iK (pv 2) (pv 3))) (ak (eT 2 S (pv 3)) (aJ (eT 3 S (pv 4)))))) (aJ (bQ (pv 2)))))),?_⟩;ext;have Q9:∀z,(if z<0 then-z else z)=(z.natAbs:Int):=λz=>by split<;>lia
 rw[Q9,Q9];refine⟨λN Z H'=>H'=H/\∃(x y:Nat) (v:Option V),Z=[some (.int a),some (.int b),some (.int x),some (.int y),v]/\ot x y=iZ a b/\y=N,⟨_,rfl,_,_,_,rfl,rfl,rfl⟩,?_⟩;rintro N Z H1 ⟨rfl,x,y,v,rfl,hg,rfl⟩;ext;refine dA (λhne=>?_) (λhe=>?_);·(have hy:(y:Int)≠0:=by simpa using hne);refine oQ λN hN=>⟨hy,?_⟩;(have e:(x:Int).fmod (y:Int)=((x%y:Nat):Int):=by rw[dL _ ⋯];rfl);have hlt:x%y<y:=ja _ ⋯;rw[e];refine hN _ _ _ hlt ⟨rfl,y,x%y,_,rfl,?_,rfl⟩;rw[<-hg,wV y,<-Nat.gcd_rec,wV]
 have hy:y=0:=by simpa using he
 subst hy;rw[vS]at hg;rw[hg];exact k H1 (bC.refl _)
inductive C2 (K:ai) (vs:List V) (H:Hp) (Q:VK) (E:XK):Prop|mk (a) (ns) (_:vs=[.ref a]) (_:IL K H a ns) (_:fc ns) (_:ns≠[]) (_:∀H',bC H H'->Q (.int (sgn ns)) H')
theorem Tb(F:Fn K "content" 3 f fd)(T:Bt mg)(wM:ij P w K mg base "common_divisor" 1 Va):dm P w K mg base je 2 f fd ["f"] (C2 K):=by
 refine lJ ["f","greatest","coefficient"] F λH Q E S hr h=>?_;obtain⟨a,ns,rfl,hl,ht,hne,k⟩:=h;refine⟨_,(ak (eT 1 S aY) (ak (gM a9 rfl (Ax (K:=K) (pv 0)) (my 2 S) (aJ (eT 1 S (pU wM hr (io (pv 1) (pv 2)))))) (aJ (bQ (og (lI rX (rd K (pv 0) (ln jc aY)) aY) (ln jc (pv 1)) (pv 1)))))),?_⟩;ext;refine l9 rfl hl (λi Z H'=>bC H H'/\∃v,Z=[some (.ref a),some (.int ((ns.take i).foldl (λg c=>ot g c.natAbs) 0:Nat)),v]) ⟨bC.refl _,_,rfl⟩ (λi Z H' _ h=>h.1.seq hl) ?_ ?_;.rintro i x Z H1 hx ⟨hs,v,rfl⟩ W hW;obtain⟨z,hz,rfl⟩:=wB hx;ext;refine⟨_,_,rfl,λH2 h2=>hW _ _ ⟨hs.trans h2,some (.int z),?_⟩⟩;rw[Hx hz,Nn];rfl
 rintro Z H1 ⟨hs,v,rfl⟩;rw[ab,bR];ext;refine⟨_,hs.seq hl,_,km hne,_,rfl,?_⟩;have GS:sgn ns=if ns.getLast hne<0 then-(aB ns:Int)else(aB ns:Int):=by unfold sgn;rw[gl ht];(have e:bm ns=ns.getLast hne:=by have:=bH.mp ht;rw[dz];unfold ag.aT;rw[this,fb,dH];have:=bL.mpr hne;simp[aD,aa (show ns.length-1<ns.length by lia)]);rw[e]
 have k':=k H1 hs;rw[GS]at k';refine dA (λh=>?_) (λh=>?_);.rwa[aj h]at k'
 rwa[ah h]at k'
inductive CZ (K:ai) (vs:List V) (H:Hp) (Q:VK) (E:XK):Prop|mk (a) (ns) (_:vs=[.ref a]) (_:IL K H a ns) (_:fc ns) (_:ns≠[]) (_:(aB ns).log2<9000) (_:ns.length<bn) (_:∀H' p,bC H H'->H' p=some (.lst ((aV ns).map V.int))->Q (.ref p) H')
theorem SY(F:Fn K "primitive" 4 f fd)(T:Bt mg)(qg:ij P w K mg base "content" 2 (C2 K)):dm P w K mg base je 3 f fd ["f"] (CZ K):=by
 refine lJ ["f","divisor","coefficient"] F λH Q E S hr h=>?_;obtain⟨a,ns,rfl,hl,ht,hne,P7,hlen,k⟩:=h;refine⟨_,(ak (eT 1 S (pU qg hr (g7 (pv 0)))) (aJ (bQ (O5 [("coefficient",2)] S (Ax (K:=K) (pv 0)) (my 2 S) iH (bW uV (pv 2) (pv 1)))))),?_⟩;ext;refine⟨a,ns,rfl,hl,ht,hne,λH1 h1=>?_⟩;have h0:aA ns≠0:=λe=>hne ((bP ht).mp e);obtain⟨c,hc,he,_,_,_,hcs⟩:=eh h0;have GS:sgn ns≠0:=by rw[<-hcs];exact hc
 have habs:=sG ns ht;refine nw rfl (h1.seq hl) (by rw[ab];exact hlen) (L4 λz=>.int (z/sgn ns)) ?_ ?_;.intro z hz H2 Q' h2 k2;obtain⟨z,hz,rfl⟩:=ao.mp hz;(have Il:z∈ns:=by assumption);ext;refine⟨⟨GS,by rw[habs];exact P7⟩,?_⟩;(have tz:sgn ns∣z:=by have:=(gQ (d:=aB ns)).mp (gv _) z Il;exact tJ.mp (by rw[habs];exact this));(have e:z.fdiv (sgn ns)=z/sgn ns:=by obtain⟨q,rfl⟩:=tz;rw[Ed _ GS,Ee _ GS]);rw[e];exact k2 H2 (bC.refl _)
 intro H2 D h2 hD;refine k H2 D (h1.trans h2) ?_;rw[hD,rT,ah GS,gl ht,be,be];rfl
inductive Ow (K:ai) (vs:List V) (H:Hp) (Q:VK) (E:XK):Prop|mk (a) (ns) (_:vs=[.ref a]) (_:IL K H a ns) (_:ns.length<1000) (_:True) (_:∀H' p,bC H H'->H' p=some (.lst (((ns.mapIdx λi c=>(i:Int)*c).drop 1).map V.int))->Q (.ref p) H')
theorem Xo(F:Fn K "derivative" 5 f fd)(T:Bt mg):dm P w K mg base je 1 f fd ["f"] (Ow K):=by
 refine lJ ["f","power","coefficient"] F λH Q E S hr h=>?_;obtain⟨a,ns,rfl,hl,hlen,hb,k⟩:=h;refine⟨_,(aJ (bQ (rW (slL (K:=K)) (O5 [("power",1),("coefficient",2)] S (ny (by rfl) T.enumerate (g7 (pv 0))) (Nz (K:=K) (n:=2) rfl (eu (my 1 S) (eu (my 2 S) kU))) iH (bW ez (pv 1) (pv 2))) (sJ aY) yn))),?_⟩;ext;refine N9 ∅ rfl hl (by rw[ab];exact LO ⋯) (λi=>L4 λz=>.int (i*z)) ?_ ?_;.intro i z hz H2 Q' h2 k2;obtain⟨z,Eg,rfl⟩:=wB hz;ext;refine⟨?_,k2 H2 (bC.refl _)⟩;have hi:=(ax.mp Eg).1;exact GJ.of_left (intBits_le_64 ⋯ ⋯)
 intro H2 D h2 hD;ext;refine⟨_,cu.of hD,λp hp=>k _ p (h2.trans (aP hp)) ?_⟩;rw[am];congr 2;unfold ur;rw[HT.y_,fe,ab];have e1:HT.AQ ns.length 0 (some 1)=min 1 ns.length:=HT.uN ns.length 0 1;have e2:(ns.map V.int).mapIdx (λi=>L4 λz=>V.int ((i:Int)*z))=(ns.mapIdx λi c=>(i:Int)*c).map V.int:=by apply iT;intro i;simp only[Hi,aE];cases ns[i]?<;>rfl
 rw[e1,e2,lT (by simp),CJ];cases ns with
  |nil=>rfl
  |cons x l=>simp
@[irreducible] noncomputable def Bi:Nat:=2^1000000
theorem IZ(h:k<=1000000):2^k<=Bi:=by unfold Bi;exact bg ∅ h
theorem pd(h:k<1000000):2^k<Bi:=by unfold Bi;exact dU ∅ h
def Bd(l:List Int):Prop:=∀x,x∈l->x.natAbs<Bi
theorem K5(h:x.natAbs<2^n):AG x<=n:=by
 unfold AG;split;.exact bX _
 have:x.natAbs.log2<n:=by rcases Nat.eq_zero_or_pos x.natAbs with h0|hp;(·rename_i hne;exfalso;apply hne;simp at h0;simp[h0]);exact(yF (rA hp)).mpr h
 lia
theorem bT(h:n<=2000):n<bn:=bS h ∅
theorem kz(h1:x.natAbs<Bi)(h2:y.natAbs<Bi):GJ x y:=by unfold Bi at h1 h2;exact GJ.of_le (K5 h1) (K5 h2) ∅
inductive CY (K:ai) (vs:List V) (H:Hp) (Q:VK) (E:XK):Prop|mk (a b) (ns ms) (_:vs=[.ref a,.ref b]) (_:IL K H a ns) (_:IL K H b ms) (_:ns.length<=1000) (_:ms.length<=1000) (_:Bd ns) (_:Bd ms) (_:∀H' p (l:List Int),bC H H'->H' p=some (.lst (l.map V.int))->aA l=aA ns*aA ms->l.length=(if ns=[]\/ms=[]then 0 else ns.length+ms.length-1)->Q (.ref p) H')
inductive IvP (a b p:aH) (ns ms:List Int) (i:Nat) (Z:L2.St) (H':Hp):Prop|mk (l:List Int) (v3 v4 v5 v6:Option V) (_:Z=[some (.ref a),some (.ref b),some (.ref p),v3,v4,v5,v6]) (_:H' p=some (.lst (l.map V.int))) (_:l.length=ns.length+ms.length-1) (_:aA l=aA (ns.take i)*aA ms)
inductive IvQ (a b p:aH) (ns ms:List Int) (i:Nat) (x:Int) (j:Nat) (Z:L2.St) (H':Hp):Prop|mk (l:List Int) (v5 v6:Option V) (_:Z=[some (.ref a),some (.ref b),some (.ref p),some (.int (i:Nat)),some (.int x),v5,v6]) (_:H' p=some (.lst (l.map V.int))) (_:l.length=ns.length+ms.length-1) (_:aA l=aA (ns.take i)*aA ms+ag.mono x i*aA (ms.take j))
theorem SX(F:Fn K "product" 6 f fd)(T:Bt mg):dm P w K mg base je 1 f fd ["f","g"] (CY K):=by
 refine lJ ["f","g","total","k","a","j","b"] F λH Q E S hr h=>?_;obtain⟨a,b,ns,ms,rfl,hl,hm,l1,l2,b1,b2,k⟩:=h;refine⟨_,(ak (fO (PW.pt (ze (lI iL (pL K T.len (pv 0)) aY) (zd (lI iL (pL K T.len (pv 1)) aY)))) (aJ (bQ (db lH))) dg) (ak (eT 2 S (bW ez (db (g7 aY)) (bW f6 (bW fq (pL K T.len (pv 0)) (pL K T.len (pv 1))) aY))) (ak (gM a9 rfl (ny (by rfl) T.enumerate (g7 (pv 0))) (Nz (K:=K) (n:=2) rfl (eu (my 3 S) (eu (my 4 S) kU))) (aJ (gM a9 rfl (ny (by rfl) T.enumerate (g7 (pv 1))) (Nz (K:=K) (n:=2) rfl (eu (my 5 S) (eu (my 6 S) kU))) (aJ (uP (pv 2) (bW fq (pv 3) (pv 5)) (getL (K:=K)) (bW ez (pv 4) (pv 6)) nc set_list))))) (aJ (bQ (pv 2)))))),?_⟩;ext;have kn:(ns=[]\/ms=[])->(0<=bn/\∀p,H p=none->Q (.ref p) (cE H p (.lst []))):=λe=>⟨bX _,λp hp=>k _ p [] (aP hp) am (by rcases e with rfl|rfl;(·rw[fB];grind);rw[fB];grind) (by rw[aj e];rfl)⟩;refine⟨_,hl,dA (λh0=>kn (.inl ?_)) (λh0=>⟨_,hm,dA (λh1=>kn (.inr ?_)) (λh1=>?_)⟩)⟩;.rw[ab]at h0;exact b5 ⋯
 .rw[ab]at h1;exact b5 ⋯
 rw[ab]at h0 h1;refine⟨∅,λp0 kd=>?_⟩;have s0:=aP (o:=HO.lst [V.int 0]) kd;refine⟨_,s0.seq hl,_,s0.seq hm,_,am,?_⟩;simp only[ab,ck,kt];have hn:((ns.length:Int)+(ms.length:Int)-1).toNat=ns.length+ms.length-1:=⋯;refine⟨⋯,⋯,by rw[hn];exact bV (bT ⋯),λp hp=>?_⟩;have X7:=s0.free hp;have s1:bC H (cE (cE H p0 (.lst [.int 0])) p (.lst ((aQ (ns.length+ms.length-1) (0:Int)).map V.int))):=s0.trans (aP hp);have e0:(aQ ((ns.length:Int)+(ms.length:Int)-1).toNat [V.int 0]).flatten=(aQ (ns.length+ms.length-1) (0:Int)).map V.int:=by
  rw[hn,Lm];induction (ns.length+ms.length-1)with
   |zero=>rfl
   |succ n ih=>rw[dD,eY,ih,dD];rfl
 rw[e0];refine k7 rfl (s1.seq hl) (λi Z H'=>bC H H'/\IvP a b p ns ms i Z H') ⟨s1,_,_,_,_,_,rfl,am,by simp,?_⟩ (λi Z H' _ h=>h.1.seq hl) ?_ ?_;.rw[mr,fI,fB];grind
 .rintro i x Z H1 U hx ⟨hs,l,v3,v4,v5,v6,rfl,rD,hlen,hP⟩ hU W hW;obtain⟨x,XQ,rfl⟩:=wB hx;have hi:=(ax.mp XQ).1;have s2:=aP (o:=HO.tup [V.int (i:Nat),V.int x]) hU;refine⟨U,_,rfl,.inl (.inl am),rfl,_,_,rfl,_,_,rfl,rfl,?_⟩;ext;refine k7 rfl ((hs.trans s2).seq hm) (λj Z H'=>bC H H'/\IvQ a b p ns ms i x j Z H') ⟨hs.trans s2,l,_,_,rfl,s2 _ _ rD,hlen,?_⟩ (λi Z H' _ h=>h.1.seq hm) ?_ ?_;(·rw[hP,fI,fB];grind);(·rintro j y Z H2 U2 hy ⟨hs2,l2,v5,v6,rfl,hp2,mJ,GX⟩ hU2 W2 hW2;obtain⟨y,vV,rfl⟩:=wB hy;have hj:=(ax.mp vV).1;have s3:=aP (o:=HO.tup [V.int (j:Nat),V.int y]) hU2;refine⟨U2,_,rfl,.inl (.inl am),rfl,_,_,rfl,_,_,rfl,rfl,?_⟩;ext;have eij:((i:Nat):Int)+((j:Nat):Int)=((i+j:Nat):Int):=⋯;have hlt:i+j<l2.length:=⋯;rw[eij];refine⟨_,cu.of (s3 _ _ hp2),_,eJ hlt,kz (b1 x (a_ XQ)) (b2 y (a_ vV)),_,rfl,_,s3 _ _ hp2,_,mz (by rw[ab];exact hlt),hW2 _ _ ⟨dn (hs2.trans s3) X7,l2.set (i+j) (l2.getD (i+j) 0+x*y),_,_,rfl,?_,by rw[ee];exact mJ,EJ vV hlt GX⟩⟩;rw[am,iS]);rintro Z H2 ⟨hs2,l2,v5,v6,rfl,hp2,mJ,GX⟩;refine hW _ _ ⟨hs2,l2,_,_,_,_,rfl,hp2,mJ,?_⟩;rw[ab,bR]at GX;rw[GX,rQ XQ];grind
 rintro Z H1 ⟨hs,l,v3,v4,v5,v6,rfl,rD,hlen,hP⟩;rw[ab,bR]at hP;ext;exact k H1 p l hs rD hP (by rw[ah (by rintro(e|e)<;>simp[e]at h0 h1),hlen])
abbrev TL(H:Hp)(a:aH)(ns:List Int):Prop:=H a=some (.lst (ns.map V.int))
theorem rep0(n:Nat):(aQ n [V.int 0]).flatten=(aQ n (0:Int)).map V.int:=by
 rw[Lm];induction n with
  |zero=>rfl
  |succ n ih=>rw[dD,eY,ih,dD];rfl
theorem JK(l:List Int)(n:Nat):aA (l++aQ n 0)=aA l:=by
 induction n with
  |zero=>simp
  |succ n ih=>rw[List.replicate_succ',<-iU,yQ,ih,zu];grind
inductive y6 (K:ai) (vs:List V) (H:Hp) (Q:VK) (E:XK):Prop|mk (a:aH) (ns:List Int) (m:Nat) (_:vs=[.ref a,.int m]) (_:IL K H a ns) (_:0<m) (_:ns.length<=2000) (_:∀H' p,bC H H'->H' p=some (.lst ((aN (ns.map λx=>x%(m:Int))).map V.int))->Q (.ref p) H')
theorem Xc(F:Fn K "reduced" 14 f fd)(T:Bt mg)(mn:ij P w K mg base "trimmed" 1 (CW K)):dm P w K mg base je 2 f fd ["f","modulus"] (y6 K):=by
 refine lJ ["f","modulus","coefficient"] F λH Q E S hr h=>?_;obtain⟨a,ns,m,rfl,hl,hm,hlen,k⟩:=h;refine⟨_,(aJ (bQ (pU mn hr (g7 (O5 [("coefficient",2)] S (Ax (K:=K) (pv 0)) (my 2 S) iH (bW iK (pv 2) (pv 1))))))),?_⟩;ext;refine nw rfl hl (by rw[ab];exact bT hlen) (L4 λz=>.int (z%(m:Int))) ?_ ?_;.intro z hz H2 Q' h2 k2;obtain⟨z,hz,rfl⟩:=ao.mp hz;ext;refine⟨⋯,?_⟩;rw[dL _ ⋯];exact k2 H2 (bC.refl _)
 intro H2 D h2 hD;refine⟨D,ns.map λx=>x%(m:Int),rfl,cu.of ?_,λH3 p h3 hp=>k H3 p (h2.trans h3) hp⟩;rw[hD,be,be];rfl
inductive HF (K:ai) (vs:List V) (H:Hp) (Q:VK) (E:XK):Prop|mk (a:aH) (ns:List Int) (z:Int) (m:Nat) (_:vs=[.ref a,.int z,.int m]) (_:IL K H a ns) (_:0<m) (_:ns.length<=2000) (_:Bd ns) (_:z.natAbs<Bi) (_:∀H' p,bC H H'->H' p=some (.lst ((aN (ns.map λx=>(z*x)%(m:Int))).map V.int))->Q (.ref p) H')
theorem SU(F:Fn K "scaled" 15 f fd)(T:Bt mg)(iB:ij P w K mg base "reduced" 2 (y6 K)):dm P w K mg base je 3 f fd ["f","number","modulus"] (HF K):=by
 refine lJ ["f","number","modulus","coefficient"] F λH Q E S hr h=>?_;obtain⟨a,ns,z,m,rfl,hl,hm,hlen,hb,hz,k⟩:=h;refine⟨_,(aJ (bQ (pU iB hr (io (O5 [("coefficient",3)] S (Ax (K:=K) (pv 0)) (my 3 S) iH (bW ez (pv 1) (pv 3))) (pv 2))))),?_⟩;ext;refine nw rfl hl (by rw[ab];exact bT hlen) (L4 λy=>.int (z*y)) ?_ ?_;.intro y hy H2 Q' h2 k2;obtain⟨y,hy,rfl⟩:=ao.mp hy;ext;exact⟨kz hz (hb y (by assumption)),k2 H2 (bC.refl _)⟩
 intro H2 D h2 hD;refine⟨D,ns.map λx=>z*x,m,rfl,cu.of ?_,hm,by rw[ab];exact hlen,λH3 p h3 hp=>k H3 p (h2.trans h3) ?_⟩;.rw[hD,be,be];rfl
 rw[hp,be];rfl
inductive OB (K:ai) (vs:List V) (H:Hp) (Q:VK) (E:XK):Prop|mk (a b:aH) (ns ms:List Int) (m:Nat) (_:vs=[.ref a,.ref b,.int m]) (_:TL H a ns) (_:IL K H b ms) (_:0<m) (_:ns.length<=1000) (_:ms.length<=1000) (_:∀H' p l,bC H H'->TL H' p l->ke m l->(aA l).map (Tk.red m)=(aA ns+aA ms).map (Tk.red m)->l.length<=max ns.length ms.length->Q (.ref p) H')
theorem iD(l:List Int):(aN l).length<=l.length:=by rw[mH];exact ag.dS (gn l)
theorem YV{x y:Nat}{d:Int}(hd:(if(0:Int)>(x:Int)-(y:Int)then 0 else(x:Int)-(y:Int))=d)(hx:x<=1000):d.toNat=x-y/\-(2^63)<=d/\d<2^63/\x-y<=bn:=by
 have h:x-y<=bn:=br (Nat.sub_le _ _) (bV (bT (br hx ∅)));rw[<-hd];by_cases c:x<y;.rw[aj ⋯];exact⟨(Nat.sub_eq_zero_of_le (bV c)).symm,∅,by decide,h⟩
 rw[ah ⋯,<-Int.ofNat_sub (mU c)];exact⟨rfl,⋯,⋯,h⟩
inductive IvA (a b p:aH) (ns ms:List Int) (m:Nat) (i:Nat) (Z:L2.St) (H':Hp):Prop|mk (l:List Int) (v4 v5:Option V) (_:Z=[some (.ref a),some (.ref b),some (.int m),some (.ref p),v4,v5]) (_:TL H' p l) (_:l.length=max ns.length ms.length) (_:aA l=aA ns+aA (ms.take i))
theorem Xs(F:Fn K "added" 16 f fd)(T:Bt mg)(iB:ij P w K mg base "reduced" 2 (y6 K)):dm P w K mg base je 3 f fd ["f","g","modulus"] (OB K):=by
 refine lJ ["f","g","modulus","total","k","coefficient"] F λH Q E S hr h=>?_;obtain⟨a,b,ns,ms,m,rfl,hl,hq,hm,l1,l2,k⟩:=h;refine⟨_,(ak (eT 3 S (bW fq (pv 0) (bW ez (db (g7 aY)) (jY (sT rfl) (by rfl) T.max Rz (io (bW f6 (pL K T.len (pv 1)) (pL K T.len (pv 0))) aY))))) (ak (gM a9 rfl (ny (by rfl) T.enumerate (g7 (pv 1))) (Nz (K:=K) (n:=2) rfl (eu (my 4 S) (eu (my 5 S) kU))) (aJ (uP (pv 3) (pv 4) (getL (K:=K)) (pv 5) nc set_list))) (aJ (bQ (pU iB hr (io (pv 3) (pv 2))))))),?_⟩;ext;refine⟨∅,λp0 kd=>?_⟩;have s0:=aP (o:=HO.lst [V.int 0]) kd;refine⟨_,s0.seq hq,_,s0.seq (cu.of hl),_,_,⟨rfl,rfl⟩,_,am,?_⟩;simp only[ab,ck,kt];generalize hd:(if(0:Int)>(ms.length:Int)-(ns.length:Int)then 0 else(ms.length:Int)-(ns.length:Int))=d;have hd2:=YV hd l2;clear hd;refine⟨hd2.2.1,hd2.2.2.1,by rw[hd2.1];exact hd2.2.2.2,λp1 rD=>?_⟩;rw[rep0,hd2.1];have s1:=s0.trans (aP (o:=HO.lst ((aQ (ms.length-ns.length) (0:Int)).map V.int)) rD);refine⟨_,s1 _ _ hl,_,am,?_,λp hp=>?_⟩;.simp only[ab,fZ];exact bV (bT ⋯)
 have X7:H p=none:=s1.free hp;have s2:=s1.trans (aP (o:=HO.lst (ns.map V.int++(aQ (ms.length-ns.length) (0:Int)).map V.int)) hp);have Vy:(ns++aQ (ms.length-ns.length) (0:Int)).length=max ns.length ms.length:=by rw[bw,fZ,jB,Nat.sub_add_eq_max,Nat.max_comm]
 clear hd2;refine k7 rfl (s2.seq hq) (λi Z H'=>bC H H'/\IvA a b p ns ms m i Z H') ⟨s2,ns++aQ (ms.length-ns.length) 0,_,_,rfl,by rw[TL,am,aF],Vy,?_⟩ (λi Z H' _ h=>h.1.seq hq) ?_ ?_;.rw[JK,fI,fB];grind
 .rintro i x Z H1 U hx ⟨hs,l,v4,v5,rfl,rD,hlen,hP⟩ hU W hW;obtain⟨x,XQ,rfl⟩:=wB hx;have hi:=(ax.mp XQ).1;have s3:=aP (o:=HO.tup [V.int (i:Nat),V.int x]) hU;refine⟨U,_,rfl,.inl (.inl am),rfl,_,_,rfl,_,_,rfl,rfl,?_⟩;ext;(have hlt:i<l.length:=by rw[hlen];exact bh hi (Nat.le_max_right _ _));refine⟨_,cu.of (s3 _ _ rD),_,eJ hlt,_,rfl,_,s3 _ _ rD,_,mz (by rw[ab];exact hlt),hW _ _ ⟨dn (hs.trans s3) X7,l.set i (l.getD i 0+x),_,_,rfl,?_,by rw[ee];exact hlen,?_⟩⟩;(·rw[TL,am,iS]);rw[sF _ hlt,hP,rQ XQ];have e:l.getD i 0+x-l.getD i 0=x:=⋯;rw[e];grind
 rintro Z H1 ⟨hs,l,v4,v5,rfl,rD,hlen,hP⟩;rw[ab,bR]at hP;ext;refine⟨p,l,m,rfl,cu.of rD,hm,by rw[hlen];exact Nat.max_le.mpr ⟨⋯,⋯⟩,λH2 q h2 xJ=>?_⟩;obtain⟨r1,r2⟩:=oJ hm l;refine k H2 q _ (hs.trans h2) xJ r1 (by rw[r2,hP]) ?_;refine br (iD _) ?_;rw[ab,hlen];exact aw _
inductive C1 (K:ai) (vs:List V) (H:Hp) (Q:VK) (E:XK):Prop|mk (a b:aH) (ns ms:List Int) (m:Nat) (_:vs=[.ref a,.ref b,.int m]) (_:TL H a ns) (_:IL K H b ms) (_:0<m) (_:ns.length<=1000) (_:ms.length<=1000) (_:∀H' p l,bC H H'->TL H' p l->ke m l->(aA l).map (Tk.red m)=(aA ns-aA ms).map (Tk.red m)->l.length<=max ns.length ms.length->Q (.ref p) H')
theorem Ta(F:Fn K "difference" 17 f fd)(T:Bt mg)(DX:ij P w K mg base "added" 3 (OB K)):dm P w K mg base je 4 f fd ["f","g","modulus"] (C1 K):=by
 refine lJ ["f","g","modulus","coefficient"] F λH Q E S hr h=>?_;obtain⟨a,b,ns,ms,m,rfl,hl,hq,hm,l1,l2,k⟩:=h;refine⟨_,(aJ (bQ (pU DX hr (cf (pv 0) (io (O5 [("coefficient",3)] S (Ax (K:=K) (pv 1)) (my 3 S) iH (ln jc (pv 3))) (pv 2)))))),?_⟩;ext;refine nw rfl hq (by rw[ab];exact bT ⋯) (L4 λy=>.int (-y)) ?_ ?_;.intro y hy H2 Q' h2 k2;obtain⟨y,hy,rfl⟩:=ao.mp hy;ext;exact k2 H2 (bC.refl _)
 intro H2 D h2 hD;refine⟨a,D,ns,ms.map λx=>-x,m,rfl,h2 _ _ hl,cu.of ?_,hm,l1,by rw[ab];exact l2,λH3 p l h3 hp PZ he hle=>k H3 p l (h2.trans h3) hp PZ ?_ (by rwa[ab]at hle)⟩;.rw[hD,be,be];rfl
 rw[he];congr 1;have e:aA (ms.map λx=>-x)=-aA ms:=ag.ext λi=>by rw[qv _ _ (by simp),ag.tP]
 rw[e];grind
structure Dvd(m:Nat)(ns ms q r:List Int):Prop where
 rq:ke m q
 rr:ke m r
 lt:r.length<=ms.length-1
 ql:q.length<=ns.length-(ms.length-1)
 eq:(aA ns).map (Tk.red m)=(aA ms*aA q+aA r).map (Tk.red m)
inductive ES (K:ai) (vs:List V) (H:Hp) (Q:VK) (E:XK):Prop|mk (a b:aH) (ns ms:List Int) (m:Nat) (_:vs=[.ref a,.ref b,.int m]) (_:IL K H a ns) (_:IL K H b ms) (_:2<=m) (_:m<Bi) (_:ns.length<=1000) (_:ms.length<=1000) (_:Bd ms) (_:1<=ms.length) (_:ms.getD (ms.length-1) 0=1) (_:∀H' p p1 p2 q r,bC H H'->H' p=some (.tup [.ref p1,.ref p2])->TL H' p1 q->TL H' p2 r->Dvd m ns ms q r->Q (.ref p) H')
inductive IvD (a b l p1:aH) (ns ms:List Int) (m tp n:Nat) (i:Nat) (Z:L2.St) (H':Hp):Prop|mk (r fo:List Int) (v6 v7 v8 v9:Option V) (_:Z=[some (.ref a),some (.ref b),some (.int m),some (.ref l),some (.int tp),some (.ref p1),v6,v7,v8,v9]) (_:TL H' l r) (_:TL H' p1 fo) (_:r.length=ns.length) (_:fo.length=n) (_:aA r=aA ns-aA ms*aA fo) (_:∀x,x∈fo->0<=x/\x<m) (_:∀t,n-i+tp<=t->(m:Int)∣(aA r).c t) (_:(∀t,t<n-i->fo.getD t 0=0))
inductive IvE (a b l p1:aH) (ns ms r fo:List Int) (m tp sh:Nat) (c:Int) (j:Nat) (Z:L2.St) (H':Hp):Prop|mk (r':List Int) (v8 v9:Option V) (_:Z=[some (.ref a),some (.ref b),some (.int m),some (.ref l),some (.int tp),some (.ref p1),some (.int sh),some (.int c),v8,v9]) (_:TL H' l r') (_:TL H' p1 (fo.set sh c)) (_:r'.length=ns.length) (_:aA r'=aA r-ag.mono c sh*aA (ms.take j))
theorem Xn(F:Fn K "divided" 18 f fd)(T:Bt mg)(mn:ij P w K mg base "trimmed" 1 (CW K))(iB:ij P w K mg base "reduced" 2 (y6 K)):dm P w K mg base je 3 f fd ["f","g","modulus"] (ES K):=by
 refine lJ ["f","g","modulus","rest","top","found","shift","factor","k","coefficient"] F λH Q E S hr h=>?_;obtain⟨a,b,ns,ms,m,rfl,hl,hq,hm,hmb,l1,l2,hb,AX,hone,k⟩:=h;refine⟨_,(ak (eT 3 S (wt vE (by rfl) T.list kK (g7 (pv 0)))) (ak (eT 4 S (bW f6 (pL K T.len (pv 1)) aY)) (ak (eT 5 S (bW ez (db (g7 aY)) (jY (sT rfl) (by rfl) T.max Rz (io (bW f6 (pL K T.len (pv 0)) (pv 4)) aY)))) (ak (gM a9 rfl (BN (by rfl) T.range (cf (bW f6 (pL K T.len (pv 5)) aY) (io (ln jc aY) (ln jc aY)))) (my 6 S) (ak (eT 7 S (bW iK (rd K (pv 3) (bW fq (pv 6) (pv 4))) (pv 2))) (ak (zh (pv 7) (zj (pv 5) (pv 6) set_list)) (aJ (gM a9 rfl (ny (by rfl) T.enumerate (g7 (pv 1))) (Nz (K:=K) (n:=2) rfl (eu (my 8 S) (eu (my 9 S) kU))) (aJ (uP (pv 3) (bW fq (pv 6) (pv 8)) (getL (K:=K)) (bW ez (pv 7) (pv 9)) zF set_list))))))) (aJ (bQ (zk (io (pU mn hr (g7 (pv 5))) (pU iB hr (io (pv 3) (pv 2))))))))))),?_⟩;ext;refine⟨_,.inl hl,λl hlf=>?_⟩;have s0:=aP (o:=HO.lst (ns.map V.int)) hlf;refine⟨_,s0.seq hq,∅,λp0 kd=>?_⟩;have s1:=s0.trans (aP (o:=HO.lst [V.int 0]) kd);refine⟨_,s1.seq hl,_,_,⟨rfl,rfl⟩,_,am,?_⟩;simp only[ab,ck,kt];have htop:(ms.length:Int)-1=((ms.length-1:Nat):Int):=⋯;rw[htop];generalize htp:ms.length-1=tp at*;generalize hd:(if(0:Int)>(ns.length:Int)-(tp:Int)then 0 else(ns.length:Int)-(tp:Int))=d;have hd2:=YV hd l1;clear hd;refine⟨hd2.2.1,hd2.2.2.1,by rw[hd2.1];exact hd2.2.2.2,λp1 rD=>?_⟩;rw[rep0,hd2.1];generalize hn:ns.length-tp=n at*;have hl1:l≠p1:=by rintro rfl;(have e:(cE (cE H l (HO.lst (ns.map V.int))) p0 (HO.lst [V.int 0])) l=some (HO.lst (ns.map V.int)):=by rw[aM (bB (show(cE H l (HO.lst (ns.map V.int))) l=some _ from am) kd)];exact am);rw[e]at rD;cases rD
 have hlH:H l=none:=hlf;have X7:H p1=none:=s1.free rD;have s2:=s1.trans (aP (o:=HO.lst ((aQ n (0:Int)).map V.int)) rD);have hTl:TL (cE (cE (cE H l (HO.lst (ns.map V.int))) p0 (HO.lst [V.int 0])) p1 (HO.lst ((aQ n (0:Int)).map V.int))) l ns:=by rw[TL,aM hl1,aM (bB (show(cE H l (HO.lst (ns.map V.int))) l=some _ from am) kd)];exact am
 refine yV (n:=n) (H1:=cE (cE (cE H l (HO.lst (ns.map V.int))) p0 (HO.lst [V.int 0])) p1 (HO.lst ((aQ n (0:Int)).map V.int))) ?_ ⋯ (λi Z H'=>bC H H'/\IvD a b l p1 ns ms m tp n i Z H') ⟨s2,ns,aQ n 0,_,_,_,_,rfl,hTl,am,rfl,by simp,?_,?_,?_,?_⟩ ?_ ?_;.intro R hR;ext;refine⟨_,cu.of am,?_⟩;simp only[ab,fZ];exact hR
 .rw[mr];grind
 .intro x hx;have:=(Lk.mp hx).2;lia
 .intro t ht;rw[gn ns t ⋯];exact wX _
 .intro t _;simp only[aD,gz];split<;>rfl
 .rintro i Z H1 hi ⟨hs,r,fo,v6,v7,v8,v9,rfl,ve,hf1,hrl,hfl,hP,X2,tz,hz⟩ W hW;ext;generalize hsh:n-1-i=sh at*;have hni:sh+i+1=n:=⋯;have TN:n+tp=ns.length:=⋯;clear hsh hn htp hd2;have i5:((sh:Nat):Int)+((tp:Nat):Int)=((sh+tp:Nat):Int):=⋯;have hlt:sh+tp<r.length:=⋯;rw[i5];refine⟨_,cu.of ve,_,eJ hlt,_,rfl,⋯,_,hf1,sh,mz (by rw[ab];lia),?_⟩;rw[dL _ ⋯];generalize hc:r.getD (sh+tp) 0%(m:Int)=c;(have xk:0<=c:=by rw[<-hc];exact dr _ ⋯);(have Mw:c<m:=by rw[<-hc];exact cW _ ⋯);(have ZI:c.natAbs<Bi:=by have:c.natAbs<m:=⋯;exact bU this hmb);have FH:bC H (cE H1 p1 (HO.lst ((fo.map V.int).set sh (V.int c)))):=dn hs X7;(have PZ:TL (cE H1 p1 (HO.lst ((fo.map V.int).set sh (V.int c)))) l r:=by rw[TL,aM hl1];exact ve);(have Qg:TL (cE H1 p1 (HO.lst ((fo.map V.int).set sh (V.int c)))) p1 (fo.set sh c):=by rw[TL,am,iS]);refine k7 rfl (FH.seq hq) (λj Z H'=>bC H H'/\IvE a b l p1 ns ms r fo m tp sh c j Z H') ⟨FH,r,_,_,rfl,PZ,Qg,hrl,?_⟩ (λi Z H' _ h=>h.1.seq hq) ?_ ?_;(·rw[fI,fB];grind);(·rintro j y Z H2 U hy ⟨hs2,r2,v8,v9,rfl,hp2,Yn,mJ,GX⟩ hU W2 hW2;obtain⟨y,vV,rfl⟩:=wB hy;have hj:=(ax.mp vV).1;have s3:=aP (o:=HO.tup [V.int (j:Nat),V.int y]) hU;refine⟨U,_,rfl,.inl (.inl am),rfl,_,_,rfl,_,_,rfl,rfl,?_⟩;ext;have Zu:((sh:Nat):Int)+((j:Nat):Int)=((sh+j:Nat):Int):=⋯;have um:sh+j<r2.length:=⋯;rw[Zu];refine⟨_,cu.of (s3 _ _ hp2),_,eJ um,kz ZI (hb y (a_ vV)),_,rfl,_,s3 _ _ hp2,_,mz (by rw[ab];exact um),hW2 _ _ ⟨dn (hs2.trans s3) hlH,r2.set (sh+j) (r2.getD (sh+j) 0-c*y),_,_,rfl,?_,?_,by rw[ee];exact mJ,uJ vV um GX⟩⟩;(·rw[TL,am,iS]);rw[TL,aM hl1.symm];exact s3 _ _ Yn);rintro Z H2 ⟨hs2,r2,v8,v9,rfl,hp2,Yn,mJ,GX⟩;rw[ab,bR]at GX;have hfz:fo.getD sh 0=0:=hz sh ⋯;refine hW _ _ ⟨hs2,r2,fo.set sh c,_,_,_,_,rfl,hp2,Yn,mJ,by rw[ee];exact hfl,?_,?_,?_,?_⟩;(·rw[GX,hP,sF _ ⋯,hfz];have e:c-0=c:=⋯;rw[e];grind);(·intro x hx;rcases fX hx with h|h;(·exact X2 x h);rw[h];exact⟨xk,Mw⟩);(·intro t ht;obtain⟨u,rfl⟩:∃u,t=sh+u:=⟨t-sh,⋯⟩;rw[GX,ag.i8,qA];by_cases hu:tp=u;(·subst hu;have e1:(aA r).c (sh+tp)=r.getD (sh+tp) 0:=rfl;have e2:(aA ms).c tp=1:=hone;rw[e1,e2,JC,<-hc];exact Int.dvd_self_sub_emod);rw[gn ms u ⋯,GP,Int.sub_zero];exact tz _ ⋯);intro t ht;rw[jw _ _ _ _ ⋯,ah ⋯];exact hz t ⋯
 rintro Z H1 ⟨hs,r,fo,v6,v7,v8,v9,rfl,ve,hf1,hrl,hfl,hP,X2,tz,hz⟩;ext;refine⟨p1,fo,rfl,cu.of hf1,λH2 q1 h2 hq1=>?_⟩;refine⟨l,r,m,rfl,cu.of (h2 _ _ ve),⋯,⋯,λH3 q2 h3 xJ=>?_⟩;refine⟨by show 2<=bn;decide,λq Kv=>?_⟩;have s4:=aP (o:=HO.tup [V.ref q1,V.ref q2]) Kv;obtain⟨r1,r2⟩:=oJ (m:=m) ⋯ r;refine k _ q q1 q2 (aN fo) _ ((hs.trans h2).trans (h3.trans s4)) am (s4 _ _ (h3 _ _ hq1)) (s4 _ _ xJ) ⟨⟨?_,fU _⟩,r1,?_,?_,?_⟩;.intro x hx;apply X2;unfold aN at hx;rw[jh]at hx;exact jh.mp ((Ex _).subset hx)
 .rw[htp];apply BZ r1.yb;intro t ht;rw[cQ,qv _ _ (by simp)];exact qQ (tz t ⋯)
 .refine br (iD _) (by rw[htp];lia)
 rw[cQ,ag.gN,r2,hP,<-ag.gN];congr 1;grind
theorem qK{x y:V}:DT [x,y] 1=some y:=rfl
theorem qa{x y:V}:DT [x,y] 0=some x:=rfl
inductive wj (K:ai) (vs:List V) (H:Hp) (Q:VK) (E:XK):Prop|mk (a b:aH) (ns ms:List Int) (m:Nat) (_:vs=[.ref a,.ref b,.int m]) (_:IL K H a ns) (_:IL K H b ms) (_:2<=m) (_:m<Bi) (_:ns.length<=1000) (_:ms.length<=1000) (_:Bd ms) (_:Mo ms) (_:∀H' p r,bC H H'->TL H' p r->sV m (aA ns) ms r->Q (.ref p) H')
theorem SW(F:Fn K "rest_by" 19 f fd)(T:Bt mg)(ko:ij P w K mg base "divided" 3 (ES K)):dm P w K mg base je 4 f fd ["f","g","modulus"] (wj K):=by refine lJ ["f","g","modulus"] F λH Q E S hr h=>?_;obtain⟨a,b,ns,ms,m,rfl,hl,hq,hm,hmb,l1,l2,hb,vW,k⟩:=h;refine⟨_,(aJ (bQ (LZ K (pU ko hr (cf (pv 0) (io (pv 1) (pv 2)))) aY))),?_⟩;ext;refine⟨a,b,ns,ms,m,rfl,hl,hq,hm,hmb,l1,l2,hb,vW.1,vW.2,λH' p p1 p2 q r hs hp h1 h2 hd=>?_⟩;refine⟨_,rfl,_,.inl (.inl hp),_,qK,?_⟩;exact k H' p2 r hs h2 ⟨hd.rr,hd.lt,aA q,hd.eq⟩
inductive ud (K:ai) (vs:List V) (H:Hp) (Q:VK) (E:XK):Prop|mk (a a' b:aH) (ns hs ms:List Int) (m:Nat) (_:vs=[.ref a,.ref a',.ref b,.int m]) (_:IL K H a ns) (_:IL K H a' hs) (_:IL K H b ms) (_:2<=m) (_:m<Bi) (_:ns.length<=500) (_:hs.length<=500) (_:ms.length<=1000) (_:Bd ns) (_:Bd hs) (_:Bd ms) (_:Mo ms) (_:∀H' p r,bC H H'->TL H' p r->sV m (aA ns*aA hs) ms r->Q (.ref p) H')
theorem Pa(F:Fn K "product_rest" 20 f fd)(T:Bt mg)(jF:ij P w K mg base "rest_by" 4 (wj K))(qe:ij P w K mg base "product" 1 (CY K)):dm P w K mg base je 5 f fd ["f","h","g","modulus"] (ud K):=by refine lJ ["f","h","g","modulus"] F λH Q E S hr h=>?_;obtain⟨a,a',b,ns,hs,ms,m,rfl,hl,GU,hq,hm,hmb,l1,l1',l2,b1,b1',hb,vW,k⟩:=h;refine⟨_,(aJ (bQ (pU jF hr (cf (pU qe hr (io (pv 0) (pv 1))) (io (pv 2) (pv 3)))))),?_⟩;ext;refine⟨a,a',ns,hs,rfl,hl,GU,⋯,⋯,b1,b1',λH1 p l s1 hp hP hlen=>?_⟩;refine⟨p,b,l,ms,m,rfl,cu.of hp,s1.seq hq,hm,hmb,?_,l2,hb,vW,λH2 p2 r s2 hp2 hR=>k H2 p2 r (s1.trans s2) hp2 (by rw[<-hP];exact hR)⟩;rw[hlen];split<;>lia
inductive C0 (vs:List V) (H:Hp) (Q:VK) (E:XK):Prop|mk (z:Int) (m:Nat) (_:vs=[.int z,.int m]) (_:2<=m) (_:m<2^8000) (_:iZ z m=1) (_:∀H' (x:Int),bC H H'->0<=x->x<m->(m:Int)∣(z*x-1)->Q (.int x) H')
theorem Ce(a b:Int):iZ (a%b) b=iZ a b:=by
 have e:=eD a b;apply RD;.apply qi.mp;apply Sa;(·have h1:=mY (a%b) b;have h2:=iY (a%b) b;have h3:((iZ (a%b) b:Nat):Int)∣b*(a/b)+a%b:=yJ (EB h2) h1;rwa[e]at h3);exact iY (a%b) b
 apply qi.mp;apply Sa;.have h1:=mY a b;have h2:=iY a b;have e2:a%b=a-b*(a/b):=⋯;rw[e2];exact JD h1 (EB h2)
 exact iY a b
theorem QJ(hb:0<b)(ha:0<=a)(hs:af*bf<=0)(h:(af.natAbs:Int)*b+(bf.natAbs:Int)*a=m):
    let q:=a/b
    bf*(af-q*bf)<=0/\(bf.natAbs:Int)*(a-q*b)+((af-q*bf).natAbs:Int)*b=m:=by
  intro q
  have hq:0<=q:=R_ ha ⋯
  have tq:0<=bf*bf:=jW bf
  have TJ:0<=q*(bf*bf):=eO hq tq
  constructor
  . have:bf*(af-q*bf)=af*bf-q*(bf*bf):=by grind
    lia
  . have e:((af-q*bf).natAbs:Int)=(af.natAbs:Int)+q*(bf.natAbs:Int):=by
      rcases Int.lt_trichotomy bf 0 with Qk|Qk|Qk
      . have haf:0<=af:=by
          apply ae
          intro hn
          have:0<af*bf:=Int.mul_pos_of_neg_of_neg ⋯ Qk
          lia
        have h1:(bf.natAbs:Int)=-bf:=⋯
        have h2:0<=q*-bf:=eO hq ⋯
        have h3:q*-bf=-(q*bf):=by grind
        rw[h1,h3]
        lia
      . subst Qk
        simp
      . have haf:af<=0:=by
          apply ae
          intro hn
          have:0<af*bf:=ku ⋯ Qk
          lia
        have h1:(bf.natAbs:Int)=bf:=⋯
        have h2:0<=q*bf:=eO hq ⋯
        rw[h1]
        lia
    rw[e,<-h]
    generalize (bf.natAbs:Int)=x
    generalize (af.natAbs:Int)=y
    grind
inductive IvN (z:Int) (m:Nat) (N:Nat) (Z:L2.St) (H':Hp):Prop|mk (a b af bf:Int) (v6 v7 v8:Option V) (_:Z=[some (.int z),some (.int m),some (.int a),some (.int b),some (.int af),some (.int bf),v6,v7,v8]) (_:0<=b) (_:b<a) (_:a<=m) (_:iZ a b=1) (_:(m:Int)∣(a-af*z)) (_:(m:Int)∣(b-bf*z)) (_:af*bf<=0) (_:(af.natAbs:Int)*b+(bf.natAbs:Int)*a=m) (_:b.toNat=N)
theorem S5(F:Fn K "number_inverse" 21 f fd)(T:Bt mg):dm P w K mg base je 1 f fd ["number","modulus"] C0:=by
 refine lJ ["number","modulus","above","below","above_factor","below_factor","often","rest","rest_factor"] F λH Q E S hr h=>?_;obtain⟨z,m,rfl,hm,hmb,hg,k⟩:=h;refine⟨_,(ak (eT 2 S (pv 1)) (ak (eT 3 S (bW iK (pv 0) (pv 1))) (ak (eT 4 S aY) (ak (eT 5 S aY) (ak (gp a9 (lI J_ (pv 3) aY) (ak (eT 6 S (bW uV (pv 2) (pv 3))) (ak (eT 7 S (bW f6 (pv 2) (bW ez (pv 6) (pv 3)))) (ak (eT 8 S (bW f6 (pv 4) (bW ez (pv 6) (pv 5)))) (ak (eT 2 S (pv 3)) (ak (eT 4 S (pv 5)) (ak (eT 3 S (pv 7)) (aJ (eT 5 S (pv 8)))))))))) (aJ (bQ (bW iK (pv 4) (pv 1))))))))),?_⟩;ext;refine⟨⋯,?_⟩;rw[dL _ ⋯];have hz0:=dr z (show(m:Int)≠0 by lia);have hz1:=cW z (show(0:Int)<m by lia);have X8:(2:Nat)^8000<Bi:=pd ∅;refine⟨λN Z H'=>H'=H/\IvN z m N Z H',⟨_,rfl,m,z%m,0,1,_,_,_,rfl,hz0,hz1,js _,?_,⟨1,⋯⟩,?_,⋯,by simp,rfl⟩,?_⟩;.rw[Int.gcd_comm,Ce,hg]
 .refine⟨-(z/m),?_⟩;have:=eD z m;grind
 rintro N Z H1 ⟨rfl,a,b,af,bf,v6,v7,v8,rfl,wA,hba,ham,hgc,hda,GW,GS,TF,rfl⟩;ext;refine dA (λhne=>?_) (λhe=>?_);·(have hb:b≠0:=by simpa using hne);have rE:0<b:=⋯;have ef:a.fdiv b=a/b:=Bk a wA;rw[ef];have nS:0<=a/b:=R_ ⋯ wA;have hqa:a/b<=a:=Int.ediv_le_self b ⋯;have Yw:b.natAbs<m:=⋯;(have KE:∀x:Int,x.natAbs<=m->x.natAbs<Bi:=λx hx=>by lia);(have haf:(bf.natAbs:Int)<=m:=by have h1:0<=(af.natAbs:Int)*b:=eO ⋯ wA;have h2:(bf.natAbs:Int)*1<=(bf.natAbs:Int)*a:=dX ⋯ ⋯;lia);(have P7:b.natAbs.log2<9000:=by have h1:b.natAbs.log2<8000:=(yF ⋯).mpr ⋯;lia);refine oQ λN hN=>⟨⟨hb,P7⟩,kz (KE _ ⋯) (KE _ ⋯),kz (KE _ ⋯) (KE _ ⋯),?_⟩;(have wy:a-a/b*b=a%b:=by have:=eD a b;rw[gX]at this;lia);have hm0:=dr a hb;have hm1:=cW a rE;obtain⟨e1,e2⟩:=QJ rE ⋯ GS TF;rw[wy]at e2 ⊢;refine hN (a%b).toNat _ _ ⋯ ⟨rfl,b,a%b,bf,af-a/b*bf,_,_,_,rfl,hm0,hm1,⋯,?_,GW,?_,e1,e2,rfl⟩;(·rw[Int.gcd_comm,Ce,hgc]);(have:a%b-(af-a/b*bf)*z=(a-af*z)-(a/b)*(b-bf*z):=by rw[<-wy];grind);rw[this];exact JD hda (e_ GW)
 have hb:b=0:=by simpa using he
 subst hb;have ha:a=1:=by rw[Int.gcd_zero_right]at hgc;lia
 subst ha;refine⟨⋯,?_⟩;rw[dL _ ⋯];refine k H1 _ (bC.refl _) (dr _ ⋯) (cW _ ⋯) ?_;have e:=eD af m;have:z*(af%m)-1=-(1-af*z)-m*(z*(af/m)):=by have:af%m=af-m*(af/m):=⋯;rw[this];grind
 rw[this];exact JD (Int.dvd_neg.mpr hda) (pH _ _)
inductive yg (K:ai) (vs:List V) (H:Hp) (Q:VK) (E:XK):Prop|mk (a:aH) (ns:List Int) (m:Nat) (_:vs=[.ref a,.int m]) (_:IL K H a ns) (_:2<=m) (_:m<2^8000) (_:ns.length<=1000) (_:Bd ns) (_:(∃h:ns≠[],iZ (ns.getLast h) m=1)) (_:∀H' p l (c:Int),bC H H'->TL H' p l->ke m l->Mo l->l.length=ns.length->az m l=ag.C ((Tk.red m).f c)*az m ns->(m:Int)∣(ns.getD (ns.length-1) 0*c-1)->Q (.ref p) H')
theorem Pc(F:Fn K "monic" 22 f fd)(T:Bt mg)(vJ:ij P w K mg base "scaled" 3 (HF K))(jd:ij P w K mg base "number_inverse" 1 C0):dm P w K mg base je 4 f fd ["f","modulus"] (yg K):=by
 refine lJ ["f","modulus"] F λH Q E S hr h=>?_;obtain⟨a,ns,m,rfl,hl,hm,hmb,l1,hb,⟨hne,hg⟩,k⟩:=h;have X8:(2:Nat)^8000<Bi:=pd ∅;refine⟨_,(aJ (bQ (pU vJ hr (cf (pv 0) (io (pU jd hr (io (rd K (pv 0) (ln jc aY)) (pv 1))) (pv 1)))))),?_⟩;ext;refine⟨_,hl,_,km hne,_,m,rfl,hm,hmb,hg,λH1 c s1 xk Mw hd=>?_⟩;refine⟨a,ns,c,m,rfl,s1.seq hl,⋯,⋯,hb,⋯,λH2 p s2 hp=>?_⟩;obtain⟨r1,r2⟩:=r9 (m:=m) ⋯ ns c;rw[<-fh hne]at hd;have Yg:=bL.mpr hne;have hone:(Tk.red m).f c*(Tk.red m).f (ns.getD (ns.length-1) 0)=1:=by rw[<-gJ.mul];show cp.mk (m:Int) _=cp.mk _ 1;rw[cp.g8];obtain⟨y,hy⟩:=hd;exact⟨y,by rw[gX];exact hy⟩
 have h1m:(1:Zp m)≠0:=by intro e;have:=gr.mp (cp.dh.mp (show cp.mk (m:Int) 1=0 from e));have:=fJ ∅ this;lia
 have P4:(az m (aN (ns.map λx=>(c*x)%(m:Int)))).bD (ns.length-1):=by rw[r2];refine⟨ag.Lt.z4 _ ((uX m ns).mono ⋯),?_⟩;rw[ag.cA];exact hone
 generalize aN (ns.map λx=>(c*x)%(m:Int))=l at*;have hsz:l.length=ns.length:=by rw[<-r1.size];have:=ag.jb P4.lt (by rw[P4.one];exact h1m);lia
 refine k H2 p l c (s1.trans s2) hp r1 ⟨⋯,?_⟩ hsz r2 hd;have h1:=P4.one;have FI:l≠[]:=by rintro rfl;simp at hsz;lia
 have h2:(Tk.red m).f (l.getD (ns.length-1) 0)=1:=h1;rw[<-hsz,fh FI]at h2;have h3:=r1.zc _ (cC FI);rw[fh FI];have h4:(Tk.red m).f (l.getLast FI-1)=0:=by rw[gJ.sub,h2,gJ.one];grind
 have h5:=r1.yb FI;have:=(lm (m:=m) (x:=l.getLast FI-1) ⋯ ⋯).mp h4;lia
inductive HH (K:ai) (vs:List V) (H:Hp) (Q:VK) (E:XK):Prop|mk (a b:aH) (ns ms:List Int) (m:Nat) (_:vs=[.ref a,.ref b,.int m]) (_:IL K H a ns) (_:IL K H b ms) (_:Pr m) (_:m<2^8000) (_:ns.length<=1000) (_:ms.length<=1000) (_:ke m ns) (_:ke m ms) (_:ns≠[]) (_:∀H' p l,bC H H'->TL H' p l->ke m l->Mo l->Jg (az m l) (az m ns) (az m ms)->Q (.ref p) H')
theorem C_(hp:Pr m)(h:ke m l)(hne:l≠[]):iZ (l.getLast hne) m=1:=by
 have h1:=h.zc _ (cC hne);have h2:=h.yb hne;obtain⟨u,v,re⟩:=hp.cop (a:=l.getLast hne) (λk=>by have:=fJ ⋯ k;lia);have d1:=mY (l.getLast hne) m;have d2:=iY (l.getLast hne) m;have:((iZ (l.getLast hne) m:Nat):Int)∣1:=by rw[<-re];exact yJ (e_ d2) (e_ d1)
 have:=fJ ∅ this;have h3:iZ (l.getLast hne) m≠0:=λk=>by rw[uC]at k;lia
 lia
inductive IvG (K:ai) (a b:aH) (ns ms:List Int) (m:Nat) (n:Nat) (Z:L2.St) (H':Hp):Prop|mk (pa pb:aH) (la lb:List Int) (v5:Option V) (_:Z=[some (.ref a),some (.ref b),some (.int m),some (.ref pa),some (.ref pb),v5]) (_:TL H' pa la) (_:IL K H' pb lb) (_:ke m la) (_:ke m lb) (_:Mo la) (_:la.length<=1000) (_:lb.length<=1000) (_:n=lb.length) (_:∀d:ag (Zp m),Jg d (az m la) (az m lb)->Jg d (az m ns) (az m ms))
theorem S7(F:Fn K "monic_common" 23 f fd)(T:Bt mg)(qO:ij P w K mg base "monic" 4 (yg K))(jF:ij P w K mg base "rest_by" 4 (wj K)):dm P w K mg base je 5 f fd ["f","g","prime"] (HH K):=by
 refine lJ ["f","g","prime","above","below","divisor"] F λH Q E S hr h=>?_;obtain⟨a,b,ns,ms,m,rfl,hl,hq,hp,hmb,l1,l2,r1,r2,hne,k⟩:=h;have X8:(2:Nat)^8000<Bi:=pd ∅;have hp2:=hp.1;have mj:=cn hp;have bd:∀l,ke m l->Bd l:=λl hl x hx=>by have:=hl.bound x hx;lia
 have unit:∀(l:List Int) (c:Int),(m:Int)∣(l.getD (l.length-1) 0*c-1)->(Tk.red m).f c≠0:=λl c ⟨y,hy⟩ e=>by have h1:(Tk.red m).f (l.getD (l.length-1) 0*c-1)=0:=cp.dh.mpr ⟨y,hy⟩;rw[gJ.sub,gJ.mul,e,gJ.one]at h1;apply nU.ej (R:=Zp m);grind
 refine⟨_,(ak (eT 3 S (pU qO hr (io (pv 0) (pv 2)))) (ak (eT 4 S (pv 1)) (ak (gp a9 (lI rY (pL K T.len (pv 4)) aY) (ak (eT 5 S (pU qO hr (io (pv 4) (pv 2)))) (ak (eT 4 S (pU jF hr (cf (pv 3) (io (pv 5) (pv 2))))) (aJ (eT 3 S (pv 5)))))) (aJ (bQ (pv 3)))))),?_⟩;ext;refine⟨a,ns,m,rfl,hl,hp2,hmb,l1,bd _ r1,⟨hne,C_ hp r1 hne⟩,λH1 p0 l0 c0 s1 kd hr0 hm0 Vy VB oi=>?_⟩;have hu0:=unit ns c0 oi;obtain⟨w0,_,hw0⟩:=ag.lO hu0;refine⟨λn Z H'=>bC H H'/\IvG K a b ns ms m n Z H',⟨_,s1,p0,b,l0,ms,_,rfl,kd,s1.seq hq,hr0,r2,hm0,⋯,l2,rfl,?_⟩,?_⟩;.rintro d ⟨d1,d2,d3,u,v,d4⟩;rw[VB]at d2 d4;refine⟨d1,?_,d3,u*ag.C ((Tk.red m).f c0),v,by rw[d4];grind⟩;obtain⟨y,hy⟩:=d2;exact⟨ag.C w0*y,by grind⟩
 rintro n Z H2 ⟨hs,pa,pb,la,lb,v5,rfl,ha,hb2,ra,rb,ma,la1,lb1,rfl,hG⟩;ext;refine⟨_,hb2,?_⟩;rw[ab];refine dA (λAX=>?_) (λhz=>?_);·(have Mx:lb≠[]:=by rintro rfl;simp at AX);refine oQ λN hN=>?_;refine⟨pb,lb,m,rfl,hb2,hp2,hmb,lb1,bd _ rb,⟨Mx,C_ hp rb Mx⟩,λH3 p3 l3 c3 s3 AY RN hm3 hlen3 T0 NF=>?_⟩;refine⟨pa,p3,la,l3,m,rfl,s3.seq (cu.of ha),cu.of AY,hp2,⋯,la1,⋯,bd _ RN,hm3,λH4 p4 r s4 Vt hR=>?_⟩;obtain⟨R1,R2,Qq,R3⟩:=hR;have hu3:=unit lb c3 NF;obtain⟨w3,_,hw3⟩:=ag.lO hu3;refine hN r.length _ _ ⋯ ⟨(hs.trans s3).trans s4,p3,p4,l3,r,_,rfl,s4 _ _ AY,cu.of Vt,RN,R1,hm3,⋯,⋯,rfl,?_⟩;rintro d ⟨d1,d2,d3,u,v,d4⟩;apply hG;(have R4:az m la=az m l3*Qq.map (Tk.red m)+az m r:=by have:=R3;rwa[ag.gN,ag.cj]at this);refine⟨d1,?_,?_,v,(u-v*Qq.map (Tk.red m))*ag.C ((Tk.red m).f c3),?_⟩;(·rw[R4];exact(d2.mul_right _).add d3);(·rw[T0]at d2;obtain⟨y,hy⟩:=d2;exact⟨ag.C w3*y,by grind⟩);rw[d4,R4,T0];grind
 have Yw:lb=[]:=b5 ⋯;subst Yw;refine k H2 pa la hs ha ra ma (hG _ ?_);have e0:az m []=0:=(ke.nil m).kl.mpr rfl;refine⟨⟨_,ma.ju⟩,Dv.refl _,by rw[e0];exact Dv.zero _,1,0,by rw[e0];grind⟩
theorem Fa:(2:Nat)^8000<Bi:=pd ∅
theorem HY(m:Nat):az m [1]=1:=by unfold az;rw[yd,ag.qB]
theorem C9(h:2<=m):ke m [1]:=⟨λx hx=>by simp at hx;lia,λ_=>by simp⟩
theorem zV{m:Nat}{x c:Int}(h:(m:Int)∣(x*c-1)):(Tk.red m).f x*(Tk.red m).f c=1:=by obtain⟨y,hy⟩:=h;rw[<-gJ.mul];show cp.mk (m:Int) _=cp.mk _ 1;rw[cp.g8];exact⟨y,hy⟩
theorem Kg(hm:2<=m)(r:ke m l)(h:(az m l).bD (l.length-1))(hl:1<=l.length):Mo l:=by
 refine⟨hl,?_⟩;have FI:l≠[]:=by rintro rfl;simp at hl
 have h2:(Tk.red m).f (l.getD (l.length-1) 0)=1:=h.one;rw[fh FI]at h2 ⊢;have h3:=r.zc _ (cC FI);have h4:(Tk.red m).f (l.getLast FI-1)=0:=by rw[gJ.sub,h2,gJ.one];grind
 have h5:=r.yb FI;have:=(lm (m:=m) (x:=l.getLast FI-1) ⋯ ⋯).mp h4;lia
inductive U_ (K:ai) (vs:List V) (H:Hp) (Q:VK) (E:XK):Prop|mk (a b:aH) (ns ms:List Int) (m:Nat) (_:vs=[.ref a,.ref b,.int m]) (_:IL K H a ns) (_:TL H b ms) (_:Pr m) (_:m<2^8000) (_:ns.length<=100) (_:ms.length<=100) (_:ke m ns) (_:ke m ms) (_:Mo ms) (_:2<=ms.length) (_:kC (az m ns) (az m ms)) (_:∀H' p l,bC H H'->TL H' p l->ke m l->l.length<=ms.length-1->Dv (az m ms) (az m l*az m ns-1)->Q (.ref p) H')
inductive IvI (a b:aH) (ns ms:List Int) (m:Nat) (n:Nat) (Z:L2.St) (H':Hp):Prop|mk (pa pb pf pg:aH) (la lb lf lg:List Int) (v7 v8 v9 v10:Option V) (_:Z=[some (.ref a),some (.ref b),some (.int m),some (.ref pa),some (.ref pb),some (.ref pf),some (.ref pg),v7,v8,v9,v10]) (_:TL H' pa la) (_:TL H' pb lb) (_:TL H' pf lf) (_:TL H' pg lg) (_:ke m la) (_:ke m lb) (_:ke m lf) (_:ke m lg) (_:Mo la) (_:lb.length+1<=la.length) (_:la.length<=ms.length) (_:lf.length+la.length<=ms.length+1) (_:lg.length+la.length<=ms.length+1) (_:n=lb.length) (_:kC (az m la) (az m lb)) (_:Dv (az m ms) (az m la-az m lf*az m ns)) (_:Dv (az m ms) (az m lb-az m lg*az m ns))
theorem Xj(F:Fn K "inverse" 24 f fd)(T:Bt mg)(jF:ij P w K mg base "rest_by" 4 (wj K))(jd:ij P w K mg base "number_inverse" 1 C0)(vJ:ij P w K mg base "scaled" 3 (HF K))(ko:ij P w K mg base "divided" 3 (ES K))(lN:ij P w K mg base "difference" 4 (C1 K))(qe:ij P w K mg base "product" 1 (CY K)):dm P w K mg base je 5 f fd ["f","g","prime"] (U_ K):=by
 refine lJ ["f","g","prime","above","below","above_factor","below_factor","scale","divisor","divisor_factor","pair"] F λH Q E S hr h=>?_;obtain⟨a,b,ns,ms,m,rfl,hl,hq,hp,hmb,l1,l2,r1,r2,mo,l3,xK,k⟩:=h;have X8:=Fa;have hp2:=hp.1;have mj:=cn hp;have bd:∀l,ke m l->Bd l:=λl hl x hx=>by have:=hl.bound x hx;lia
 refine⟨_,(ak (eT 3 S (pv 1)) (ak (eT 4 S (pU jF hr (cf (pv 0) (io (pv 1) (pv 2))))) (ak (eT 5 S (db lH)) (ak (eT 6 S (db (g7 aY))) (ak (gp a9 (lI rY (pL K T.len (pv 4)) aY) (ak (eT 7 S (pU jd hr (io (rd K (pv 4) (ln jc aY)) (pv 2)))) (ak (eT 8 S (pU vJ hr (cf (pv 4) (io (pv 7) (pv 2))))) (ak (eT 9 S (pU vJ hr (cf (pv 6) (io (pv 7) (pv 2))))) (ak (eT 10 S (pU ko hr (cf (pv 3) (io (pv 8) (pv 2))))) (ak (eT 4 S (LZ K (pv 10) aY)) (ak (eT 6 S (pU lN hr (cf (pv 5) (io (pU qe hr (io (LZ K (pv 10) aY) (pv 9))) (pv 2))))) (ak (eT 3 S (pv 8)) (aJ (eT 5 S (pv 9))))))))))) (aJ (bQ (pU jF hr (cf (pv 5) (io (pv 1) (pv 2))))))))))),?_⟩;ext;refine⟨a,b,ns,ms,m,rfl,hl,cu.of hq,hp2,⋯,⋯,⋯,bd _ r2,mo,λH1 p1 rr s1 rD hR=>?_⟩;refine⟨∅,λp2 X9=>?_⟩;have s2:=aP (o:=HO.lst []) X9;refine⟨∅,λp3 AY=>?_⟩;have s3:=aP (o:=HO.lst [V.int 1]) AY;obtain⟨R1,R2,Q0,R3⟩:=hR;have R4:az m ns=az m ms*Q0.map (Tk.red m)+az m rr:=by have:=R3;rwa[ag.gN,ag.cj]at this
 have e0:az m []=0:=(ke.nil m).kl.mpr rfl;refine⟨λn Z H'=>bC H H'/\IvI a b ns ms m n Z H',⟨_,(s1.trans s2).trans s3,b,p1,p2,p3,ms,rr,[],[1],_,_,_,_,rfl,s3 _ _ (s2 _ _ (s1 _ _ hq)),s3 _ _ (s2 _ _ rD),s3 _ _ am,am,r2,R1,ke.nil m,C9 hp2,mo,⋯,aw _,(by first|(simp;done)|(simp;lia)),(by first|(simp;done)|(simp;lia)),rfl,?_,?_,?_⟩,?_⟩;.obtain⟨u,v,re⟩:=xK;exact⟨u*Q0.map (Tk.red m)+v,u,by rw[R4]at re;grind⟩
 .rw[e0];exact⟨1,by grind⟩
 .rw[HY,R4];exact⟨-Q0.map (Tk.red m),by grind⟩
 rintro n Z H2 ⟨hs,pa,pb,pf,pg,la,lb,lf,lg,v7,v8,v9,v10,rfl,ha,hb2,Qg,ZF,ra,rb,rf,rg,ma,c1,c2,c3,c4,rfl,hco,d1,d2⟩;ext;refine⟨_,cu.of hb2,?_⟩;rw[ab];refine dA (λAX=>?_) (λhz=>?_);·(have Mx:lb≠[]:=by rintro rfl;simp at AX);refine oQ λN hN=>?_;refine⟨_,cu.of hb2,_,km Mx,_,m,rfl,hp2,hmb,C_ hp rb Mx,λH3 c t3 xk Mw hcd=>?_⟩;refine⟨pb,lb,c,m,rfl,t3.seq (cu.of hb2),⋯,⋯,bd _ rb,⋯,λH4 q4 t4 hq4=>?_⟩;obtain⟨g1,g2⟩:=r9 (m:=m) ⋯ lb c;obtain⟨g3,g4⟩:=r9 (m:=m) ⋯ lg c;refine⟨pg,lg,c,m,rfl,(t3.trans t4).seq (cu.of ZF),⋯,⋯,bd _ rg,⋯,λH5 q5 t5 hq5=>?_⟩;rw[<-fh Mx]at hcd;have hu:(Tk.red m).f (lb.getD (lb.length-1) 0)*(Tk.red m).f c=1:=zV hcd;(have hu0:(Tk.red m).f c≠0:=by intro e;rw[e]at hu;apply nU.ej (R:=Zp m);grind);obtain⟨w3,_,hw3⟩:=ag.lO hu0;(have hDm:(az m (aN (lb.map λx=>(c*x)%(m:Int)))).bD (lb.length-1):=by rw[g2];refine⟨ag.Lt.z4 _ ((uX m lb).mono ⋯),?_⟩;rw[ag.cA];show(Tk.red m).f c*(Tk.red m).f (lb.getD (lb.length-1) 0)=1;grind);have hdl:(aN (lg.map λx=>(c*x)%(m:Int))).length<=lg.length:=br (iD _) (by rw[ab];exact aw _);generalize aN (lb.map λx=>(c*x)%(m:Int))=D at*;generalize aN (lg.map λx=>(c*x)%(m:Int))=G at*;(have hDl:D.length=lb.length:=by rw[<-g1.size,hDm.size];lia);have hDo:Mo D:=Kg hp2 g1 (by rw[hDl];exact hDm) ⋯;refine⟨pa,q4,la,D,m,rfl,((t3.trans t4).trans t5).seq (cu.of ha),t5.seq (cu.of hq4),hp2,⋯,⋯,⋯,bd _ g1,hDo.1,hDo.2,λH6 q6 qq qr q r t6 hq6 hqq hqr hd=>?_⟩;refine⟨_,rfl,_,.inl (.inl hq6),_,qK,?_⟩;refine⟨_,rfl,_,.inl (.inl hq6),_,qa,?_⟩;refine⟨qq,q5,q,G,rfl,cu.of hqq,t6.seq (cu.of hq5),by have:=hd.ql;lia,⋯,bd _ hd.rq,bd _ g3,λH7 q7 pr t7 hq7 hP7 hl7=>?_⟩;have tt:bC H2 H7:=(((t3.trans t4).trans t5).trans t6).trans t7;have RO:=hd.ql;have hrl:=hd.lt;(have ald:pr.length+lb.length<=ms.length+1:=by rw[hl7];split;(·lia);rename_i hne;(have:1<=q.length:=by apply ik;intro e;exact hne (.inl (b5 e)));(have:1<=G.length:=by apply ik;intro e;exact hne (.inr (b5 e)));lia);clear hl7 RO;refine⟨pf,q7,lf,pr,m,rfl,tt _ _ Qg,cu.of hq7,⋯,⋯,⋯,λH8 q8 nf t8 hq8 hr8 he8 hl8=>?_⟩;(have hl9:nf.length+lb.length<=ms.length+1:=by rcases wS lf.length pr.length with h|h;(·rw[Nat.max_eq_right h]at hl8;lia);rw[Nat.max_eq_left h]at hl8;lia);clear hl8;(have e8:az m nf=az m lf-az m q*az m G:=by have:=he8;rwa[ag.kW,hP7,ag.cj]at this);(have ed:az m la=az m D*az m q+az m r:=by have:=hd.eq;rwa[ag.gN,ag.cj]at this);refine hN r.length _ _ ⋯ ⟨hs.trans (tt.trans t8),q4,qr,q5,q8,D,r,G,nf,_,_,_,_,rfl,t8 _ _ (t7 _ _ (t6 _ _ (t5 _ _ hq4))),t8 _ _ (t7 _ _ hqr),t8 _ _ (t7 _ _ (t6 _ _ hq5)),hq8,g1,hd.rr,g3,hr8,hDo,⋯,⋯,⋯,⋯,rfl,?_,?_,?_⟩;(·obtain⟨u,v,re⟩:=hco;refine⟨u*az m q+v*ag.C w3,u,?_⟩;(have:az m lb=ag.C w3*az m D:=by rw[g2];grind);rw[ed,this]at re;grind);(·obtain⟨y,hy⟩:=d2;exact⟨ag.C ((Tk.red m).f c)*y,by rw[g2,g4];grind⟩);obtain⟨y,hy⟩:=d1;obtain⟨z,hz⟩:=d2;refine⟨y-az m q*ag.C ((Tk.red m).f c)*z,?_⟩;(have:az m r=az m la-az m D*az m q:=by rw[ed];grind);rw[e8,this,g2,g4];grind
 have Yw:lb=[]:=b5 ⋯;subst Yw;rw[e0]at hco;have ha1:az m la=1:=by obtain⟨u,v,re⟩:=hco;have tz:Dv (az m la) 1:=⟨u,by rw[<-re];grind⟩;have:=ag.fm tz ag.one_ne_zero;have h1s:(1:ag (Zp m)).size=1:=ag.fP nU.ej;have hs2:=ma.ju (m:=m);have hsz:=hs2.size;have:la.length-1=0:=⋯;rw[this]at hs2;exact hs2.zero_eq
 refine⟨pf,b,lf,ms,m,rfl,cu.of Qg,cu.of (hs _ _ hq),hp2,⋯,⋯,⋯,bd _ r2,mo,λH3 q3 t t3 Kv hR3=>?_⟩;obtain⟨S1,S2,Q3,S3⟩:=hR3;refine k H3 q3 t (hs.trans t3) Kv S1 S2 ?_;have S4:az m lf=az m ms*Q3.map (Tk.red m)+az m t:=by have:=S3;rwa[ag.gN,ag.cj]at this
 obtain⟨y,hy⟩:=d1;rw[ha1]at hy;have:az m t=az m lf-az m ms*Q3.map (Tk.red m):=by rw[S4];grind
 exact⟨-(y+Q3.map (Tk.red m)*az m ns),by rw[this];grind⟩
inductive U7 (vs:List V) (H:Hp) (Q:VK) (E:XK):Prop|mk (p:Nat) (L:Int) (_:vs=[.int p,.int L]) (_:2<=p) (_:p<2^1000) (_:L<2^2000) (_:∀H' (j:Nat),bC H H'->L<((p^2^j:Nat):Int)->p^2^j<2^4000->Q (.int ((p^2^j:Nat):Int)) H')
theorem Xf(F:Fn K "power_above" 26 f fd)(T:Bt mg):dm P w K mg base je 1 f fd ["prime","limit"] U7:=by
 refine lJ ["prime","limit","power"] F λH Q E S hr h=>?_;obtain⟨p,L,rfl,hp,NB,hL,k⟩:=h;refine⟨_,(ak (eT 2 S (pv 0)) (ak (gp a9 (lI O7 (pv 2) (pv 1)) (aJ (eT 2 S (bW ez (pv 2) (pv 2))))) (aJ (bQ (pv 2))))),?_⟩;ext;refine⟨λn Z H'=>H'=H/\∃j:Nat,Z=[some (.int p),some (.int L),some (.int ((p^2^j:Nat):Int))]/\n=(L+1-((p^2^j:Nat):Int)).toNat/\p^2^j<2^4000,⟨_,rfl,0,by simp,rfl,by rw[gu,Nat.pow_one];lia⟩,?_⟩;rintro n Z H1 ⟨rfl,j,rfl,rfl,hb⟩;ext;have TX:2<=p^2^j:=by have h1:p^1<=p^2^j:=bg ⋯ jA;rw[Nat.pow_one]at h1;lia
 have tq:p^2^(j+1)=p^2^j*p^2^j:=by rw[<-iW];congr 1;rw[cv];lia
 generalize hq:p^2^j=q at*;refine dA (λhle=>?_) (λhn=>?_);.refine oQ λN hN=>⟨?_,?_⟩;(·have h2:(2:Nat)^4000<Bi:=pd ∅;exact kz ⋯ ⋯);have h3:q*2<=q*q:=di q TX;(have h4:(q:Int)*q=((q*q:Nat):Int):=by rw[cg]);(have h5:q<2^2000:=by(have:(q:Int)<((2^2000:Nat):Int):=by rw[rK];exact Np hle hL);lia);(have h6:q*q<2^4000:=by(have e:(2:Nat)^4000=2^2000*2^2000:=by rw[<-iW]);rw[e];exact mT h5 h5);refine hN (L+1-((q*q:Nat):Int)).toNat _ _ ⋯ ⟨rfl,j+1,?_,?_,?_⟩;(·rw[tq,h4]);(·rw[tq]);rw[tq];exact h6
 rw[<-hq];exact k H1 j (bC.refl _) (by rw[hq];lia) (by rw[hq];exact hb)
inductive Ot (K:ai) (vs:List V) (H:Hp) (Q:VK) (E:XK):Prop|mk (a b:aH) (ns ms:List Int) (p J:Nat) (_:vs=[.ref a,.ref b,.int p,.int ((p^2^J:Nat):Int)]) (_:IL K H a ns) (_:TL H b ms) (_:Pr p) (_:p^2^J<2^4000) (_:ns.length<=100) (_:ms.length<=100) (_:ke p ms) (_:Mo ms) (_:2<=ms.length) (_:(∃q,az p ns=az p ms*q/\kC q (az p ms))) (_:∀H' c l,bC H H'->TL H' c l->ke (p^2^J) l->Mo l->l.length=ms.length->(aA l).map (Tk.red p)=az p ms->Dv (az (p^2^J) l) (az (p^2^J) ns)->Q (.ref c) H')
inductive IvL (a b:aH) (ns ms:List Int) (p J:Nat) (n:Nat) (Z:L2.St) (H':Hp):Prop|mk (pf pt:aH) (lf lt:List Int) (j:Nat) (v7 v8:Option V) (_:Z=[some (.ref a),some (.ref b),some (.int p),some (.int ((p^2^J:Nat):Int)),some (.ref pf),some (.ref pt),some (.int ((p^2^j:Nat):Int)),v7,v8]) (_:TL H' pf lf) (_:TL H' pt lt) (_:j<=J) (_:n=J-j) (_:ke (p^2^j) lf) (_:Mo lf) (_:lf.length=ms.length) (_:(aA lf).map (Tk.red p)=az p ms) (_:ke (p^2^j) lt) (_:lt.length<=ms.length-1) (qz:ag Int) (_:Dv (ag.C ((p^2^j:Nat):Int)) (aA ns-aA lf*qz)) (_:∃y,Dv (ag.C ((p^2^j:Nat):Int)) (aA lt*qz-1-aA lf*y))
theorem S8(F:Fn K "lifted" 27 f fd)(T:Bt mg)(MU:ij P w K mg base "inverse" 5 (U_ K))(ko:ij P w K mg base "divided" 3 (ES K))(iB:ij P w K mg base "reduced" 2 (y6 K))(DX:ij P w K mg base "added" 3 (OB K))(j9:ij P w K mg base "product_rest" 5 (ud K))(lN:ij P w K mg base "difference" 4 (C1 K)):dm P w K mg base je 6 f fd ["f","part","prime","last"] (Ot K):=by
 refine lJ ["f","part","prime","last","found","turned","modulus","rest","nearly_one"] F λH Q E S hr h=>?_;obtain⟨a,b,ns,ms,p,J,rfl,hl,hq,hp,Iy,l1,l2,r2,mo,l3,⟨q,hq1,xJ⟩,k⟩:=h;have hp2:=hp.1;have tD:(2:Nat)^4000<Bi:=pd ∅;have iQ:p<=p^2^J:=by have h1:p^1<=p^2^J:=bg ⋯ jA;rwa[Nat.pow_one]at h1
 have bd:∀m l,m<2^4000->ke m l->Bd l:=λm l hm hl x hx=>by have:=hl.bound x hx;lia
 refine⟨_,(ak (eT 4 S (pv 1)) (ak (eT 5 S (pU MU hr (cf (LZ K (pU ko hr (cf (pU iB hr (io (pv 0) (pv 2))) (io (pv 1) (pv 2)))) aY) (io (pv 1) (pv 2))))) (ak (eT 6 S (pv 2)) (ak (gp a9 (lI rX (pv 6) (pv 3)) (ak (eT 6 S (bW ez (pv 6) (pv 6))) (ak (eT 7 S (LZ K (pU ko hr (cf (pv 0) (io (pv 4) (pv 6)))) aY)) (ak (eT 4 S (pU DX hr (cf (pv 4) (io (pU j9 hr (cf (pv 5) (cf (pv 7) (io (pv 4) (pv 6))))) (pv 6))))) (ak (eT 8 S (pU j9 hr (cf (pv 5) (cf (LZ K (pU ko hr (cf (pv 0) (io (pv 4) (pv 6)))) aY) (io (pv 4) (pv 6)))))) (aJ (eT 5 S (pU j9 hr (cf (pv 5) (cf (pU lN hr (cf (db (g7 aY)) (io (pv 8) (pv 6)))) (io (pv 4) (pv 6)))))))))))) (aJ (bQ (pv 4))))))),?_⟩;ext;refine⟨a,ns,p,rfl,hl,⋯,⋯,λH1 p1 s1 rD=>?_⟩;obtain⟨g1,g2⟩:=oJ (m:=p) ⋯ ns;have Kz:(aN (ns.map λx=>x%(p:Int))).length<=ns.length:=br (iD _) (by rw[ab];exact aw _);generalize aN (ns.map λx=>x%(p:Int))=rn at*;refine⟨p1,b,rn,ms,p,rfl,cu.of rD,s1.seq (cu.of hq),hp2,⋯,⋯,⋯,bd p _ ⋯ r2,mo.1,mo.2,λH2 p2 pq pr q0 r0 s2 X9 hpq Dt hd=>?_⟩;refine⟨_,rfl,_,.inl (.inl X9),_,qa,?_⟩;have hms:=mo.ju (m:=p);have e0:az p ms*q=az p ms*az p q0+az p r0:=by rw[<-hq1];have h1:=hd.eq;rwa[g2,ag.gN,ag.cj]at h1
 have e1:q=az p q0:=by(have h2:az p ms*(q-az p q0)=az p r0:=by grind);have h3:=hms.o7 (by rw[h2];exact(uX p r0).mono hd.lt);grind
 rw[e1]at hq1 xJ;have RO:=hd.ql;refine⟨pq,b,q0,ms,p,rfl,cu.of hpq,s2 _ _ (s1 _ _ hq),hp,⋯,⋯,l2,hd.rq,r2,mo,l3,xJ,λH3 p3 t0 s3 AY RN hl3 NF=>?_⟩;have ss:bC H H3:=(s1.trans s2).trans s3;refine⟨λn Z H'=>bC H H'/\IvL a b ns ms p J n Z H',⟨_,ss,b,p3,ms,t0,0,none,none,?_,ss _ _ hq,AY,bX _,rfl,?_,mo,rfl,rfl,?_,hl3,aA q0,?_,?_⟩,?_⟩;.rw[gu,Nat.pow_one]
 .rw[gu,Nat.pow_one];exact r2
 .rw[gu,Nat.pow_one];exact RN
 .rw[gu,Nat.pow_one,<-wF,ag.cj];exact hq1
 .obtain⟨y,hy⟩:=NF;obtain⟨y',rfl⟩:=Ft y;refine⟨y',?_⟩;rw[gu,Nat.pow_one,A4];rw[ag.kW,ag.kW,ag.cj,ag.cj,ag.qB];have h5:(aA t0).map (Tk.red p)*(aA q0).map (Tk.red p)-1=(aA ms).map (Tk.red p)*y'.map (Tk.red p):=hy;rw[h5];grind
 rintro n Z H4 ⟨hs,pf,pt,lf,lt,j,v7,v8,rfl,hf4,ht4,hj,rfl,rf,mf,hfl,GV,rt,TD,qz,hz1,Eg⟩;ext;have tq:p^2^(j+1)=p^2^j*p^2^j:=by rw[<-iW];congr 1;rw[cv];lia
 have hpj:p∣p^2^j:=by have:p^1∣p^2^j:=Nat.pow_dvd_pow p jA;rwa[Nat.pow_one]at this
 have TX:2<=p^2^j:=by have h1:p^1<=p^2^j:=bg ⋯ jA;rw[Nat.pow_one]at h1;lia
 refine dA (λhlt=>?_) (λhn=>?_);·(have hjJ:j<J:=by apply ae;intro hc;have:j=J:=⋯;subst this;lia);have hmM:p^2^(j+1)<=p^2^J:=bg ⋯ (bg ∅ hjJ);generalize hm:p^2^j=m at*;generalize hM:p^2^J=M at*;rw[tq]at hmM;(have Ms:2<=m*m:=by have:=dJ TX TX;lia);(have Qi:((m:Nat):Int)*((m:Nat):Int)=((m*m:Nat):Int):=by rw[cg]);refine oQ λN hN=>⟨kz ⋯ ⋯,?_⟩;rw[Qi];have Zh:∀l,ke (m*m) l->Bd l:=λl hl=>bd (m*m) l ⋯ hl;have fbd:Bd lf:=bd m _ ⋯ rf;have tbd:Bd lt:=bd m _ ⋯ rt;refine⟨a,pf,ns,lf,m*m,rfl,hs.seq hl,cu.of hf4,Ms,⋯,⋯,⋯,fbd,mf.1,mf.2,λH5 p5 pq5 pr5 q5 r5 s5 hp5 akY afw VD=>?_⟩;refine⟨_,rfl,_,.inl (.inl hp5),_,qK,?_⟩;have afm:=VD.lt;refine⟨pt,pr5,pf,lt,r5,lf,m*m,rfl,s5.seq (cu.of ht4),cu.of afw,s5.seq (cu.of hf4),Ms,⋯,⋯,⋯,⋯,tbd,Zh _ VD.rr,fbd,mf,λH6 p6 dl s6 hp6 hR6=>?_⟩;have hdl:=hR6.lt;refine⟨pf,p6,lf,dl,m*m,rfl,s6 _ _ (s5 _ _ hf4),cu.of hp6,⋯,⋯,⋯,λH7 p7 nf s7 hp7 Zv he7 hl7=>?_⟩;have Yh:=mf.VX;(have Yb:(az (m*m) nf).bD (lf.length-1):=by have:az (m*m) nf=(aA lf+aA dl).map (Tk.red (m*m)):=he7;rw[this];refine ag.bD.map ?_ _;refine⟨Yh.lt.add ((gn dl).mono ⋯),?_⟩;rw[ag.g9,Yh.one,gn dl _ ⋯];rfl);(have ag8:(1:Zp (m*m))≠0:=by intro e;have h8:=gr.mp (cp.dh.mp (show cp.mk ((m*m:Nat):Int) 1=0 from e));have h9:=fJ ∅ h8;lia);(have hnl:nf.length=lf.length:=by rw[<-Zv.size];have:=ag.jb Yb.lt (by rw[Yb.one];exact ag8);have:=mf.1;lia);have P1:Mo nf:=Kg Ms Zv (by rw[hnl];exact Yb) ⋯;have tt7:bC H4 H7:=(s5.trans s6).trans s7;refine⟨a,p7,ns,nf,m*m,rfl,(hs.trans tt7).seq hl,cu.of hp7,Ms,⋯,⋯,⋯,Zh _ Zv,P1.1,P1.2,λH8 p8 pq8 pr8 q8 r8 s8 hp8 afx akX NE=>?_⟩;refine⟨_,rfl,_,.inl (.inl hp8),_,qa,?_⟩;have akS:=NE.ql;have akM:=NE.lt;refine⟨pt,pq8,p7,lt,q8,nf,m*m,rfl,(tt7.trans s8).seq (cu.of ht4),cu.of afx,s8.seq (cu.of hp7),Ms,⋯,⋯,⋯,⋯,tbd,Zh _ NE.rq,Zh _ Zv,P1,λH9 p9 nu s9 hp9 hR9=>?_⟩;have ak5:=hR9.lt;refine⟨∅,λpz hpz=>?_⟩;have sz:=aP (o:=HO.lst [V.int 2]) hpz;refine⟨pz,p9,[2],nu,m*m,rfl,am,sz.seq (cu.of hp9),⋯,by simp,⋯,λHa pa' dd sa afA hra hea hla=>?_⟩;have tt9:bC H4 Ha:=(((tt7.trans s8).trans s9).trans sz).trans sa;(have alH:dd.length<=500:=by simp only[ck]at hla;lia);refine⟨pt,pa',p7,lt,dd,nf,m*m,rfl,tt9.seq (cu.of ht4),cu.of afA,(((s8.trans s9).trans sz).trans sa).seq (cu.of hp7),Ms,⋯,⋯,⋯,⋯,tbd,Zh _ hra,Zh _ Zv,P1,λHb pb' nt sb afz hRb=>?_⟩;obtain⟨k6,hk6⟩:=hR6.ex;obtain⟨k9,hk9⟩:=hR9.ex;obtain⟨kb,hkb⟩:=hRb.ex;have afd:aA [2]=2:=Br 2;rw[afd]at hea;obtain⟨m1,m2,m3,m4⟩:=BX (m:=m) (F:=aA ns) (a:=aA lf) (t:=aA lt) (q:=qz) (q1:=aA q5) (r:=aA r5) (d:=aA dl) (A:=aA nf) (q2:=aA q8) (r2:=aA r8) (nu:=aA nu) (dd:=aA dd) (t':=aA nt) Yh hz1 Eg VD.eq ((gn r5).mono afm) hk6 ((gn dl).mono hdl) he7 NE.eq ((gn r8).mono ⋯) hk9 hea hkb;refine hN (J-(j+1)) _ _ ⋯ ⟨hs.trans (tt9.trans sb),p7,pb',nf,nt,j+1,some (.ref pr5),some (.ref p9),?_,(((s8.trans s9).trans sz).trans sa).trans sb _ _ hp7,afz,⋯,rfl,?_,P1,⋯,?_,?_,?_,aA q8,?_,?_⟩;(·rw[tq,hM]);(·rw[tq];exact Zv);(·rw[<-GV];exact vD hpj m1);(·rw[tq];exact hRb.red);(·have:=hRb.lt;lia);(·rw[tq,cg];exact m3);rw[tq,cg];exact m4
 have hjJ:j=J:=by apply ae;intro hc;have h1:p^2^j<p^2^J:=dU ⋯ (dU ∅ ⋯);lia
 subst hjJ;refine k H4 pf lf hs hf4 rf mf hfl GV ?_;refine⟨qz.map (Tk.red (p^2^j)),?_⟩;have:=wF.mpr hz1;rwa[ag.cj]at this
section
section
variable {X:Cx}
noncomputable def aaB(K:ai):List V->Hp->VK->Prop:=λvs H Q=>∃(a:aH) (ns:List Int),vs=[V.ref a]/\cu K H a (ns.map V.int)/\Q (.bl (ns.any λx=>x !=0)) H
theorem Ht{ns:List Int}{its:List aI}(r:dk (ns.map V.int) its):TruthOf prog w A (λi v=>its.toArray[i]?=some v) (λi=>(ns.map λx=>x !=0).getD i false):=λi v s Q E hv hq=>by
 have Zs:its[i]?=some v:=by simpa using hv
 have hi:i<ns.length:=by have h1:=(ax.mp Zs).1;have h2:=r.length;rw[ab]at h2;lia
 obtain⟨u,hu,ru⟩:=r.get (i:=i) (x:=V.int ns[i]) (by rw[aE,aa hi];rfl);rw[Zs]at hu;cases hu;obtain⟨t,rfl⟩:=ru;have hg:(ns.map λx=>x !=0).getD i false=(ns[i]!=0):=by rw[List.getD_eq_getElem?_getD,aE,aa hi];rfl
 have Kw:Q ((ns.map λx=>x !=0).getD i false) s:=hq;rw[hg]at Kw;exact PyProof.Rows.truthy_int Kw
theorem Um{K:ai}(hc:X.calm=true)(hK:X.K=K:=by rfl):qV X (.builtin "any") (aaB K):=by
 subst hK;intro au s Z H vs us Q I r h;obtain⟨a,ns,rfl,hs,q⟩:=h;obtain⟨its,rv,hl,_⟩:=I.list hs;rw[dk.Wn r];refine call_any_walk (PH hl.isList λs₂ e2 st hne=>?_);subst e2;refine⟨_,_,_,_,_,_,_,rfl,Walks.list (A:=X.A.in1) (I.ok.hd hc) _ a hne its.toArray,st,Ht rv,λh' tk hk=>?_⟩;refine⟨.bl _,H,I.kept λb o eo=>hk b o (λhmem=>?_) (bx _ eo),?_,q⟩;.rcases bi.mp hmem with e1|hmem;(·exact ap (e1 ▸ bG eo) (fH _));cases hmem
 have e3:its.toArray.size=(ns.map λx=>x !=0).length:=by have:=rv.length;rw[ab]at this;rw[bc,ab];exact this.symm
 show Ao _=Ao _;rw[e3,L2.any_range,Ey];rfl
end
section
theorem L_(ht:fc ms)(hne:ms≠[])(hr:r.Lt (s+(ms.length-1)+1))(e:r=aA ms*h):h.Lt (s+1)/\r.c (s+(ms.length-1))=ms.getD (ms.length-1) 0*h.c s:=by
 have hsz:=bH.mp ht;have hl:=bL.mpr hne;have hm0:aA ms≠0:=λk=>hne ((bP ht).mp k);have hlt:h.Lt (s+1):=by by_cases h0:h=0;(·rw[h0];exact ag.Lt.zero _);have:=ag.bM hm0 h0;rw[<-e]at this;have h2:=ag.dS hr;exact ag.cS ⋯
 refine⟨hlt,?_⟩;have:=ag.iA (p:=aA ms) (q:=h) (m:=ms.length-1) (n:=s) ((gn ms).mono ⋯) hlt;rw[jB,e,this];rfl
def Bz(n:Nat)(l:List Int):Prop:=∀x,x∈l->x.natAbs<2^n
inductive y8 (K:ai) (vs:List V) (H:Hp) (Q:VK) (E:XK):Prop|mk (a b) (ns ms) (_:vs=[.ref a,.ref b]) (_:IL K H a ns) (_:IL K H b ms) (_:ns.length<=100) (_:ms.length<=100) (_:Bz 8000 ms) (_:Bz 8000 ns) (_:fc ms) (_:ms≠[]) (_:(∀H' p l,bC H H'->TL H' p l->aA ns=aA ms*aA l->l.length=ns.length-(ms.length-1)->Q (.ref p) H')) (_:(∀H',bC H H'->¬Dv (aA ms) (aA ns)->Q .jk H'))
theorem Ol{x y:Int}{A B C:Nat}(hx:x.natAbs<A)(hy:y.natAbs<B)(hA:A<=C)(hB:B<=C):(x-y).natAbs<C*2:=by refine bS (NS x y) ?_;generalize x.natAbs=u,y.natAbs=v at*;lia
inductive IvR (a b l p1:aH) (ns ms:List Int) (tp n:Nat) (i:Nat) (Z:L2.St) (H':Hp):Prop|mk (r fo:List Int) (v5 v6 v7 v8:Option V) (_:Z=[some (.ref a),some (.ref b),some (.ref l),some (.int tp),some (.ref p1),v5,v6,v7,v8]) (_:TL H' l r) (_:TL H' p1 fo) (_:r.length=ns.length) (_:fo.length=n) (_:aA r=aA ns-aA ms*aA fo) (_:Bz (8000+8001*i) r) (_:∀t,n-i+tp<=t->(aA r).c t=0) (_:(∀t,t<n-i->fo.getD t 0=0))
inductive IvS (a b l p1:aH) (ns ms r fo:List Int) (tp sh i:Nat) (c:Int) (j:Nat) (Z:L2.St) (H':Hp):Prop|mk (r':List Int) (v7 v8:Option V) (_:Z=[some (.ref a),some (.ref b),some (.ref l),some (.int tp),some (.ref p1),some (.int sh),some (.int c),v7,v8]) (_:TL H' l r') (_:TL H' p1 (fo.set sh c)) (_:r'.length=ns.length) (_:aA r'=aA r-ag.mono c sh*aA (ms.take j)) (_:Bz (8000+8001*(i+1)) r') (_:∀t,sh+j<=t->r'.getD t 0=r.getD t 0)
theorem Xd{f:aH}{fd:fY}(F:Fn K "quotient" 7 f fd)(T:Bt mg):dm P w K mg base je 1 f fd ["f","g"] (y8 K):=by
 refine lJ ["f","g","rest","top","found","shift","factor","k","coefficient"] F λH Q E S hr h=>?_;obtain⟨a,b,ns,ms,rfl,hl,hq,l1,l2,b2,b1,ht,hne,k,k0⟩:=h;have hmp:=bL.mpr hne;have Ds:ms.getD (ms.length-1) 0≠0:=by rw[fh hne];exact ht hne
 have abM:(ms.getD (ms.length-1) 0).natAbs<2^8000:=by rw[fh hne];exact b2 _ (cC hne)
 have P7:(ms.getD (ms.length-1) 0).natAbs.log2<9000:=by have:=(yF (n:=(ms.getD (ms.length-1) 0).natAbs) (k:=8000) ⋯).mpr abM;lia
 refine⟨_,(ak (eT 2 S (wt vE (by rfl) T.list kK (g7 (pv 0)))) (ak (eT 3 S (bW f6 (pL K T.len (pv 1)) aY)) (ak (eT 4 S (bW ez (db (g7 aY)) (jY (sT rfl) (by rfl) T.max Rz (io (bW f6 (pL K T.len (pv 0)) (pv 3)) aY)))) (ak (gM a9 rfl (BN (by rfl) T.range (cf (bW f6 (pL K T.len (pv 4)) aY) (io (ln jc aY) (ln jc aY)))) (my 5 S) (ak (fO (lI J_ (bW iK (rd K (pv 2) (bW fq (pv 5) (pv 3))) (rd K (pv 1) (pv 3))) aY) (aJ (bQ wr)) dg) (ak (eT 6 S (bW uV (rd K (pv 2) (bW fq (pv 5) (pv 3))) (rd K (pv 1) (pv 3)))) (ak (zh (pv 6) (zj (pv 4) (pv 5) set_list)) (aJ (gM a9 rfl (ny (by rfl) T.enumerate (g7 (pv 1))) (Nz (K:=K) (n:=2) rfl (eu (my 7 S) (eu (my 8 S) kU))) (aJ (uP (pv 2) (bW fq (pv 5) (pv 7)) (getL (K:=K)) (bW ez (pv 6) (pv 8)) zF set_list)))))))) (aJ (bQ (og (zf (jY (Um (K:=K) rfl) (by rfl) T.any boot_any (g7 (pv 2)))) wr (pv 4)))))))),?_⟩;ext;refine⟨_,.inl hl,λl hlf=>?_⟩;have s0:=aP (o:=HO.lst (ns.map V.int)) hlf;refine⟨_,s0.seq hq,∅,λp0 kd=>?_⟩;have s1:=s0.trans (aP (o:=HO.lst [V.int 0]) kd);refine⟨_,s1.seq hl,_,_,⟨rfl,rfl⟩,_,am,?_⟩;simp only[ab,ck,kt];have htop:(ms.length:Int)-1=((ms.length-1:Nat):Int):=⋯;rw[htop];generalize htp:ms.length-1=tp at*;generalize hd:(if(0:Int)>(ns.length:Int)-(tp:Int)then 0 else(ns.length:Int)-(tp:Int))=d;have hd2:=YV hd (show ns.length<=1000 by lia);clear hd;refine⟨hd2.2.1,hd2.2.2.1,by rw[hd2.1];exact hd2.2.2.2,λp1 rD=>?_⟩;rw[rep0,hd2.1];generalize hn:ns.length-tp=n at*;have hl1:l≠p1:=by rintro rfl;(have e:(cE (cE H l (HO.lst (ns.map V.int))) p0 (HO.lst [V.int 0])) l=some (HO.lst (ns.map V.int)):=by rw[aM (bB (show(cE H l (HO.lst (ns.map V.int))) l=some _ from am) kd)];exact am);rw[e]at rD;cases rD
 have hlH:H l=none:=hlf;have X7:H p1=none:=s1.free rD;have s2:=s1.trans (aP (o:=HO.lst ((aQ n (0:Int)).map V.int)) rD);have hTl:TL (cE (cE (cE H l (HO.lst (ns.map V.int))) p0 (HO.lst [V.int 0])) p1 (HO.lst ((aQ n (0:Int)).map V.int))) l ns:=by rw[TL,aM hl1,aM (bB (show(cE H l (HO.lst (ns.map V.int))) l=some _ from am) kd)];exact am
 refine yV (n:=n) (H1:=cE (cE (cE H l (HO.lst (ns.map V.int))) p0 (HO.lst [V.int 0])) p1 (HO.lst ((aQ n (0:Int)).map V.int))) ?_ ⋯ (λi Z H'=>bC H H'/\IvR a b l p1 ns ms tp n i Z H') ⟨s2,ns,aQ n 0,_,_,_,_,rfl,hTl,am,rfl,by simp,?_,by simpa using b1,?_,?_⟩ ?_ ?_;.intro R hR;ext;refine⟨_,cu.of am,?_⟩;simp only[ab,fZ];exact hR
 .rw[mr];grind
 .intro t ht;exact gn ns t ⋯
 .intro t _;simp only[aD,gz];split<;>rfl
 .rintro i Z H1 hi ⟨hs,r,fo,v5,v6,v7,v8,rfl,ve,hf1,hrl,hfl,hP,zK,tz,hz⟩ W hW;ext;generalize hsh:n-1-i=sh at*;have hni:sh+i+1=n:=⋯;have TN:n+tp=ns.length:=⋯;clear hsh hn hd2;have i5:((sh:Nat):Int)+((tp:Nat):Int)=((sh+tp:Nat):Int):=⋯;have hlt:sh+tp<r.length:=⋯;have afk:(aA r).Lt (sh+(ms.length-1)+1):=λt ht=>tz t ⋯;have hmi:tp<ms.length:=⋯;have hmt:DT (ms.map V.int) ((tp:Nat):Int)=some (.int (ms.getD tp 0)):=eJ hmi;rw[i5];refine⟨_,cu.of ve,_,eJ hlt,_,hs.seq hq,_,hmt,_,rfl,_,rfl,Ds,?_⟩;refine dA (λwy=>?_) (λwy=>?_);(·apply k0 H1 hs;rintro⟨h,hh⟩;(have e1:aA r=aA ms*(h-aA fo):=by rw[hP,hh];grind);obtain⟨_,e2⟩:=L_ ht hne afk e1;rw[htp]at e2;have e3:r.getD (sh+tp) 0=ms.getD tp 0*(h-aA fo).c sh:=e2;(have:(r.getD (sh+tp) 0).fmod (ms.getD tp 0)=0:=by rw[e3];exact Int.mul_fmod_right _ _);rw[this]at wy;simp at wy);(have ab2:(r.getD (sh+tp) 0).fmod (ms.getD tp 0)=0:=by simpa using wy);have agk:ms.getD tp 0∣r.getD (sh+tp) 0:=EA ab2;refine⟨_,cu.of ve,_,eJ hlt,_,hs.seq hq,_,hmt,_,rfl,_,rfl,⟨Ds,P7⟩,_,hf1,sh,mz (by rw[ab];lia),?_⟩;generalize hc:(r.getD (sh+tp) 0).fdiv (ms.getD tp 0)=c;(have Yt:r.getD (sh+tp) 0=ms.getD tp 0*c:=by obtain⟨y,hy⟩:=agk;rw[hy]at hc ⊢;rw[Ed _ Ds]at hc;rw[hc]);(have hrb:(r.getD (sh+tp) 0).natAbs<2^(8000+8001*i):=by simp only[aD,aa hlt];exact zK _ (ba hlt));(have ZI:c.natAbs<2^(8000+8001*i):=by rw[Yt,cP]at hrb;exact bS (rC _ (Bj.mpr Ds)) hrb);have agw:c.natAbs<Bi:=bh ZI (IZ ⋯);have FH:bC H (cE H1 p1 (HO.lst ((fo.map V.int).set sh (V.int c)))):=dn hs X7;(have PZ:TL (cE H1 p1 (HO.lst ((fo.map V.int).set sh (V.int c)))) l r:=by rw[TL,aM hl1];exact ve);(have Qg:TL (cE H1 p1 (HO.lst ((fo.map V.int).set sh (V.int c)))) p1 (fo.set sh c):=by rw[TL,am,iS]);refine k7 rfl (FH.seq hq) (λj Z H'=>bC H H'/\IvS a b l p1 ns ms r fo tp sh i c j Z H') ⟨FH,r,_,_,rfl,PZ,Qg,hrl,?_,?_,λ_ _=>rfl⟩ (λi Z H' _ h=>h.1.seq hq) ?_ ?_;(·rw[fI,fB];grind);(·intro x hx;exact bh (zK x hx) (bg ∅ ⋯));(·rintro j y Z H2 U hy ⟨hs2,r2,v7,v8,rfl,hp2,Yn,mJ,GX,Yv,hun⟩ hU W2 hW2;obtain⟨y,vV,rfl⟩:=wB hy;have hj:=(ax.mp vV).1;have Zo:=b2 y (a_ vV);have s3:=aP (o:=HO.tup [V.int (j:Nat),V.int y]) hU;refine⟨U,_,rfl,.inl (.inl am),rfl,_,_,rfl,_,_,rfl,rfl,?_⟩;ext;have Zu:((sh:Nat):Int)+((j:Nat):Int)=((sh+j:Nat):Int):=⋯;have um:sh+j<r2.length:=⋯;have ae3:y.natAbs<Bi:=bh Zo (IZ ∅);rw[Zu];refine⟨_,cu.of (s3 _ _ hp2),_,eJ um,kz agw ae3,_,rfl,_,s3 _ _ hp2,_,mz (by rw[ab];exact um),hW2 _ _ ⟨dn (hs2.trans s3) hlH,r2.set (sh+j) (r2.getD (sh+j) 0-c*y),_,_,rfl,?_,?_,by rw[ee];exact mJ,uJ vV um GX,?_,?_⟩⟩;(·rw[TL,am,iS]);(·rw[TL,aM hl1.symm];exact s3 _ _ Yn);(·intro x hx;rcases fX hx with h|h;(·exact Yv x h);rw[h,hun _ (aw _)];(have h1:(r.getD (sh+j) 0).natAbs<2^(8000+8001*i):=by simp only[aD,aa (show sh+j<r.length by lia)];exact zK _ (ba _));(have h2:(c*y).natAbs<2^(8000+8001*i)*2^8000:=by rw[cP];exact mT ZI Zo);(have h3:2^(8000+8001*(i+1))=2^(8000+8001*i)*2^8000*2:=by rw[<-iW,<-cv];congr 1<;>lia);have h4:2^(8000+8001*i)<=2^(8000+8001*i)*2^8000:=Nat.le_mul_of_pos_right _ (kr ∅);rw[h3];exact Ol h1 h2 h4 (aw _));intro t ht;rw[jw _ _ _ _ um,ah ⋯];exact hun t ⋯);rintro Z H2 ⟨hs2,r2,v7,v8,rfl,hp2,Yn,mJ,GX,Yv,hun⟩;rw[ab,bR]at GX;have hfz:fo.getD sh 0=0:=hz sh ⋯;refine hW _ _ ⟨hs2,r2,fo.set sh c,_,_,_,_,rfl,hp2,Yn,mJ,by rw[ee];exact hfl,?_,Yv,?_,?_⟩;(·rw[GX,hP,sF _ ⋯,hfz];have e:c-0=c:=⋯;rw[e];grind);(·intro t ht;obtain⟨u,rfl⟩:∃u,t=sh+u:=⟨t-sh,⋯⟩;rw[GX,ag.i8,qA];by_cases hu:tp=u;(·subst hu;have e1:(aA r).c (sh+tp)=r.getD (sh+tp) 0:=rfl;have e2:(aA ms).c tp=ms.getD tp 0:=rfl;rw[e1,e2,Yt];have:=gX (ms.getD tp 0) c;lia);rw[gn ms u ⋯,GP,Int.sub_zero];exact tz _ ⋯);intro t ht;rw[jw _ _ _ _ ⋯,ah ⋯];exact hz t ⋯
 rintro Z H1 ⟨hs,r,fo,v5,v6,v7,v8,rfl,ve,hf1,hrl,hfl,hP,zK,tz,hz⟩;ext;refine⟨l,r,rfl,cu.of ve,_,rfl,?_⟩;refine dA (λYy=>?_) (λYy=>?_);.apply k0 H1 hs;rintro⟨h,hh⟩;(have e1:aA r=aA ms*(h-aA fo):=by rw[hP,hh];grind);(have hr0:aA r=0:=by apply ae;intro hc;have h1:=ag.fm ⟨_,e1⟩ hc;have h2:(aA r).Lt tp:=λt ht=>tz t ⋯;have h3:=ag.dS h2;have h4:=bH.mp ht;lia);obtain⟨x,hx,tm⟩:=qt.mp Yy;have:=(nQ r (λc=>c=0) rfl).mpr (λi=>by rw[hr0,ag.dj]) x hx;rw[this]at tm;simp at tm
 refine k H1 p1 fo hs hf1 ?_ ⋯;have hr0:aA r=0:=by apply ag.ext;intro i;rw[ag.dj];refine(nQ r (λc=>c=0) rfl).mp (λx hx=>?_) i;apply ae;intro hc;apply Yy;exact qt.mpr ⟨x,hx,by simpa using hc⟩
 rw[hr0]at hP;grind
end
end
theorem N8{xs:List V}(hZ:Z[j]?=some (some (.ref a)))(hq:cu K H a xs)(hlen:xs.length<bn)(f:V->V)(wz:∀z,z∈xs->∀H' Q',bC H H'->(∀Ag,bC H' Ag->Q' (f z) Ag)->te ((Z.set v none).set v (some z)) H' Q')(hk:∀H' D,bC H H'->H D=none->H' D=some (.lst (xs.map f))->Q (.ref D) H'):JN (tN K (tV j)) (jl v) AN te [v] Z H Q:=by
 simp only[pN];refine⟨_,hZ,a,rfl,⟨_,hq⟩,λD hD=>yr (λi H'=>bC H H'/\H' D=some (.lst ((xs.take i).map f))) ⟨aP hD,am⟩ (λi H' _ h=>h.1.seq hq) ?_ ?_⟩;.rintro i x H1 hx ⟨hs,hd⟩;refine⟨?_,?_⟩;(·rw[gZ,gZ,iR,iR]);show te (oy (gk Z [v]) v (some x)) H1 _;rw[gZ];refine wz x (a_ hx) H1 _ hs λH2 h2=>⟨_,h2 _ _ hd,?_,?_,?_⟩;(·rw[ab,da];lia);(·exact dn (hs.trans h2) hD);rw[am];obtain⟨hi,rfl⟩:=ax.mp hx;rw[aW hi,aF];rfl
 rintro H1 ⟨hs,hd⟩;rw[bR]at hd;exact hk H1 D hs hD hd
theorem Bz.mono(h:Bz n l)(e:n<=m):Bz m l:=λx hx=>bh (h x hx) (bg ∅ e)
theorem Fo(h:x∈aN l):x∈l:=by
 apply ae;intro hc;obtain⟨i,hi,e⟩:=cO.mp h;have h1:(aA (aN l)).c i=(aA l).c i:=by rw[cQ]
 have h2:(aA (aN l)).c i=x:=by show(aN l).getD i 0=x;simp only[aD,aa hi];exact e
 have h3:i<l.length:=by have:=iD l;lia
 have h4:(aA l).c i=l[i]:=by show l.getD i 0=l[i];simp only[aD,aa h3];rfl
 rw[h2,h4]at h1;exact hc (h1 ▸ ba h3)
theorem Bz.trim(h:Bz n l):Bz n (aN l):=λx hx=>h x (Fo hx)
theorem nH(c:Int)(l:List Int):aA (l.map λx=>c*x)=ag.C c*aA l:=by apply ag.ext;intro i;rw[ag.cA];show(l.map λx=>c*x).getD i 0=c*l.getD i 0;simp only[aD,aE];cases l[i]?<;>simp
inductive aaf (K:ai) (vs:List V) (H:Hp) (Q:VK) (E:XK):Prop|mk (a b) (ns ms) (n m) (_:vs=[.ref a,.ref b]) (_:IL K H a ns) (_:IL K H b ms) (_:ns.length<=100) (_:ms.length<=100) (_:fc ns) (_:fc ms) (_:ms≠[]) (_:Bz n ns) (_:Bz m ms) (_:n+102*(m+1)<=1000000) (_:∀H' p l k q,bC H H'->IL K H' p l->fc l->l.length<ms.length->k<=ns.length+1-ms.length->Bz (n+k*(m+1)) l->ag.C ((aA ms).aT^k)*aA ns=q*aA ms+aA l->Q (.ref p) H')
inductive IvT (K:ai) (a b:aH) (ns ms:List Int) (n m:Nat) (g:Int) (N:Nat) (Z:L2.St) (H':Hp):Prop|mk (pr:aH) (r:List Int) (kk:Nat) (q:ag Int) (v3 v4 v5 v6:Option V) (_:Z=[some (.ref a),some (.ref b),some (.ref pr),v3,v4,v5,v6]) (_:N=r.length) (_:IL K H' pr r) (_:fc r) (_:kk+r.length<=ns.length) (_:kk<=ns.length+1-ms.length) (_:Bz (n+kk*(m+1)) r) (_:ag.C (g^kk)*aA ns=q*aA ms+aA r)
inductive IvU (a b D:aH) (ms r:List Int) (g ft:Int) (sh B m:Nat) (j:Nat) (Z:L2.St) (H':Hp):Prop|mk (r':List Int) (v5 v6:Option V) (_:Z=[some (.ref a),some (.ref b),some (.ref D),some (.int ft),some (.int sh),v5,v6]) (_:TL H' D r') (_:r'.length=r.length) (_:aA r'=ag.C g*aA r-ag.mono ft sh*aA (ms.take j)) (_:Bz (B+m+1) r') (_:∀t,sh+j<=t->r'.getD t 0=g*r.getD t 0)
theorem aba(F:Fn K "scaled_rest" 8 f fd)(T:Bt mg)(mn:ij P w K mg base "trimmed" 1 (CW K)):dm P w K mg base je 2 f fd ["f","g"] (aaf K):=by
 refine lJ ["f","g","rest","first","shift","k","coefficient"] F λH Q E S hr h=>?_;obtain⟨a,b,ns,ms,n,m,rfl,hl,hq,l1,l2,XU,XT,hne,b1,b2,hsz,k⟩:=h;have hmp:=bL.mpr hne;have fV:(aA ms).aT=ms.getLast hne:=by have:=bH.mp XT;unfold ag.aT;rw[this,fb,fh hne]
 generalize hg:ms.getLast hne=g at*;have hgm:g∈ms:=by rw[<-hg];exact cC hne
 have hgb:=b2 g hgm;have b6:∀{x:Int} {e:Nat},e<=1000000->x.natAbs<2^e->x.natAbs<Bi:=λhe hx=>bh hx (IZ he);refine⟨_,(ak (eT 2 S (pv 0)) (ak (gp a9 (lI Ka (pL K T.len (pv 2)) (pL K T.len (pv 1))) (ak (eT 3 S (rd K (pv 2) (ln jc aY))) (ak (eT 4 S (bW f6 (pL K T.len (pv 2)) (pL K T.len (pv 1)))) (ak (W4 2 [("coefficient",6)] S (Ax (K:=K) (pv 2)) (my 6 S) iH (bW ez (rd K (pv 1) (ln jc aY)) (pv 6))) (ak (gM a9 rfl (ny (by rfl) T.enumerate (g7 (pv 1))) (Nz (K:=K) (n:=2) rfl (eu (my 5 S) (eu (my 6 S) kU))) (aJ (uP (pv 2) (bW fq (pv 4) (pv 5)) (getL (K:=K)) (bW ez (pv 3) (pv 6)) zF set_list))) (aJ (eT 2 S (pU mn hr (g7 (pv 2)))))))))) (aJ (bQ (pv 2))))),?_⟩;ext;refine⟨λN Z H'=>bC H H'/\IvT K a b ns ms n m g N Z H',⟨_,bC.refl _,a,ns,0,0,none,none,none,none,rfl,rfl,hl,XU,⋯,⋯,by rw[Nat.zero_mul];exact b1,?_⟩,?_⟩;.rw[GN,ag.eC];grind
 rintro N Z H1 ⟨hs,pr,r,kk,q,v3,v4,v5,v6,rfl,rfl,ve,qE,hk1,hk2,zK,hP⟩;ext;refine⟨_,ve,_,hs.seq hq,?_⟩;simp only[ab];refine dA (λTX=>?_) (λhlt=>?_);.have alv:ms.length<=r.length:=⋯;(have tu:r≠[]:=λe=>by have:=dG.mpr e;lia);refine oQ λN hN=>⟨_,ve,_,km tu,_,ve,_,hs.seq hq,?_⟩;simp only[ab];have hsh:(r.length:Int)-(ms.length:Int)=((r.length-ms.length:Nat):Int):=⋯;rw[hsh];generalize akz:r.length-ms.length=sh;generalize hft:r.getLast tu=ft;(have agd:ft∈r:=by rw[<-hft];exact cC tu);have alf:kk*(m+1)<=100*(m+1):=bu _ ⋯;have hB:n+kk*(m+1)<=1000000:=⋯;(have hB2:n+(kk+1)*(m+1)=n+kk*(m+1)+m+1:=by rw[jz];lia);generalize hBB:n+kk*(m+1)=B at*;have acd:=zK ft agd;refine N8 rfl ve (by rw[ab];exact bT ⋯) (L4 λy=>.int (g*y)) ?_ ?_;(·intro y hy H2 Q' h2 k2;obtain⟨y,hy,rfl⟩:=ao.mp hy;ext;refine⟨_,(hs.trans h2).seq hq,.int g,by rw[km hne,hg],.inl ⟨g,rfl,kz (b6 ⋯ hgb) (b6 hB (zK y (by assumption))),k2 H2 (bC.refl _)⟩⟩);intro H2 D h2 hDf hD;have hDH:=hs.free hDf;(have YA:TL H2 D (r.map λx=>g*x):=by rw[TL,hD,be,be];rfl);refine k7 rfl ((hs.trans h2).seq hq) (λj Z H'=>bC H H'/\IvU a b D ms r g ft sh B m j Z H') ⟨hs.trans h2,_,_,_,rfl,YA,by rw[ab],?_,?_,?_⟩ (λi Z H' _ h=>h.1.seq hq) ?_ ?_;(·rw[fI,fB,nH];grind);(·intro x hx;obtain⟨y,hy,rfl⟩:=ao.mp hx;rw[cP];have h3:=mT hgb (zK y hy);refine bh h3 ?_;rw[<-iW];exact bg ∅ ⋯);(·intro t _;simp only[aD,aE];cases r[t]?<;>simp);(·rintro j y Z H3 U hy ⟨NA,r3,v5,v6,rfl,AY,hlen3,hP3,Yu,hun⟩ hU W hW;obtain⟨y,vV,rfl⟩:=wB hy;have hj:=(ax.mp vV).1;have Zo:=b2 y (a_ vV);have s3:=aP (o:=HO.tup [V.int (j:Nat),V.int y]) hU;refine⟨U,_,rfl,.inl (.inl am),rfl,_,_,rfl,_,_,rfl,rfl,?_⟩;ext;have Zu:((sh:Nat):Int)+((j:Nat):Int)=((sh+j:Nat):Int):=⋯;have um:sh+j<r3.length:=⋯;rw[Zu];refine⟨_,cu.of (s3 _ _ AY),_,eJ um,kz (b6 hB acd) (b6 ⋯ Zo),_,rfl,_,s3 _ _ AY,_,mz (by rw[ab];exact um),hW _ _ ⟨dn (NA.trans s3) hDH,r3.set (sh+j) (r3.getD (sh+j) 0-ft*y),_,_,rfl,?_,by rw[ee];exact hlen3,uJ vV um hP3,?_,?_⟩⟩;(·rw[TL,am,iS]);(·intro x hx;rcases fX hx with h|h;(·exact Yu x h);rw[h,hun _ (aw _)];(have h1:(r.getD (sh+j) 0).natAbs<2^B:=by simp only[aD,aa (show sh+j<r.length by lia)];exact zK _ (ba _));(have h2:(ft*y).natAbs<2^B*2^m:=by rw[cP];exact mT acd Zo);(have h4:(g*r.getD (sh+j) 0).natAbs<2^m*2^B:=by rw[cP];exact mT hgb h1);(have h3:2^(B+m+1)=2^B*2^m*2:=by rw[<-iW,<-cv]);rw[du]at h4;rw[h3];exact Ol h4 h2 (aw _) (aw _));intro t ht;rw[jw _ _ _ _ um,ah ⋯];exact hun t ⋯);rintro Z H3 ⟨NA,r3,v5,v6,rfl,AY,hlen3,hP3,Yu,hun⟩;rw[ab,bR]at hP3;ext;refine⟨D,r3,rfl,cu.of AY,λH4 p4 s4 Vt=>?_⟩;(have PN:(aA r3).c (r.length-1)=0:=by have e0:r.length-1=sh+(ms.length-1):=⋯;rw[hP3,e0,ag.i8,qA,ag.cA];(have e1:(aA ms).c (ms.length-1)=g:=by rw[fb,fh hne];exact hg);(have e2:(aA r).c (sh+(ms.length-1))=ft:=by rw[<-e0,fb,fh tu];exact hft);rw[e1,e2,gX];lia);(have Vx:(aN r3).length<r.length:=by rw[mH];(have:(aA r3).Lt (r.length-1):=λt ht=>by by_cases e:t=r.length-1;(·rw[e];exact PN);exact gn r3 t ⋯);have:=ag.dS this;lia);refine hN _ _ _ Vx ⟨NA.trans s4,p4,_,kk+1,ag.C g*q+ag.mono ft sh,_,_,_,_,rfl,rfl,cu.of Vt,fU _,⋯,⋯,?_,?_⟩;(·rw[hB2];exact Yu.trim);rw[cQ,hP3,Int.pow_succ,ag.dw];have:=hP;grind
 exact k H1 pr r kk q hs ve qE ⋯ hk2 zK (by rw[fV];exact hP)
theorem Bz.c(h:Bz n l)(i:Nat):((aA l).c i).natAbs<2^n:=by
 by_cases hi:i<l.length;·(have:(aA l).c i=l[i]:=by show l.getD i 0=l[i];simp only[aD,aa hi];rfl);rw[this];exact h _ (ba hi)
 rw[gn l i ⋯];exact kr ∅
theorem Bz.abr(h:∀i,((aA l).c i).natAbs<2^n):Bz n l:=by
 intro x hx;obtain⟨i,hi,e⟩:=cO.mp hx;have:(aA l).c i=l[i]:=by show l.getD i 0=l[i];simp only[aD,aa hi];rfl
 rw[<-e,<-this];exact h i
theorem norm_le(h:∀i,(f.c i).natAbs<b)(n:Nat):ag.eG f n<=((n*b:Nat):Int):=by
 induction n with
  |zero=>exact Int.le_of_eq (by simp[ag.eG,bZ])
  |succ n ih=>have h1:ag.eG f (n+1)=ag.eG f n+((f.c n).natAbs:Int):=bE _ _;have h2:=h n;rw[h1,jz];lia
theorem oS(ht:fc l)(hne:l≠[])(h:Bz n l)(hn:n<9000):(aB l).log2<9000:=by
 have vf:=ht hne;have tz:=(gQ (d:=aB l)).mp (gv _) _ (cC hne);have hle:aB l<=(l.getLast hne).natAbs:=by have:=Hj.mpr tz;exact eQ ⋯ (by simpa using this)
 have h1:=h _ (cC hne);by_cases h0:aB l=0;.rw[h0];decide
 have:=(yF (n:=aB l) (k:=n) h0).mpr ⋯;lia
theorem md{x:Int}(h:x≠0)(n:Nat):x^n≠0:=by
 induction n with
  |zero=>rw[GN];decide
  |succ n ih=>rw[Int.pow_succ];exact cF ih h
noncomputable def Wb(x:Nat):Nat:=43*(36-2*x)+1
theorem NZ(h:x<=17):36<=Wb x:=by unfold Wb;lia
theorem JH(h:x<=y):Wb y<=Wb x:=Nat.succ_le_succ (di 43 (Nat.sub_le_sub_left (di 2 h) 36))
theorem VY:∀x,x<=17->∀k,k<=x->Wb x+k*(Wb x+1)<9000:=by decide+kernel
theorem Sc:Wb x+102*(Wb x+1)<=1000000:=by have:Wb x<=1549:=JH (bX x);lia
theorem WQ{ns ms la lr:List Int}{U V U' V':ag Int}{a b d:Int}(l1:ns.length<=17)(l2:ms.length<=17)(t1:fc ns)(t2:fc ms)(ta:fc la)(b1:Bz 36 ns)(b2:Bz 36 ms)(h:ag.xy (aA ns) (aA ms) (aA la) (aA lr) U V U' V' a b d)(hp:lr≠[]->(aA lr).e9):Bz (Wb la.length) lr:=by
 by_cases he:lr=[];.rw[he];intro x hx;cases hx
 have z1:=bH.mp t1;have z2:=bH.mp t2;have z3:=bH.mp ta;have n1:=norm_le b1.c (aA ns).size;have n2:=norm_le b2.c (aA ms).size;rw[z1]at n1;rw[z2]at n2;have key:=h.small (hp he) (N:=34*2^36) (by rw[z1,z2];lia);apply Bz.abr;intro i;have k1:=key i;have k2:(2*(34*2^36)+1)^((aA ns).size+(aA ms).size+2-2*(aA la).size)<=(2^43)^(36-2*la.length):=br (nX ∅ _) (bg ∅ (by rw[z1,z2,z3];exact Nat.sub_le_sub_right ⋯ _));rw[<-Nat.pow_mul]at k2;have k3:(2:Nat)^(43*(36-2*la.length))<2^Wb la.length:=dU ∅ (by unfold Wb;lia);lia
inductive Wh (K:ai) (vs:List V) (H:Hp) (Q:VK) (E:XK):Prop|mk (a b) (ns ms) (_:vs=[.ref a,.ref b]) (_:IL K H a ns) (_:IL K H b ms) (_:ns.length<=17) (_:ms.length<=17) (_:fc ns) (_:fc ms) (_:(ns≠[]\/ms≠[])) (_:Bz 36 ns) (_:Bz 36 ms) (_:∀H' p l,bC H H'->TL H' p l->fc l->Af (aA l) (aA ns) (aA ms)->Q (.ref p) H')
inductive IvC (K:ai) (a b:aH) (ns ms:List Int) (N:Nat) (Z:L2.St) (H':Hp):Prop|mk (pa pb:aH) (la lb:List Int) (v4:Option V) (_:Z=[some (.ref a),some (.ref b),some (.ref pa),some (.ref pb),v4]) (_:N=lb.length) (_:IL K H' pa la) (_:IL K H' pb lb) (_:fc la) (_:fc lb) (_:la.length<=17) (_:lb.length<=17) (_:la≠[]\/lb≠[]) (_:∀D,Af D (aA la) (aA lb)->Af D (aA ns) (aA ms)) (_:Bz (Wb la.length) la) (_:((la=ns/\lb=ms)\/(la=ms/\Bz 36 lb/\ns.length<ms.length/\∃t:Int,t≠0/\aA ns=ag.C t*aA lb)\/(Bz (Wb la.length) lb/\∃U V U' V' x y z,ag.xy (aA ns) (aA ms) (aA la) (aA lb) U V U' V' x y z)))
theorem abe(F:Fn K "primitive_common" 9 f fd)(T:Bt mg)(A9:ij P w K mg base "scaled_rest" 2 (aaf K))(lv:ij P w K mg base "primitive" 3 (CZ K)):dm P w K mg base je 4 f fd ["f","g"] (Wh K):=by
 refine lJ ["f","g","above","below","rest"] F λH Q E S hr h=>?_;obtain⟨a,b,ns,ms,rfl,hl,hq,l1,l2,t1,t2,hnz,b1,b2,k⟩:=h;have z1:=bH.mp t1;have z2:=bH.mp t2;refine⟨_,(ak (eT 2 S (pv 0)) (ak (eT 3 S (pv 1)) (ak (gp a9 (lI rY (pL K T.len (pv 3)) aY) (ak (eT 4 S (pU A9 hr (io (pv 2) (pv 3)))) (ak (eT 2 S (pv 3)) (aJ (eT 3 S (og (lI rY (pL K T.len (pv 4)) aY) (pU lv hr (g7 (pv 4))) (pv 4))))))) (aJ (bQ (pU lv hr (g7 (pv 2)))))))),?_⟩;ext;refine⟨λN Z H'=>bC H H'/\IvC K a b ns ms N Z H',⟨_,bC.refl _,a,b,ns,ms,none,rfl,rfl,hl,hq,t1,t2,l1,l2,hnz,λ_ h=>h,b1.mono (NZ l1),.inl ⟨rfl,rfl⟩⟩,?_⟩;rintro N Z H1 ⟨hs,pa,pb,la,lb,v4,rfl,rfl,ha1,rE,ta,tb,aeZ,Tt,hnn,hG,hba,hph⟩;ext;refine⟨_,rE,?_⟩;simp only[ab];refine dA (λAX=>?_) (λhz=>?_);·(have KA:lb≠[]:=λe=>by rw[e]at AX;simp at AX);have za:=bH.mp ta;have zb:=bH.mp tb;(obtain⟨nb,mb,hnb,hmb,iV,P5⟩:∃nb mb,Bz nb la/\Bz mb lb/\(∀k,k<=la.length+1-lb.length->nb+k*(mb+1)<9000)/\nb+102*(mb+1)<=1000000:=by rcases hph with⟨rfl,rfl⟩|⟨rfl,h2,_⟩|⟨h2,_⟩;(·exact⟨36,36,b1,b2,λk hk=>by lia,∅⟩);(·exact⟨36,36,b2,h2,λk hk=>by lia,∅⟩);exact⟨_,_,hba,h2,λk hk=>VY _ aeZ k ⋯,Sc⟩);refine oQ λN hN=>⟨pa,pb,la,lb,nb,mb,rfl,ha1,rE,⋯,⋯,ta,tb,KA,hnb,hmb,P5,λH2 pr lr kk q s2 PZ tr hlr hkk hbr he=>?_⟩;(have fV:(aA lb).aT^kk≠0:=by have h1:=ag.fS (λe=>KA ((bP tb).mp e));exact md h1 kk);(have My:Bz (Wb lb.length) lb:=by rcases hph with⟨_,rfl⟩|⟨_,h2,_⟩|⟨h2,U,V,U',V',x,y,z,h3⟩;(·exact b2.mono (NZ Tt));(·exact h2.mono (NZ Tt));refine h2.mono (JH ?_);have:=h3.lt;lia);(have step:∀sg lR,sg≠0->aA lr=ag.C sg*aA lR->fc lR->(lR≠[]->(aA lR).e9)->lR.length<lb.length->(∀D,Af D (aA lb) (aA lR)->Af D (aA ns) (aA ms))/\((lb=ns/\lR=ms)\/(lb=ms/\Bz 36 lR/\ns.length<ms.length/\∃t,t≠0/\aA ns=ag.C t*aA lR)\/(Bz (Wb lb.length) lR/\∃U V U' V' x y z,ag.xy (aA ns) (aA ms) (aA lb) (aA lR) U V U' V' x y z)):=by intro sg lR GS e1 tR hpR hlR;rw[e1]at he;have zR:=bH.mp tR;refine⟨λD hD=>hG D (Af.back fV GS he hD),?_⟩;have fin:∀{U V U' V':ag Int} {x y z:Int},ag.xy (aA ns) (aA ms) (aA lb) (aA lR) U V U' V' x y z->(Bz (Wb lb.length) lR/\∃U V U' V' x y z,ag.xy (aA ns) (aA ms) (aA lb) (aA lR) U V U' V' x y z):=λh=>⟨WQ l1 l2 t1 t2 tb b1 b2 h hpR,_,_,_,_,_,_,_,h⟩;rcases hph with⟨ea,eb⟩|⟨ea,h2,h4,t,ht,h5⟩|⟨h2,U,V,U',V',x,y,z,h3⟩;(·subst ea;subst eb;have RT:aA lb≠0:=ag.aS.mp ⋯;by_cases hc:lb.length<=la.length;(·exact .inr (.inr (fin (ag.xy.start (l:=(aA lb).aT^kk) (q:=q) (s:=sg) (ag.aS.mp ⋯) RT fV GS ⋯ he ⋯))));have hk0:kk=0:=⋯;subst hk0;rw[GN,ag.eC,show(1:ag Int)*aA la=aA la by grind]at he;(have nS:q=0:=by apply ae;intro nS;have h1:=ag.bM nS RT;(have h2:q*aA lb=aA la-aA lr:=by rw[he,e1];grind);have h3:=ag.w6 (aA la) (aA lr);rw[<-h2]at h3;have h4:=ag.dS (gn lr);have h5:=ag.aS.mpr nS;lia);(have he2:aA la=ag.C sg*aA lR:=by rw[he,nS];grind);refine .inr (.inl ⟨rfl,Bz.abr λi=>?_,⋯,sg,GS,he2⟩);have h1:=b1.c i;rw[he2,ag.cA,cP]at h1;have h2:((aA lR).c i).natAbs<=sg.natAbs*((aA lR).c i).natAbs:=rC _ ⋯;lia);(·subst ea;have RT:aA lb≠0:=ag.aS.mp ⋯;(have hF0:aA ns≠0:=by rw[h5];exact iC.jm (ag.MJ ht) RT);exact .inr (.inr (fin (ag.xy.Wc (l:=(aA lb).aT^kk) (q:=q) (s:=sg) hF0 ht fV GS h5 ⋯ he ⋯))));exact .inr (.inr (fin (h3.next fV GS he ⋯))));refine⟨pr,rfl,_,PZ,?_⟩;simp only[ab];refine dA (λX1=>?_) (λhr0=>?_);(·(have tu:lr≠[]:=λe=>by rw[e]at X1;simp at X1);have hr0:aA lr≠0:=λe=>tu ((bP tr).mp e);refine⟨pr,lr,rfl,PZ,tr,tu,oS tr tu hbr (iV kk hkk),bT ⋯,λH3 p3 s3 AY=>?_⟩;obtain⟨c,hc,T0,Dt,hld,htp,_⟩:=eh hr0;have hsz:=jD lr;rw[bH.mp htp,bH.mp tr]at hsz;obtain⟨g1,g2⟩:=step c (aV lr) hc T0 htp (λ_=>Dt) ⋯;exact hN _ _ _ ⋯ ⟨hs.trans (s2.trans s3),pb,p3,lb,aV lr,_,rfl,rfl,(s2.trans s3).seq rE,cu.of AY,tb,htp,Tt,⋯,.inl KA,g1,My,g2⟩);(have hre:lr=[]:=by apply dG.mp;lia);subst hre;obtain⟨g1,g2⟩:=step 1 [] ∅ (by rw[ag.eC];grind) tr (λh=>ap rfl h) hlr;exact hN _ _ _ hlr ⟨hs.trans s2,pb,pr,lb,[],_,rfl,rfl,s2.seq rE,PZ,tb,tr,Tt,⋯,.inl KA,g1,My,g2⟩
 have Ix:lb=[]:=by apply dG.mp;lia
 subst Ix;have Qn:la≠[]:=by rcases hnn with h|h;(·exact h);exact ap rfl h
 have vX:aA la≠0:=λe=>Qn ((bP ta).mp e);have hwb:Wb la.length<9000:=by unfold Wb;lia
 refine⟨pa,la,rfl,ha1,ta,Qn,oS ta Qn hba hwb,bT ⋯,λH3 p3 s3 AY=>?_⟩;obtain⟨c,hc,T0,Dt,hld,htp,_⟩:=eh vX;refine k H3 p3 _ (hs.trans s3) AY htp (hG _ ⟨Dt,hld,⟨ag.C c,by rw[T0];grind⟩,?_,c,1,0,hc,by rw[T0];grind⟩);rw[fB];exact Dv.zero _
theorem mK(x:Int){m:Nat}(h:0<m):x.fmod (m:Int)=x%(m:Int):=dL _ ⋯
theorem yO:(2:Int).natAbs<Bi:=bh (show 2<2^2 by decide) (IZ ∅)
inductive U9 (vs:List V) (H:Hp) (Q:VK) (E:XK):Prop|mk (n:Nat) (_:vs=[.int n]) (_:2<=n) (_:n<2^60) (_:∀H' b,bC H H'->(b=true↔Pr n)->Q (.bl b) H')
theorem Xi(F:Fn K "is_prime" 39 f fd)(T:Bt mg):dm P w K mg base je 1 f fd ["number"] U9:=by
 refine lJ ["number","divisor"] F λH Q E S hr h=>?_;obtain⟨n,rfl,h2,hb,k⟩:=h;refine⟨_,(ak (eT 1 S aY) (ak (gp a9 (lI O7 (bW ez (pv 1) (pv 1)) (pv 0)) (ak (fO (lI iL (bW iK (pv 0) (pv 1)) aY) (aJ (bQ O2)) dg) (aJ (W5 1 S aY nc)))) (aJ (bQ O2)))),?_⟩;ext;refine⟨λN Z H'=>H'=H/\∃d:Nat,Z=[some (.int n),some (.int d)]/\N=n-d/\2<=d/\d<=n/\∀e,2<=e->e<d->¬e∣n,⟨_,rfl,2,rfl,rfl,aw _,h2,λe h1 h2=>by lia⟩,?_⟩;rintro N Z H1 ⟨rfl,d,rfl,rfl,hd2,hdn,uE⟩;ext;have acm:(d:Int).natAbs<Bi:=by have:(2:Nat)^60<Bi:=pd ∅;lia
 refine⟨kz acm acm,?_⟩;have Qi:(d:Int)*(d:Int)=((d*d:Nat):Int):=by rw[cg]
 rw[Qi];refine dA (λhle=>?_) (λhgt=>?_);.have alb:d*d<=n:=⋯;refine⟨_,λ_ _ h=>h,⋯,?_⟩;rw[mK _ ⋯];have hm:(n:Int)%(d:Int)=((n%d:Nat):Int):=rfl;rw[hm];refine dA (λhz=>?_) (λhz=>?_);(·(have Il:n%d=0:=by lia);refine k H1 false (bC.refl _) ⟨λh=>(by cases h),λhp=>?_⟩;rcases hp.2 d (GF Il)with e|e;(·lia);subst e;have:=di d hd2;lia);(have Il:n%d≠0:=by intro e;apply hz;rw[e];rfl);(have hlt:d<n:=by have:=di d hd2;lia);refine⟨n-(d+1),⋯,rfl,d+1,rfl,rfl,⋯,⋯,λe h1 h3=>?_⟩;by_cases he:e=d;(·subst he;exact λhd=>Il (GD hd));exact uE e h1 ⋯
 refine k H1 true (bC.refl _) ⟨λ_=>⟨h2,λe he=>?_⟩,λ_=>rfl⟩;apply ae;intro hc;obtain⟨y,hy⟩:=he;have VB:e≠0:=by intro h;rw[h]at hy;lia
 have Mj:y≠0:=by intro h;rw[h]at hy;lia
 have Zq:y≠1:=by intro h;rw[h]at hy;lia
 rcases Nat.lt_or_ge e d with h|h;.exact uE e ⋯ h ⟨y,hy⟩
 rcases Nat.lt_or_ge y d with h'|h';.exact uE y ⋯ h' ⟨e,by rw[hy,du]⟩
 have:=dJ h h';lia
noncomputable def near(x:Int)(m:Nat):Int:=if 2*(x%(m:Int))>m then x%(m:Int)-m else x%(m:Int)
inductive HG (vs:List V) (H:Hp) (Q:VK) (E:XK):Prop|mk (x:Int) (m:Nat) (_:vs=[.int x,.int m]) (_:0<m) (_:m<2^100000) (_:∀H',bC H H'->Q (.int (near x m)) H')
theorem S6{f:aH}{fd:fY}(F:Fn K "nearest" 43 f fd)(T:Bt mg):dm P w K mg base je 1 f fd ["number","modulus"] HG:=by
 refine lJ ["number","modulus","rest"] F λH Q E S hr h=>?_;obtain⟨x,m,rfl,hm,hb,k⟩:=h;refine⟨_,(ak (eT 2 S (bW iK (pv 0) (pv 1))) (aJ (bQ (og (lI rY (bW ez aY (pv 2)) (pv 1)) (bW f6 (pv 2) (pv 1)) (pv 2))))),?_⟩;ext;have h1:=dr x (show(m:Int)≠0 by lia);have h2:=cW x (show(0:Int)<m by lia);have h3:(2:Nat)^100000<=Bi:=IZ ∅;refine⟨⋯,?_⟩;rw[mK _ hm];refine⟨kz yO ⋯,?_⟩;have k':=k H (bC.refl _);unfold near at k';refine dA (λh=>?_) (λh=>?_);.rwa[aj h]at k'
 rwa[ah h]at k'
noncomputable def xM(l:List Int):Nat:=2^(l.length-1)*(l.map oC).sum
inductive Oy (K:ai) (vs:List V) (H:Hp) (Q:VK) (E:XK):Prop|mk (a) (ns) (_:vs=[.ref a]) (_:IL K H a ns) (_:ns.length<=100) (_:ns≠[]) (_:xM ns<2^100000) (_:∀H',bC H H'->Q (.int (xM ns)) H')
theorem ye(l:List Int):(l.map λx=>if x<0 then-x else x).sum=(((l.map oC).sum:Nat):Int):=by
 induction l with
  |nil=>rfl
  |cons x l ih=>rw[aR,mW,ih,aR,mW];split<;>lia
theorem Tc(F:Fn K "coefficient_limit" 42 f fd)(T:Bt mg):dm P w K mg base je 1 f fd ["f"] (Oy K):=by
 refine lJ ["f","limit","turn","coefficient"] F λH Q E S hr h=>?_;obtain⟨a,ns,rfl,hl,l1,hne,hb,k⟩:=h;have hp:=bL.mpr hne;refine⟨_,(ak (eT 1 S (jY (ahe (K:=K) rfl) (by rfl) T.sum boot_sum (g7 (O5 [("coefficient",3)] S (Ax (K:=K) (pv 0)) (my 3 S) iH (jY vF (by rfl) T.abs RA (g7 (pv 3))))))) (ak (gM a9 rfl (nL (by rfl) T.range (g7 (bW f6 (pL K T.len (pv 0)) aY))) (my 2 S) (aJ (eT 1 S (bW ez aY (pv 1))))) (aJ (bQ (pv 1))))),?_⟩;ext;refine nw rfl hl (by rw[ab];exact bT ⋯) (L4 λy=>.int (if y<0 then-y else y)) ?_ ?_;.intro y hy H2 Q' h2 k2;obtain⟨y,hy,rfl⟩:=ao.mp hy;ext;exact k2 H2 (bC.refl _)
 intro H2 D h2 hD;refine⟨D,ns.map (λx=>if x<0 then-x else x),rfl,cu.of ?_,?_⟩;.rw[hD,be,be];rfl
 rw[ye];generalize hs:(ns.map oC).sum=s0 at*;refine mI (n:=(ns.length:Int)-1) (H1:=H2) ?_ ⋯ ⋯ (λi Z H'=>bC H H'/\∃v,Z=[some (.ref a),some (.int ((2^i*s0:Nat):Int)),v,none]) ⟨h2,none,by rw[gu,kt]⟩ ?_ ?_;.intro R hR;ext;refine⟨_,h2.seq hl,?_⟩;simp only[ab];exact hR
 .rintro i Z H3 hi ⟨NA,v,rfl⟩ W hW;ext;(have hle:2^i*s0<=xM ns:=by unfold xM;rw[hs];exact bu _ (bg ∅ ⋯));have h3:(2:Nat)^100000<=Bi:=IZ ∅;refine⟨kz yO ⋯,hW _ _ ⟨NA,some (.int (i:Int)),?_⟩⟩;rw[show 2^(i+1)*s0=2*(2^i*s0) by rw[cv,du (2^i),jL],cg];rfl
 rintro Z H3 ⟨NA,v,rfl⟩;ext;have e:((ns.length:Int)-1).toNat=ns.length-1:=⋯;rw[e,<-hs];exact k H3 NA
theorem JL(ns:List Int):aA ((ns.mapIdx λi c=>(i:Int)*c).drop 1)=ag.fz (aA ns):=by apply ag.ext;intro i;rw[ag.ol];show((ns.mapIdx λi c=>(i:Int)*c).drop 1).getD i 0=((i+1:Nat):Int)*ns.getD (i+1) 0;simp only[aD,Ln,Hi,jB 1 i];cases ns[i+1]?<;>simp
theorem H_{m:Nat}{l:List Int}(h:Mo l)(e:l.length=1):l=[1]:=by obtain⟨x,rfl⟩:=List.length_eq_one_iff.mp e;have:=h.2;simp at this;rw[this]
inductive Ou (K:ai) (vs:List V) (H:Hp) (Q:VK) (E:XK):Prop|mk (a:aH) (ns:List Int) (p:Nat) (_:vs=[.ref a,.int p]) (_:IL K H a ns) (_:Pr p) (_:p<2^60) (_:ns.length<=100) (_:fc ns) (_:ns≠[]) (_:∀H' b,bC H H'->(b=true↔(¬(p:Int)∣(aA ns).aT/\kC (az p ns) (ag.fz (az p ns))))->Q (.bl b) H')
theorem S9{f:aH}{fd:fY}(F:Fn K "keeps_apart" 40 f fd)(T:Bt mg)(om:ij P w K mg base "monic_common" 5 (HH K))(iB:ij P w K mg base "reduced" 2 (y6 K))(qP:ij P w K mg base "derivative" 1 (Ow K)):dm P w K mg base je 6 f fd ["f","prime"] (Ou K):=by
 refine lJ ["f","prime"] F λH Q E S hr h=>?_;obtain⟨a,ns,p,rfl,hl,hp,hb,l1,ht,hne,k⟩:=h;have hp2:=hp.1;have fV:(aA ns).aT=ns.getLast hne:=by have:=bH.mp ht;unfold ag.aT;rw[this,fb,fh hne]
 refine⟨_,(ak (fO (lI iL (bW iK (rd K (pv 0) (ln jc aY)) (pv 1)) aY) (aJ (bQ O2)) dg) (aJ (bQ (yo iL (pL K T.len (pU om hr (cf (pU iB hr (io (pv 0) (pv 1))) (io (pU iB hr (io (pU qP hr (g7 (pv 0))) (pv 1))) (pv 1))))) aY (zp _))))),?_⟩;ext;refine⟨_,hl,.int (ns.getLast hne),km hne,_,rfl,⋯,?_⟩;rw[mK _ ⋯];refine dA (λhz=>?_) (λhz=>?_);·(have Il:ns.getLast hne%(p:Int)=0:=by simpa using hz);refine k H false (bC.refl _) ⟨λh=>(by cases h),λh=>ap (Int.dvd_of_emod_eq_zero Il) (by rw[<-fV];exact h.1)⟩
 have Il:¬(p:Int)∣ns.getLast hne:=λe=>hz (by rw[qQ e]);refine⟨a,ns,p,rfl,hl,⋯,⋯,λH1 p1 s1 rD=>?_⟩;obtain⟨r1,e1⟩:=oJ (m:=p) ⋯ ns;have abB:=br (iD (ns.map λx=>x%(p:Int))) (by rw[ab];exact aw _);generalize aN (ns.map λx=>x%(p:Int))=la at*;refine⟨a,ns,rfl,s1.seq hl,⋯,trivial,λH2 p2 s2 hp2=>?_⟩;have e3:=JL ns;have abA:((ns.mapIdx λi c=>(i:Int)*c).drop 1).length<=ns.length:=by rw[ei,fe];lia
 generalize (ns.mapIdx λi c=>(i:Int)*c).drop 1=dl at*;refine⟨p2,dl,p,rfl,cu.of hp2,⋯,⋯,λH3 p3 s3 AY=>?_⟩;obtain⟨r2,e2⟩:=oJ (m:=p) ⋯ dl;have abz:=br (iD (dl.map λx=>x%(p:Int))) (by rw[ab];exact aw _);generalize aN (dl.map λx=>x%(p:Int))=lb at*;have Qn:la≠[]:=by intro e;rw[e,fB,ag.lL]at e1;have h1:=aK (λq=>q.c (ns.length-1)) e1;(have h2:((aA ns).map (Tk.red p)).c (ns.length-1)=(Tk.red p).f (ns.getLast hne):=by rw[ag.mM,fb,fh hne]);(have h3:(0:Zp p)=(Tk.red p).f (ns.getLast hne):=by rw[<-h2,<-h1,ag.dj]);clear h1;have h1:=h3;exact Il (gr.mp (cp.dh.mp (show cp.mk (p:Int) (ns.getLast hne)=0 from h1.symm)))
 refine⟨p1,p3,la,lb,p,rfl,(s2.trans s3).seq (cu.of rD),cu.of AY,hp,⋯,⋯,⋯,r1,r2,Qn,λH4 p4 l s4 Vt hr4 vW hG=>?_⟩;refine⟨p4,rfl,_,cu.of Vt,?_⟩;refine k H4 _ (((s1.trans s2).trans s3).trans s4) ?_;have f1:az p la=az p ns:=e1;have f2:az p lb=ag.fz (az p ns):=by have:az p lb=az p dl:=e2;rw[this];show(aA dl).map (Tk.red p)=ag.fz ((aA ns).map (Tk.red p));rw[e3,vv]
 rw[f1,f2]at hG;have mj:=cn hp;rw[fV];simp only[ab];constructor;.intro h;(have h1:l.length=1:=by(have:(l.length:Int)=1:=by simpa using h);lia);refine⟨Il,?_⟩;obtain⟨u,v,re⟩:=hG.Ih;refine⟨u,v,?_⟩;rw[<-re,H_ (m:=p) vW h1];show(aA [1]).map (Tk.red p)=1;have:aA [1]=1:=Br 1;rw[this,ag.qB]
 rintro⟨_,u,v,re⟩;have h1:Dv (az p l) 1:=by rw[<-re];exact(hG.dp.mul_left _).add (hG.dq.mul_left _)
 have h2:=ag.fm h1 iC.ej;have h3:(1:ag (Zp p)).size<=1:=ag.dS ag.Lt.one;rw[hr4.size]at h2;have:=vW.1;have h4:l.length=1:=⋯;rw[h4];rfl
def LL(H:Hp)(a:aH)(ls:List (List Int)):Prop:=∃ps:List aH,H a=some (.lst (ps.map V.ref))/\ps.length=ls.length/\∀(i:Nat) (p:aH) (l:List Int),ps[i]?=some p->ls[i]?=some l->TL H p l
theorem LL.same(h:LL H a ls)(s:bC H H'):LL H' a ls:=by obtain⟨ps,h1,h2,h3⟩:=h;exact⟨ps,s _ _ h1,h2,λi p l a b=>s _ _ (h3 i p l a b)⟩
theorem oe(h:ps≠[]\/l≠[]):ps.map V.ref≠l.map V.int:=by
 cases ps with
  |nil=>
   cases l with
    |nil=>simp at h
    |cons x l=>simp
  |cons p ps=>
   cases l with
    |nil=>simp
    |cons x l=>simp
theorem LL.app{ls:List (List Int)}{l:List Int}{ps:List aH}(h1:H a=some (.lst (ps.map V.ref)))(h2:ps.length=ls.length)(h3:∀(i:Nat) (p:aH) (l:List Int),ps[i]?=some p->ls[i]?=some l->TL H p l)(hp:TL H p l)(hne:ls≠[]\/l≠[]):LL (cE H a (.lst (ps.map V.ref++[V.ref p]))) a (ls++[l]):=by
 have afL:ps≠[]\/l≠[]:=by rcases hne with h|h;(·exact .inl λe=>h (dG.mp (by rw[<-h2,e];rfl)));exact .inr h
 refine⟨ps++[p],by rw[am,aF];rfl,by simp[h2],λi q m hq hm=>?_⟩;have go:∀q m,TL H q m->(ps≠[]\/m≠[])->TL (cE H a (.lst (ps.map V.ref++[V.ref p]))) q m:=by intro q m hq Yc;(have:q≠a:=by rintro rfl;rw[TL,h1]at hq;have:=aZ hq;injection this with this;exact oe Yc this);rw[TL,aM this];exact hq
 by_cases hi:i<ps.length;.rw[bA hi]at hq;rw[bA ⋯]at hm;exact go q m (h3 i q m hq hm) (.inl λe=>by rw[e]at hi;simp at hi)
 rw[bK ⋯]at hq;rw[bK ⋯,<-h2]at hm;have h0:i-ps.length=0:=by apply ae;intro hc;rw[aG (by simp;lia)]at hq;cases hq
 rw[h0]at hq hm;simp at hq hm;subst hq;subst hm;exact go p l hp afL
theorem MR(h:ps≠[]):DT (ps.map V.ref) (-1)=some (.ref (ps.getLast h)):=by
 have e:ps.map V.ref=(ps.dropLast).map V.ref++[V.ref (ps.getLast h)]:=by rw[<-jr,<-aF,jG]
 rw[e];exact Gm _ _
structure DY(p:Nat)(fs:List Int)(n:Nat)(rows:List (List Int)):Prop where
 len:rows.length=n
 red:∀l,l∈rows->ke p l/\l.length<=fs.length-1
 row:∀i l,rows[i]?=some l->Dv (az p fs) (ag.X^(p*i)-az p l)
inductive Oo (K:ai) (vs:List V) (H:Hp) (Q:VK) (E:XK):Prop|mk (a:aH) (fs:List Int) (p:Nat) (_:vs=[.ref a,.int p]) (_:IL K H a fs) (_:Pr p) (_:p<2^60) (_:ke p fs) (_:Mo fs) (_:2<=fs.length) (_:fs.length<=100) (_:∀H' q rows,bC H H'->H q=none->LL H' q rows->DY p fs (fs.length-1) rows->Q (.ref q) H')
theorem Jb.mp(h:sV m F ms r):Dv (az m ms) (F.map (Tk.red m)-az m r):=by obtain⟨Q,e⟩:=h.ex;refine⟨Q.map (Tk.red m),?_⟩;rw[e,ag.gN,ag.cj];show(aA ms).map _*_+(aA r).map _-(aA r).map _=(aA ms).map _*_;grind
theorem Lz(l:List Int):aA (0::l)=ag.X*aA l:=by
 apply ag.ext;intro i;cases i with
  |zero=>rw[ag.mE];rfl
  |succ i=>rw[ag.ng];rfl
inductive IvW (a:aH) (fs:List Int) (p:Nat) (i:Nat) (Z:L2.St) (H':Hp):Prop|mk (q:aH) (st:List Int) (v:Option V) (_:Z=[some (.ref a),some (.int p),some (.ref q),v,none]) (_:TL H' q st) (_:ke p st) (_:st.length<=fs.length-1) (_:Dv (az p fs) (ag.X^i-az p st))
inductive IvX (a q q2:aH) (fs st:List Int) (p:Nat) (v:Option V) (N:Nat) (Z:L2.St) (H':Hp):Prop|mk (rows:List (List Int)) (_:Z=[some (.ref a),some (.int p),some (.ref q),v,some (.ref q2)]) (_:TL H' q st) (_:LL H' q2 rows) (_:DY p fs rows.length rows) (_:rows≠[]) (_:rows.length<=fs.length-1) (_:N=fs.length-rows.length)
theorem SV(F:Fn K "power_rows" 29 f fd)(T:Bt mg)(jF:ij P w K mg base "rest_by" 4 (wj K))(j9:ij P w K mg base "product_rest" 5 (ud K)):dm P w K mg base je 6 f fd ["f","prime"] (Oo K):=by
 refine lJ ["f","prime","step","turn","rows"] F λH Q E S hr h=>?_;obtain⟨a,fs,p,rfl,hl,hp,hb,tx,vW,l1,l2,k⟩:=h;have hp2:=hp.1;have h6:(2:Nat)^60<Bi:=pd ∅;have bd:∀l,ke p l->Bd l:=λl hl x hx=>by have:=hl.bound x hx;lia
 refine⟨_,(ak (eT 2 S (db (g7 aY))) (ak (gM a9 rfl (nL (by rfl) T.range (g7 (pv 1))) (my 3 S) (aJ (eT 2 S (pU jF hr (cf (bW fq (db (g7 aY)) (pv 2)) (io (pv 0) (pv 1))))))) (ak (eT 4 S (db (g7 (db (g7 aY))))) (ak (gp a9 (lI rX (pL K T.len (pv 4)) (bW f6 (pL K T.len (pv 0)) aY)) (aJ (oK (xa eE f8 f7 nN (pv 4) (g7 (pU j9 hr (cf (rd K (pv 4) (ln jc aY)) (cf (pv 2) (io (pv 0) (pv 1)))))))))) (aJ (bQ (pv 4))))))),?_⟩;ext;refine⟨∅,λp0 kd=>?_⟩;have s0:=aP (o:=HO.lst [V.int 1]) kd;refine mI (n:=(p:Int)) (H1:=cE H p0 (HO.lst [V.int 1])) ?_ ⋯ ⋯ (λi Z H'=>bC H H'/\IvW a fs p i Z H') ⟨s0,p0,[1],none,rfl,am,C9 hp2,by simp;lia,?_⟩ ?_ ?_;.intro R hR;ext;exact hR
 .rw[HY,fN];exact⟨0,by grind⟩
 .rintro i Z H1 hi ⟨hs,q,st,v,rfl,hq,hrd,FI,tz⟩ W hW;ext;refine⟨∅,λq1 hq1=>⟨_,am,_,aP hq1 _ _ hq,?_,λq2 xJ=>?_⟩⟩;(·simp only[ab,ck];exact bV (bT ⋯));have s1:=(aP (o:=HO.lst [V.int 0]) hq1).trans (aP (o:=HO.lst ([V.int 0]++st.map V.int)) xJ);refine⟨q2,a,0::st,fs,p,rfl,cu.of am,(hs.trans s1).seq hl,hp2,⋯,by simp;lia,⋯,bd _ tx,vW,λH2 q3 r s2 Kv hR=>?_⟩;refine hW _ _ ⟨(hs.trans s1).trans s2,q3,r,_,rfl,Kv,hR.red,hR.lt,?_⟩;have h1:=Jb.mp hR;rw[Lz,ag.cj,ag.zA]at h1;obtain⟨x,hx⟩:=h1;obtain⟨y,hy⟩:=tz;refine⟨x+ag.X*y,?_⟩;have e:(aA st).map (Tk.red p)=az p st:=rfl;rw[e]at hx;rw[dC];generalize (ag.X:ag (Zp p))=XX at*;generalize XX^i=XI at*;grind
 rintro Z H1 ⟨hs,q,st,v,rfl,hq,hrd,FI,tz⟩;rw[dM]at tz;ext;refine⟨∅,λq1 hq1=>⟨∅,λq2 xJ=>?_⟩⟩;have s1:=aP (o:=HO.lst [V.int 1]) hq1;have s2:=aP (o:=HO.lst [V.ref q1]) xJ;have abS:=(hs.trans s1).free xJ;refine⟨λN Z H'=>bC H H'/\IvX a q q2 fs st p v N Z H',⟨_,(hs.trans s1).trans s2,[[1]],rfl,(s1.trans s2) _ _ hq,⟨[q1],am,rfl,?_⟩,⟨rfl,?_,?_⟩,by simp,by simp;lia,rfl⟩,?_⟩
 .intro i q l h3 h4;cases i with
   |zero=>simp at h3 h4;subst h3;subst h4;exact s2 _ _ am
   |succ i=>simp at h3
 .intro l hl;rw[a6]at hl;rw[hl];exact⟨C9 hp2,by simp;lia⟩
 .intro i l hl;cases i with
   |zero=>simp at hl;subst hl;rw[HY,rB,fN];exact⟨0,by grind⟩
   |succ i=>simp at hl
 rintro N Z H2 ⟨hs2,rows,rfl,TK,hLL,hR,hne,hle,rfl⟩;obtain⟨ps,g1,g2,g3⟩:=hLL;ext;refine⟨_,cu.of g1,_,hs2.seq hl,?_⟩;simp only[ab];refine dA (λhlt=>?_) (λTX=>?_);.have TQ:rows.length<fs.length-1:=⋯;(have Mp:ps≠[]:=λe=>by rw[e]at g2;exact hne (dG.mp g2.symm));have hpp:=bL.mpr Mp;(have Iv:ps[rows.length-1]?=some (ps.getLast Mp):=by rw[dH,<-g2,aa ⋯]);obtain⟨lst,Ye⟩:∃l,rows[rows.length-1]?=some l:=⟨_,aa ⋯⟩;have Yj:=g3 _ _ _ Iv Ye;have hlr:=hR.red lst (a_ Ye);refine oQ λN hN=>?_;ext;refine⟨.inl ⟨rfl,_,cu.of g1⟩,_,cu.of g1,.ref (ps.getLast Mp),MR Mp,?_⟩;refine⟨ps.getLast Mp,q,a,lst,st,fs,p,rfl,cu.of Yj,cu.of TK,hs2.seq hl,hp2,⋯,⋯,⋯,⋯,bd _ hlr.1,bd _ hrd,bd _ tx,vW,λH3 q3 r s3 Kv hRr=>?_⟩;refine⟨_,s3 _ _ g1,by rw[ab];exact bT ⋯,?_⟩;have agS:=LL.app (s3 _ _ g1) g2 (λi p l h h'=>s3 _ _ (g3 i p l h h')) Kv (.inl hne);refine hN (fs.length-(rows.length+1)) _ _ ⋯ ⟨dn (hs2.trans s3) abS,rows++[r],rfl,?_,agS,⟨rfl,?_,?_⟩,by simp,by simp;lia,by simp⟩;(·(have hqq:q≠q2:=by rintro rfl;rw[TL,g1]at TK;have h9:=aZ TK;injection h9 with h9;exact oe (.inl Mp) h9);rw[TL,aM hqq];exact s3 _ _ TK);(·intro l hl;rcases aO.mp hl with h|h;(·exact hR.red l h);rw[a6]at h;rw[h];exact⟨hRr.red,hRr.lt⟩);intro i l hl;by_cases hi:i<rows.length;(·rw[bA hi]at hl;exact hR.row i l hl);(have Mu:i=rows.length:=by have:=(ax.mp hl).1;simp at this;lia);subst Mu;rw[bK (aw _),kH]at hl;simp at hl;subst hl;have h1:=Jb.mp hRr;rw[ag.cj]at h1;obtain⟨x,hx⟩:=h1;obtain⟨y,hy⟩:=tz;obtain⟨z,hz⟩:=hR.row _ _ Ye;have e1:(aA lst).map (Tk.red p)=az p lst:=rfl;have e2:(aA st).map (Tk.red p)=az p st:=rfl;rw[e1,e2]at hx;(have e3:p*rows.length=p*(rows.length-1)+p:=by have:rows.length=rows.length-1+1:=⋯;rw[this,wR,lD]);rw[e3,No];refine⟨x+z*ag.X^p+az p lst*y,?_⟩;generalize (ag.X:ag (Zp p))^p=Xp at*;generalize (ag.X:ag (Zp p))^(p*(rows.length-1))=Xr at*;grind
 refine k H2 q2 rows hs2 abS ⟨ps,g1,g2,g3⟩ ?_;have:rows.length=fs.length-1:=⋯;rwa[this]at hR
theorem XC{K:ai}{a b:aH}{xs ys:List V}{g:TG}{tt:TT}{te:TE}{vs:List Nat}{Z:L2.St}{H1:Hp}{D:aH}{Qd:Hp->Prop}(Pv:Nat->Hp->Prop)(h0:Pv 0 (cE H1 D (.lst [])))(Im:xs.length=ys.length)(hl:∀i H,i<=xs.length->Pv i H->cu K H a xs/\cu K H b ys)(hs:∀i x y H T,xs[i]?=some x->ys[i]?=some y->Pv i H->H T=none->g (.ref T) (gk Z vs) (cE H T (.tup [x,y])) λσ2 H2=>gk σ2 vs=gk Z vs/\tt σ2 H2 λb H3=>if b=true then te σ2 H3 λy H4=>∃acc,H4 D=some (.lst acc)/\acc.length<bn/\Pv (i+1) (cE H4 D (.lst (acc++[y])))else Pv (i+1) H3)(hd:∀H,Pv xs.length H->Qd H):∃W:Nat->Nat->Hp->Prop,(∃m,W 0 m (cE H1 D (.lst [])))/\∀i m H,W i m H->((Itz K a b).stop i H/\Qd H)\/((Itz K a b).go i H/\∃Nx:Hp->Prop,(∀H',Nx H'->∃m',m'<m/\W (i+1) m' H')/\∀x H',(Itz K a b).Lr i H x H'->g x (gk Z vs) H' λσ2 H2=>gk σ2 vs=gk Z vs/\tt σ2 H2 λb H3=>if b=true then te σ2 H3 λy H4=>∃acc,H4 D=some (.lst acc)/\acc.length<bn/\Nx (cE H4 D (.lst (acc++[y])))else Nx H3):=by
 refine⟨λi m H=>m=xs.length-i/\i<=xs.length/\Pv i H,⟨xs.length,by simp,bX _,h0⟩,?_⟩;rintro i m H ⟨rfl,hi,p⟩;obtain⟨q1,q2⟩:=hl i H hi p;by_cases hlt:i<xs.length;.refine .inr ⟨⟨xs,ys,xs[i],ys[i]'⋯,q1,q2,by simp[hlt],aa ⋯⟩,Pv (i+1),λH' p'=>⟨xs.length-(i+1),⋯,rfl,hlt,p'⟩,λx H' y=>?_⟩;obtain⟨T,z,u,rfl,hT,rfl,y1,y2⟩:=y;exact hs i z u _ T (y1 xs q1) (y2 ys q2) p hT
 have e:i=xs.length:=⋯;subst e;exact .inl ⟨⟨xs,ys,q1,q2,.inl (aw _)⟩,hd H p⟩
theorem Se{xs ys:List V}(hvu:v≠u)(hZ:Z[j]?=some (some (.ref a)))(hZ2:Z[j2]?=some (some (.ref b)))(hq:cu K H a xs)(xJ:cu K H b ys)(Im:xs.length=ys.length)(hlen:xs.length<bn)(f:V->V->V)(wz:∀(i:Nat) z y,xs[i]?=some z->ys[i]?=some y->∀H' (Q':VK),bC H H'->(∀Ag,bC H' Ag->Q' (f z y) Ag)->te ((((Z.set u none).set v none).set v (some z)).set u (some y)) H' Q')(hk:∀H' D,bC H H'->H D=none->H' D=some (.lst (nY f xs ys))->Q (.ref D) H'):JN (abF K (pO (tV j) (pO (tV j2) xG))) (MB K 2 (xl (jl v) (xl (jl u) Qx))) AN te [v,u] Z H Q:=by
 simp only[pN];refine⟨_,hZ,_,hZ2,a,b,xs,ys,rfl,hq,xJ,λD hD=>XC (xs:=xs) (ys:=ys) (λi H'=>bC H H'/\H' D=some (.lst ((nY f xs ys).take i))) ⟨aP hD,by rw[am,fI]⟩ Im (λi H' _ h=>⟨h.1.seq hq,h.1.seq xJ⟩) ?_ ?_⟩;.rintro i x y H1 T hx hy ⟨hs,hd⟩ hT;refine⟨T,_,rfl,.inl (.inl am),rfl,_,_,rfl,_,_,rfl,rfl,?_,?_⟩;(·rw[jS (Z:=Z)];have:=wn (Z:=Z) hvu (some x) (some y);rwa[jS (Z:=Z)]at this);show te ((oy (gk Z [v,u]) v (some x)).set u (some y)) (cE H1 T (HO.tup [x,y])) _;rw[jS];have zH:bC H1 (cE H1 T (.tup [x,y])):=aP hT;refine wz i x y hx hy _ _ (hs.trans zH) λH2 h2=>⟨_,h2 _ _ (zH _ _ hd),?_,?_,?_⟩;(·rw[da,kL];lia);(·exact dn ((hs.trans zH).trans h2) hD);rw[am];obtain⟨hi,rfl⟩:=ax.mp hx;obtain⟨Mu,rfl⟩:=ax.mp hy;rw[aW (by rw[kL];lia),Hh]
 rintro H1 ⟨hs,hd⟩;have e:xs.length=(nY f xs ys).length:=by rw[kL];lia
 rw[e,bR]at hd;exact hk H1 D hs hD hd
structure Vc(p n:Nat)(l:List Int):Prop where
 len:l.length=n
 zc:∀x,x∈l->0<=x/\x<p
noncomputable def vz(p:Nat)(l:List Int)(i:Nat):Zp p:=(Tk.red p).f (l.getD i 0)
theorem Vc.at(h:Vc p n l)(hp:0<p)(i:Nat):0<=l.getD i 0/\l.getD i 0<p:=by
 by_cases hi:i<l.length;.simp only[aD,aa hi];exact h.zc _ (ba hi)
 simp only[aD,aG (by lia:l.length<=i)];exact⟨js _,by simpa using hp⟩
theorem Vc.zero(h:Vc p n l)(hp:0<p):vz p l i=0↔l.getD i 0=0:=lm (h.at hp i).1 (h.at hp i).2
theorem qw(p:Nat)(x:Int):(Tk.red p).f (x%(p:Int))=(Tk.red p).f x:=by
 have h:(Tk.red p).f (x-x%(p:Int))=0:=by refine cp.dh.mpr (gr.mpr ?_);exact⟨x/(p:Int),by have:=eD x p;lia⟩
 rw[gJ.sub]at h;grind
inductive aac (K:ai) (vs:List V) (H:Hp) (Q:VK) (E:XK):Prop|mk (a b:aH) (r q:List Int) (c p n:Nat) (_:vs=[.ref a,.int c,.ref b,.int p]) (_:IL K H a r) (_:IL K H b q) (_:2<=p) (_:p<2^60) (_:n<=100) (_:c<n) (_:Vc p n r) (_:Vc p n q) (_:∀H' a' l,bC H H'->IL K H' a' l->Vc p n l->(∀i,vz p l i=vz p r i-vz p r c*vz p q i)->Q (.ref a') H')
theorem aa9(F:Fn K "without_column" 31 f fd)(T:Bt mg):dm P w K mg base je 1 f fd ["row","column","pivot","prime"] (aac K):=by
 refine lJ ["row","column","pivot","prime","factor","a","b"] F λH Q E S hr h=>?_;obtain⟨a,b,r,q,c,p,n,rfl,ha,hb,hp,NB,hn,hc,hr',Kw,k⟩:=h;have h6:(2:Nat)^60<Bi:=pd ∅;have hrl:=hr'.len;have RO:=Kw.len;refine⟨_,(ak (eT 4 S (rd K (pv 0) (pv 1))) (ak (fO (lI iL (pv 4) aY) (aJ (bQ (pv 0))) dg) (aJ (bQ (O5 [("a",5),("b",6)] S (WU (by rfl) T.zip (io (pv 0) (pv 2))) (Nz (K:=K) (n:=2) rfl (eu (my 5 S) (eu (my 6 S) kU))) iH (bW iK (bW f6 (pv 5) (bW ez (pv 4) (pv 6))) (pv 3))))))),?_⟩;ext;refine⟨_,ha,_,eJ ⋯,?_⟩;have hfa:=hr'.at ⋯ c;generalize hf:r.getD c 0=ft at*;refine⟨rfl,?_⟩;refine dA (λhz=>?_) (λhz=>?_);·(have Il:ft=0:=by simpa using hz);refine k H a r (bC.refl _) ha hr' λi=>?_;have:=(hr'.zero ⋯).mpr (by rw[hf];exact Il);rw[this];grind
 refine Se ∅ rfl rfl ha hb (by rw[ab,ab];lia) (by rw[ab];exact bT ⋯) (λx y=>match x,y with|.int x,.int y=>.int ((x-ft*y)%(p:Int))|x,_=>x) ?_ ?_;.intro i x y hx hy H' Q' h2 k2;obtain⟨x,XQ,rfl⟩:=wB hx;obtain⟨y,vV,rfl⟩:=wB hy;ext;have:=Kw.zc y (a_ vV);refine⟨kz ⋯ ⋯,⋯,?_⟩;rw[mK _ ⋯];exact k2 H' (bC.refl _)
 intro H' D h2 hDf hD;have e:nY (λx y=>match x,y with|V.int x,V.int y=>V.int ((x-ft*y)%(p:Int))|x,_=>x) (r.map V.int) (q.map V.int)=(nY (λx y=>(x-ft*y)%(p:Int)) r q).map V.int:=by rw[List.zipWith_map,List.map_zipWith]
 rw[e]at hD;refine k H' D _ h2 (cu.of hD) ⟨by rw[kL];lia,?_⟩ ?_;.intro x hx;obtain⟨i,hi,rfl⟩:=cO.mp hx;rw[Hh];exact⟨dr _ ⋯,cW _ ⋯⟩
 intro i;have hv:vz p r c=(Tk.red p).f ft:=by rw[vz,hf]
 rw[hv];unfold vz;by_cases hi:i<n;·(have e1:(nY (λx y=>(x-ft*y)%(p:Int)) r q).getD i 0=(r.getD i 0-ft*q.getD i 0)%(p:Int):=by simp only[aD,List.getElem?_zipWith,aa (show i<r.length by lia),aa (show i<q.length by lia)];rfl);rw[e1,qw,gJ.sub,gJ.mul]
 have e1:∀l:List Int,l.length=n->l.getD i 0=0:=λl hl=>by simp[aD,aG (show l.length<=i by lia)]
 rw[e1 _ hrl,e1 _ RO,e1 _ (by rw[kL];lia),gJ.zero];grind
inductive aan (K:ai) (vs:List V) (H:Hp) (Q:VK) (E:XK):Prop|mk (a) (r) (_:vs=[.ref a]) (_:IL K H a r) (_:(∀H' (c:Nat),bC H H'->c<r.length->r.getD c 0≠0->Q (.int c) H')) (_:(∀H',bC H H'->(∀x,x∈r->x=0)->Q .jk H'))
theorem abl(F:Fn K "first_filled" 32 f fd)(T:Bt mg):dm P w K mg base je 1 f fd ["row"] (aan K):=by
 refine lJ ["row","column","number"] F λH Q E S hr h=>?_;obtain⟨a,r,rfl,ha,k1,k2⟩:=h;refine⟨_,(ak (gM a9 rfl (ny (by rfl) T.enumerate (g7 (pv 0))) (Nz (K:=K) (n:=2) rfl (eu (my 1 S) (eu (my 2 S) kU))) (aJ (fO (lI J_ (pv 2) aY) (aJ (bQ (pv 1))) dg))) (aJ (bQ wr))),?_⟩;ext;refine k7 rfl ha (λj Z H'=>bC H H'/\∃v1 v2,Z=[some (.ref a),v1,v2]/\∀x,x∈r.take j->x=0) ⟨bC.refl _,_,_,rfl,by simp⟩ (λi Z H' _ h=>h.1.seq ha) ?_ ?_;.rintro j y Z H2 U hy ⟨hs2,v1,v2,rfl,hz⟩ hU W hW;obtain⟨y,vV,rfl⟩:=wB hy;have hj:=(ax.mp vV).1;have s3:=aP (o:=HO.tup [V.int (j:Nat),V.int y]) hU;refine⟨U,_,rfl,.inl (.inl am),rfl,_,_,rfl,_,_,rfl,rfl,?_⟩;ext;refine dA (λhne=>?_) (λhe=>?_);(·refine k1 _ j (hs2.trans s3) hj ?_;simp only[aD,vV];simpa using hne);refine hW _ _ ⟨hs2.trans s3,_,_,rfl,?_⟩;intro x hx;rw[aW hj]at hx;rcases aO.mp hx with h|h;(·exact hz x h);rw[a6]at h;(have:r[j]=y:=by have:=aa hj;rw[vV]at this;exact(aZ this).symm);rw[h,this];simpa using he
 rintro Z H2 ⟨hs2,v1,v2,rfl,hz⟩;rw[ab,bR]at hz;ext;exact k2 H2 hs2 hz
theorem Sf{xs:List V}(hZ:Z[j]?=some (some (.ref a)))(hq:cu K H a xs)(hlen:xs.length<bn)(ys:List V)(hys:ys.length=xs.length)(wz:∀(i:Nat) z y,xs[i]?=some z->ys[i]?=some y->∀H' (Q':VK),bC H H'->(∀Ag,bC H' Ag->Q' y Ag)->te ((Z.set v none).set v (some z)) H' Q')(hk:∀H' D,bC H H'->H D=none->H' D=some (.lst ys)->Q (.ref D) H'):JN (tN K (tV j)) (jl v) AN te [v] Z H Q:=by
 simp only[pN];refine⟨_,hZ,a,rfl,⟨_,hq⟩,λD hD=>yr (λi H'=>bC H H'/\H' D=some (.lst (ys.take i))) ⟨aP hD,by rw[am,fI]⟩ (λi H' _ h=>h.1.seq hq) ?_ ?_⟩;.rintro i x H1 hx ⟨hs,hd⟩;refine⟨?_,?_⟩;(·rw[gZ,gZ,iR,iR]);show te (oy (gk Z [v]) v (some x)) H1 _;rw[gZ];have hi:=(ax.mp hx).1;refine wz i x _ hx (aa ⋯) H1 _ hs λH2 h2=>⟨_,h2 _ _ hd,?_,?_,?_⟩;(·rw[da];lia);(·exact dn (hs.trans h2) hD);rw[am,aW ⋯]
 rintro H1 ⟨hs,hd⟩;rw[<-hys,bR]at hd;exact hk H1 D hs hD hd
def Rj(K:ai)(v:Nat)(te:TE)(Z:L2.St)(Q:VK)(x:V)(H1:Hp):Prop:=∃a',x=.ref a'/\(∃xs,cu K H1 a' xs)/\∀D,H1 D=none->∃W:Nat->Nat->Hp->Prop,(∃m,W 0 m (cE H1 D (.lst [])))/\∀i m H,W i m H->((Jf K a').stop i H/\Q (.ref D) H)\/((Jf K a').go i H/\∃Nx:Hp->Prop,(∀H',Nx H'->∃m',m'<m/\W (i+1) m' H')/\∀x H',(Jf K a').Lr i H x H'->jl v x (gk Z [v]) H' λσ2 H2=>gk σ2 [v]=gk Z [v]/\AN σ2 H2 λb H3=>if b=true then te σ2 H3 λy H4=>∃acc,H4 D=some (.lst acc)/\acc.length<bn/\Nx (cE H4 D (.lst (acc++[y])))else Nx H3)
theorem Hy(K:ai)(wi:TE)(v:Nat)(te:TE)(Z:L2.St)(H:Hp)(Q:VK):JN (tN K wi) (jl v) AN te [v] Z H Q=wi Z H (Rj K v te Z Q):=rfl
theorem Ii{xs:List V}(hq:cu K H1 a xs)(Pv:aH->Nat->Hp->Prop)(h0:∀D,H1 D=none->Pv D 0 (cE H1 D (.lst [])))(hl:∀D i H,Pv D i H->cu K H a xs)(hs:∀D i z H,H1 D=none->xs[i]?=some z->Pv D i H->te ((Z.set v none).set v (some z)) H λy H4=>∃acc,H4 D=some (.lst acc)/\acc.length<bn/\Pv D (i+1) (cE H4 D (.lst (acc++[y]))))(hd:∀D H,H1 D=none->Pv D xs.length H->Q (.ref D) H):Rj K v te Z Q (.ref a) H1:=by
 refine⟨a,rfl,⟨_,hq⟩,λD hD=>yr (λi H'=>Pv D i H') (h0 D hD) (λi H' _ h=>hl D i H' h) ?_ (λH' h=>hd D H' hD h)⟩;intro i x H2 hx hp;refine⟨?_,?_⟩;.rw[gZ,gZ,iR,iR]
 show te (oy (gk Z [v]) v (some x)) H2 _;rw[gZ];exact hs D i x H2 hD hx hp
noncomputable def pad(n:Nat)(l:List Int):List Int:=l++aQ (n-l.length) 0
theorem J9(h:l.length<=n):(pad n l).length=n:=by unfold pad;simp;lia
theorem O4(n:Nat)(l:List Int)(i:Nat):(pad n l).getD i 0=l.getD i 0:=by have:=aK (λq=>q.c i) (JK l (n-l.length));exact this
structure Rn(p n:Nat)(rows eqs:List (List Int)):Prop where
 vc:∀l,l∈eqs->Vc p n l
 eq:∀(k:Nat) l,eqs[k]?=some l->∀i,i<n->vz p l i=vz p (rows.getD i []) k-(if i=k then 1 else 0)
inductive Vb (K:ai) (vs:List V) (H:Hp) (Q:VK) (E:XK):Prop|mk (a:aH) (fs:List Int) (p:Nat) (_:vs=[.ref a,.int p]) (_:IL K H a fs) (_:Pr p) (_:p<2^60) (_:ke p fs) (_:Mo fs) (_:2<=fs.length) (_:fs.length<=100) (_:∀H' q rows eqs,bC H H'->LL H' q eqs->eqs.length=fs.length-1->DY p fs (fs.length-1) rows->Rn p (fs.length-1) rows eqs->Q (.ref q) H')
inductive IvV (a D ZZ:aH) (p n:Nat) (rows:List (List Int)) (i:Nat) (Z:L2.St) (H':Hp):Prop|mk (eqs:List (List Int)) (v5 v6:Option V) (_:Z=[some (.ref a),some (.int p),some (.int n),some (.ref D),some (.ref ZZ),v5,v6,none]) (_:LL H' ZZ eqs) (_:eqs.length=i) (_:Rn p n rows eqs)
theorem Xl(F:Fn K "fixed_equations" 30 f fd)(T:Bt mg)(DV:ij P w K mg base "power_rows" 6 (Oo K)):dm P w K mg base je 7 f fd ["f","prime"] (Vb K):=by
 refine lJ ["f","prime","degree","rows","equations","k","equation","row"] F λH Q E S hr h=>?_;obtain⟨a,fs,p,rfl,hl,hp,hb,tx,vW,l1,l2,k⟩:=h;have hp2:=hp.1;refine⟨_,(ak (eT 2 S (bW f6 (pL K T.len (pv 0)) aY)) (ak (W4 3 [("row",7)] S (Ax (K:=K) (pU DV hr (io (pv 0) (pv 1)))) (my 7 S) iH (bW fq (pv 7) (bW ez (db (g7 aY)) (bW f6 (pv 2) (pL K T.len (pv 7)))))) (ak (eT 4 S (db lH)) (ak (gM a9 rfl (nL (by rfl) T.range (g7 (pv 2))) (my 5 S) (ak (W4 6 [("row",7)] S (Ax (K:=K) (pv 3)) (my 7 S) iH (rd K (pv 7) (pv 5))) (ak (zh (bW iK (bW f6 (rd K (pv 6) (pv 5)) aY) (pv 1)) (zj (pv 6) (pv 5) set_list)) (aJ (oK (xa eE f8 f7 nN (pv 4) (g7 (pv 6)))))))) (aJ (bQ (pv 4))))))),?_⟩;ext;refine⟨_,hl,?_⟩;simp only[ab];have hn1:(fs.length:Int)-1=((fs.length-1:Nat):Int):=⋯;rw[hn1];generalize hn:fs.length-1=n at*;rw[Hy];refine⟨a,fs,p,rfl,hl,hp,hb,tx,vW,l1,l2,λH1 q1 rows s1 hq1 hLL hR=>?_⟩;rw[hn]at hR;obtain⟨ps,g1,g2,g3⟩:=hLL;refine Ii (cu.of g1) (λD i H'=>bC H1 H'/\LL H' D ((rows.take i).map (pad n))) (λD hD=>⟨aP hD,[],am,by simp,by simp⟩) (λD i H' h=>h.1.seq (cu.of g1)) ?_ ?_
 .rintro D i x H2 hD hx ⟨s2,VE⟩;obtain⟨pi,hpi,rfl⟩:∃pi,ps[i]?=some pi/\x=V.ref pi:=by
   rw[aE]at hx;cases e:ps[i]? with
    |none=>rw[e]at hx;cases hx
    |some y=>rw[e]at hx;exact⟨y,rfl,(aZ hx).symm⟩
  (have hi:i<rows.length:=by have:=(ax.mp hpi).1;lia);have hri:rows[i]?=some rows[i]:=aa hi;have hT:=s2 _ _ (g3 i pi _ hpi hri);have hlr:=(hR.red _ (ba hi)).2;rw[hn]at hlr;(have htk:(rows.take (i+1)).map (pad n)=(rows.take i).map (pad n)++[pad n rows[i]]:=by rw[aW hi,aF];rfl);generalize rows[i]=l at*;ext;refine⟨∅,λp0 kd=>?_⟩;have t0:=aP (o:=HO.lst [V.int 0]) kd;refine⟨_,t0.seq (cu.of hT),_,am,?_⟩;simp only[ab,ck,kt];have hd:((n:Int)-(l.length:Int)).toNat=n-l.length:=⋯;refine⟨⋯,⋯,by rw[hd];exact bV (bT ⋯),λp1 rD=>?_⟩;rw[rep0,hd];have t1:=t0.trans (aP (o:=HO.lst ((aQ (n-l.length) (0:Int)).map V.int)) rD);refine⟨_,t1 _ _ hT,_,am,?_,λp2 hp2=>?_⟩;(·simp only[ab,fZ];exact bV (bT ⋯));have t2:=t1.trans (aP (o:=HO.lst (l.map V.int++(aQ (n-l.length) (0:Int)).map V.int)) hp2);obtain⟨qs,e1,e2,e3⟩:=VE;(have abT:TL (cE (cE (cE H2 p0 (HO.lst [V.int 0])) p1 (HO.lst ((aQ (n-l.length) (0:Int)).map V.int))) p2 (HO.lst (l.map V.int++(aQ (n-l.length) (0:Int)).map V.int))) p2 (pad n l):=by rw[TL,am,pad,aF]);(have X6:pad n l≠[]:=λe=>by have:=J9 hlr;rw[e]at this;simp at this;lia);refine⟨_,t2 _ _ e1,?_,dn (s2.trans t2) hD,?_⟩;(·rw[ab,e2,ab,da];exact bT (by have:=hR.len;lia));rw[htk];exact LL.app (t2 _ _ e1) e2 (λi p l h h'=>t2 _ _ (e3 i p l h h')) abT (.inr X6)
 rintro D H2 hD ⟨s2,VE⟩;rw[ab,g2,bR]at VE;have ss2:bC H H2:=s1.trans s2;refine⟨∅,λZZ hE0=>?_⟩;refine mI (n:=(n:Int)) (H1:=cE H2 ZZ (HO.lst [])) ?_ ⋯ ⋯ (λi Z H'=>bC H2 H'/\IvV a D ZZ p n rows i Z H') ⟨aP hE0,[],none,none,rfl,⟨[],am,rfl,by simp⟩,rfl,⟨by simp,by simp⟩⟩ ?_ ?_;.intro R hR;ext;exact hR
 .rintro i Z H3 hi ⟨s3,eqs,v5,v6,rfl,hLE,hlen,hE⟩ W hW;ext;have NG:=VE.same s3;obtain⟨qs,e1,e2,e3⟩:=NG;rw[ab]at e2;have hrl:=hR.len;refine Sf rfl (cu.of e1) (by rw[ab];exact bT ⋯) ((rows.map λl=>l.getD i 0).map V.int) (by rw[ab,ab,ab];lia) ?_ ?_
  .intro j z y hz hy H4 Q' s4 k4;(have hj:j<rows.length:=by have:=(ax.mp hy).1;simpa using this);obtain⟨qj,hqj,rfl⟩:∃pi,qs[j]?=some pi/\z=V.ref pi:=by
    rw[aE]at hz;cases e:qs[j]? with
     |none=>rw[e]at hz;cases hz
     |some y=>rw[e]at hz;exact⟨y,rfl,(aZ hz).symm⟩
   (have hyv:y=V.int (rows[j].getD i 0):=by rw[aE,aE,aa hj]at hy;exact(aZ hy).symm);have hTj:=e3 j qj (pad n rows[j]) hqj (by rw[aE,aa hj];rfl);have hlr:=(hR.red _ (ba hj)).2;rw[hn]at hlr;have hpl:=J9 hlr;ext;refine⟨_,cu.of (s4 _ _ hTj),_,eJ ⋯,?_⟩;rw[O4,<-hyv];exact k4 H4 (bC.refl _)
  intro H4 D2 s4 ZR acJ;obtain⟨es,b1,b2,b3⟩:=hLE;(have acq:(rows.map λl=>l.getD i 0).length=n:=by rw[ab];lia);(have hcl:∀j,(rows.map λl=>l.getD i 0).getD j 0=(rows.getD j []).getD i 0:=by intro j;simp only[aD,aE];cases rows[j]?<;>simp);(have hcr:∀x,x∈(rows.map λl=>l.getD i 0)->0<=x/\x<(p:Int):=by intro x hx;obtain⟨l,hl,rfl⟩:=ao.mp hx;have hrd:=(hR.red l hl).1;by_cases hi':i<l.length;(·simp only[aD,aa hi'];exact hrd.zc _ (ba hi'));simp only[aD,aG (by lia:l.length<=i)];simp;lia);generalize hcd:(rows.map λl=>l.getD i 0)=cl at*;have hil:i<cl.length:=⋯;(have hnl:TL (cE H4 D2 (HO.lst ((cl.map V.int).set i (V.int ((cl.getD i 0-1).fmod p))))) D2 (cl.set i ((cl.getD i 0-1).fmod p)):=by rw[TL,am,iS]);have s5:bC H3 (cE H4 D2 (HO.lst ((cl.map V.int).set i (V.int ((cl.getD i 0-1).fmod p))))):=dn s4 ZR;refine⟨D2,rfl,_,cu.of acJ,_,eJ hil,_,rfl,⋯,D2,rfl,_,acJ,i,mz (by rw[ab];exact hil),.inl ⟨rfl,_,cu.of (s5 _ _ b1)⟩,_,s5 _ _ b1,by rw[ab];exact bT ⋯,hW _ _ ⟨dn (s3.trans s5) hE0,eqs++[cl.set i ((cl.getD i 0-1).fmod p)],_,_,rfl,?_,by simp[hlen],?_⟩⟩;(·refine LL.app (s5 _ _ b1) b2 (λi p l h h'=>s5 _ _ (b3 i p l h h')) hnl (.inr λe=>?_);have:=aK fR e;rw[ee,cV]at this;lia);rw[mK _ ⋯];(have hvc:Vc p n (cl.set i ((cl.getD i 0-1)%(p:Int))):=by refine⟨by rw[ee];exact acq,λx hx=>?_⟩;rcases fX hx with h|h;(·exact hcr x h);rw[h];exact⟨dr _ ⋯,cW _ ⋯⟩);refine⟨λl hl=>?_,λk2 l hl j hj=>?_⟩;(·rcases aO.mp hl with h|h;(·exact hE.vc l h);rw[a6]at h;rw[h];exact hvc);by_cases hk:k2<eqs.length;(·rw[bA hk]at hl;exact hE.eq k2 l hl j hj);(have hk2:k2=i:=by have:=(ax.mp hl).1;simp at this;lia);rw[hk2]at hl ⊢;rw[bK ⋯,hlen,kH]at hl;simp at hl;subst hl;unfold vz;rw[jw _ _ _ _ hil,<-hcl];by_cases hjk:j=i;(·rw[aj hjk,aj hjk,qw,gJ.sub,gJ.one,hjk];grind);rw[ah hjk,ah hjk];grind
 rintro Z H3 ⟨s3,eqs,v5,v6,rfl,hLE,hlen,hE⟩;rw[dM]at hlen;ext;exact k H3 ZZ rows eqs (ss2.trans s3) hLE ⋯ hR hE
theorem z5{X:Cx}(hc:X.calm=true):qV X (.type "list") (λxs H Q=>∃a kvs,xs=[V.ref a]/\H a=some (.dK kvs)/\∀l,H l=none->Q (.ref l) (cE H l (.lst (kvs.map λkv=>kV kv.1)))):=by
 intro au s Z H xs us Q I r h;obtain⟨a,kvs,rfl,hd,q⟩:=h;rw[dk.Wn r];obtain⟨z,hs,vs,Ef,dd⟩:=VR I.fQ hd;obtain⟨ep,hat⟩:=dd.dictAt;have hl:=jy Ef;refine PySem.W.kdl_call (PySem.W.kdl_dict (knd:=iM X.prog X.w) (kvs:=vs) (ep:=ep) hs) (I.ok.hd hc) hat ⋯ λh' tk acc' c' hk hD MA=>?_;have hv:dk (kvs.map λkv=>kV kv.1) acc'.toList:=by
  have go:∀(ks:List (Key×V)) (as:List aI),ks.length=as.length->(∀(i:Nat) k x,ks[i]?=some (k,x)->∃v,as[i]?=some v/\eM (kV k) v)->dk (ks.map λkv=>kV kv.1) as:=by
   intro ks;induction ks with
    |nil=>intro as hl _;cases as with|nil=>exact .nil|cons=>simp at hl
    |cons k ks ih=>
     intro as hl hh;cases as with
      |nil=>simp at hl
      |cons v as=>obtain⟨u,hu,ru⟩:=hh 0 k.1 k.2 rfl;rw[eI]at hu;cases hu;exact .cons ru (ih as (by simpa using hl) λi k x e=>by simpa using hh (i+1) k x (by simpa using e))
  refine go kvs acc'.toList (by have:=MA.1;simp only[cX];lia) λi k x e=>?_;(have hi:i<acc'.toList.length:=by have:=(ax.mp e).1;rw[cX,MA.1];lia);obtain⟨k',x',e',Iq⟩:=MA.2 i acc'.toList[i] (by rw[<-ii];exact aa hi);refine⟨_,aa hi,?_⟩;obtain⟨u,hu,_⟩:=PF Ef e;rw[hu]at e';cases e';exact E3 Iq
 exact⟨.ref s.heap.objs.size,_,I.laid (t':=tk) hk (aw _) (show iq X.prog X.w _ h' _ (.lst (kvs.map λkv=>kV kv.1))from⟨by rw[ab];exact z,acc'.toList,c',hv,by simpa using hD⟩),rfl,q _ (I.fQ.fresh (aw _))⟩
theorem cu.cE{K:ai}{H:Hp}{a d:aH}{xs:List V}{u:HO}(h:cu K H a xs)(hd:∀ys,¬Rd H d (.lst ys)):cu K (cE H d u) a xs:=by
 rcases h with h|h;·(have:a≠d:=by rintro rfl;exact hd _ h);refine .inl ?_;rcases h with h|⟨o,h⟩;(·exact .inl (by rw[aM this];exact h));exact .inr ⟨o,by rw[aM this];exact h⟩
 exact .inr h
theorem pZ{H:Hp}{d:aH}{kvs:List (Key×V)}(h:Rd H d (.dK kvs)):∀ys,¬Rd H d (.lst ys):=by rintro ys (h2|⟨o,h2⟩)<;>rcases h with h|⟨o',h⟩<;>rw[h]at h2<;>cases h2
theorem E1(h:H d=some u)(s:bC (cE H d x) H'):bC H (cE H' d u):=by
 intro b o e;by_cases hb:b=d;.subst hb;rw[am];rwa[h]at e
 rw[aM hb];exact s b o (by rw[aM hb];exact e)
theorem EM{d:aH}{kvs:List (Key×V)}{j:Nat}{g:TG}{tb:TS}{D:Ends}{Z:L2.St}{H:Hp}(hZ:Z[j]?=some (some (.ref d)))(hd:H d=some (.dK kvs))(R:Nat->L2.St->Hp->Prop)(h0:∀o,R 0 Z (cE H d (.lQ o (.dK kvs))))(hs:∀o (i:Nat) k v Z H' T,kvs[i]?=some (k,v)->bC (cE H d (.lQ o (.dK kvs))) H'->R i Z H'->H' T=none->∀(D':Ends) (W:L2.St->Hp->Prop),(∀σ3 H3,bC (cE H d (.lQ o (.dK kvs))) H3->R (i+1) σ3 H3->W σ3 H3)->g (.ref T) Z (cE H' T (.tup [kV k,v])) λσ2 H2=>tb {D' with nx:=W,ct:=W,bk:=D'.nx} σ2 H2)(he:∀o Z' H',bC (cE H d (.lQ o (.dK kvs))) H'->H' d=some (.lQ o (.dK kvs))->bC H (cE H' d (.dK kvs))->R kvs.length Z' H'->D.nx Z' (cE H' d (.dK kvs))):Oe (EN (Ik (tV j)) g tb) D Z H:=by
 simp only[pN];refine⟨d,.dK kvs,hd,trivial,λod=>?_⟩;refine⟨_,hZ,d,od,kvs,rfl,am,λi m Z H'=>m=kvs.length-i/\i<=kvs.length/\bC (cE H d (.lQ od (.dK kvs))) H'/\R i Z H',⟨kvs.length,by simp,bX _,bC.refl _,h0 od⟩,?_⟩;rintro i m Z H' ⟨rfl,hi,s1,r1⟩;have hf:=s1 _ _ am;by_cases hlt:i<kvs.length;.refine .inr ⟨⟨hf,hlt⟩,λσ3 H3=>bC (cE H d (.lQ od (.dK kvs))) H3/\R (i+1) σ3 H3,λZ' H' p'=>⟨kvs.length-(i+1),⋯,rfl,hlt,p'⟩,λx H2 y=>?_⟩;obtain⟨T,k,v,e,rfl,hT,rfl⟩:=y;exact hs od i k v Z H' T e s1 r1 hT _ _ λ_ _ a b=>⟨a,b⟩
 have e:i=kvs.length:=⋯;subst e;exact .inl ⟨⟨hf,aw _⟩,hf,he od Z H' s1 hf (E1 hd s1) r1⟩
def Lb(K:ai)(g:TG)(tb:TS)(D:Ends)(Z:L2.St)(x:V)(H1:Hp):Prop:=∃a,x=.ref a/\(∃xs,cu K H1 a xs)/\∃W:Nat->Nat->L2.St->Hp->Prop,(∃m,W 0 m Z H1)/\∀i m Z H,W i m Z H->((Jf K a).stop i H/\D.nx Z H)\/((Jf K a).go i H/\∃N:L2.St->Hp->Prop,(∀Z' H',N Z' H'->∃m',m'<m/\W (i+1) m' Z' H')/\∀x H',(Jf K a).Lr i H x H'->g x Z H' λσ2 H2=>tb {D with nx:=N,ct:=N,bk:=D.nx} σ2 H2)
theorem JO(K:ai)(wi:TE)(g:TG)(tb:TS)(D:Ends)(Z:L2.St)(H:Hp):EN (tN K wi) g tb D Z H=wi Z H (Lb K g tb D Z):=rfl
theorem KI{K:ai}{a:aH}{xs:List V}{g:TG}{tb:TS}{D:Ends}{Z:L2.St}{H:Hp}(hq:cu K H a xs)(Pv:Nat->L2.St->Hp->Prop)(h0:Pv 0 Z H)(hl:∀i Z H,i<=xs.length->Pv i Z H->cu K H a xs)(hs:∀i x Z H,xs[i]?=some x->Pv i Z H->∀W,(∀Z H,Pv (i+1) Z H->W Z H)->g x Z H λσ2 H2=>tb {D with nx:=W,ct:=W,bk:=D.nx} σ2 H2)(hd:∀Z H,Pv xs.length Z H->D.nx Z H):Lb K g tb D Z (.ref a) H:=⟨a,rfl,⟨_,hq⟩,FR Pv h0 hl (λi x Z H h1 h2=>hs i x Z H h1 h2 _ λ_ _ z=>z) hd⟩
noncomputable abbrev En:=Nat×List Int×aH
noncomputable def vU(e:En):Key×V:=(gB (e.1:Int),.ref e.2.2)
structure Zd(K:ai)(H:Hp)(d:aH)(es:List En):Prop where
 at':H d=some (.dK (es.map vU))
 row:∀e,e∈es->IL K H e.2.2 e.2.1
noncomputable def f_(p:Nat)(es:List En):List (Nat×(Nat->Zp p)):=es.map λe=>(e.1,vz p e.2.1)
theorem Zd.same(h:Zd K H d es)(s:bC H H'):Zd K H' d es:=⟨s _ _ h.at',λe he=>s.seq (h.row e he)⟩
theorem Z1{es:List En}(hn:(es.map (·.1)).Nodup){i:Nat}{e:En}(h:es[i]?=some e):tf (es.map vU) (gB (e.1:Int))=some (.ref e.2.2):=by
 induction es generalizing i with
  |nil=>simp at h
  |cons x es ih=>
   rw[aR]at hn ⊢;cases i with
    |zero=>rw[eI]at h;cases h;exact uH (p:=vU e) rfl
    |succ i=>rw[ji]at h;rw[rM];(·exact ih (bO.mp hn).2 h);intro hx;(have:x.1=e.1:=by have:=vZ hx;exact rJ this);exact(bO.mp hn).1 (by rw[this];exact ao.mpr ⟨e,a_ h,rfl⟩)
theorem Bo{es:List En}{c:Nat}(h:∀e,e∈es->e.1≠c):tf (es.map vU) (gB (c:Int))=none:=by
 induction es with
  |nil=>rfl
  |cons x es ih=>rw[aR,rM];(·exact ih λe he=>h e (al _ he));intro hx;exact h x (.head _) (rJ (vZ hx))
theorem aeC{es:List En}(hn:(es.map (·.1)).Nodup){l r:List En}{e:En}(h:es=l++e::r)(x:List Int)(a:aH):putK (es.map vU) (gB (e.1:Int)) (.ref a)=(l++(e.1,x,a)::r).map vU:=by
 have hv:=Z1 hn (i:=l.length) (e:=e) (by rw[h];simp);unfold putK;rw[rN,hv];simp only[tY,if_true];have uE:∀y,y∈l++r->y.1≠e.1:=by rw[h,aF,aR,jP]at hn;obtain⟨n1,n2,n3⟩:=hn;intro y hy he;rcases aO.mp hy with hy|hy;(·exact n3 y.1 (ao.mpr ⟨y,hy,rfl⟩) e.1 (.head _) he);exact(bO.mp n2).1 (by rw[<-he];exact ao.mpr ⟨y,hy,rfl⟩)
 have Ca:∀l':List En,(∀y,y∈l'->y.1≠e.1)->(l'.map vU).map (λkv=>if kv.1=gB (e.1:Int)then(kv.1,V.ref a)else kv)=l'.map vU:=by intro l' GU;rw[be];refine cY λy hy=>?_;show(if(vU y).1=_ then _ else _)=_;rw[ah];intro hx;exact GU y hy (rJ (vZ hx))
 rw[h,aF,aR,aF,aR,Ca l λy hy=>uE y (bq _ hy),Ca r λy hy=>uE y (bF _ hy),aF,aR,aj (show(vU e).1=gB (e.1:Int)from rfl)];rfl
theorem OO{es:List En}{c:Nat}(h:∀e,e∈es->e.1≠c)(x:List Int)(a:aH):putK (es.map vU) (gB (c:Int)) (.ref a)=(es++[(c,x,a)]).map vU:=by unfold putK;rw[rN,Bo h,aF];rfl
inductive U5 (K:ai) (vs:List V) (H:Hp) (Q:VK) (E:XK):Prop|mk (a:aH) (eqs:List (List Int)) (p n:Nat) (_:vs=[.ref a,.int p]) (_:LL H a eqs) (_:Pr p) (_:p<2^60) (_:n<=100) (_:eqs.length<=100) (_:(∀l,l∈eqs->Vc p n l)) (_:∀H' d es,bC H H'->Zd K H' d es->(∀e,e∈es->Vc p n e.2.1)->NH n (f_ p es)->(∀v,Rf n (f_ p es) v↔∀l,l∈eqs->dot n (vz p l) v=0)->es.length<=eqs.length->Q (.ref d) H')
structure ahl(K:ai)(H:Hp)(d:aH)(p n j:Nat)(eqs:List (List Int))(es:List En):Prop where
 dct:Zd K H d es
 vc:∀e,e∈es->Vc p n e.2.1
 YM:NH n (f_ p es)
 sol:∀v,Rf n (f_ p es) v↔∀l,l∈eqs.take j->dot n (vz p l) v=0
 len:es.length<=j
theorem mi{p:Nat}{es:List En}{e:En}(h:e∈es):(e.1,vz p e.2.1)∈f_ p es:=ao.mpr ⟨e,h,rfl⟩
theorem YD{p:Nat}(hp:Pr p){z:Int}(h0:z≠0)(h1:0<=z)(h2:z<p):iZ z p=1:=by
 obtain⟨u,v,re⟩:=hp.cop (a:=z) (λk=>by have:=fJ ⋯ k;lia);have d1:=mY z p;have d2:=iY z p;have:((iZ z p:Nat):Int)∣1:=by rw[<-re];exact yJ (e_ d2) (e_ d1)
 have:=fJ ∅ this;have h3:iZ z p≠0:=λk=>by rw[uC]at k;lia
 lia
def Rg(d:aH)(H H':Hp):Prop:=∀b o,b≠d->H b=some o->H' b=some o
theorem VZ{p:Nat}(t:Int)(row:List Int)(i:Nat):vz p (row.map λy=>t*y%(p:Int)) i=(Tk.red p).f t*vz p row i:=by
 unfold vz;by_cases hi:i<row.length;·(have e:(row.map λy=>t*y%(p:Int)).getD i 0=t*row.getD i 0%(p:Int):=by simp only[aD,aE,aa hi];rfl);rw[e,qw,gJ.mul]
 have e1:∀l:List Int,l.length<=i->l.getD i 0=0:=λl hl=>by simp[aD,aG hl]
 rw[e1 row ⋯,e1 _ (by rw[ab];lia),gJ.zero];grind
inductive IvY (K:ai) (a d:aH) (p n:Nat) (eqs:List (List Int)) (j:Nat) (Z:L2.St) (H':Hp):Prop|mk (v3 v4 v5 v6 v7 v8:Option V) (es:List En) (_:Z=[some (.ref a),some (.int p),some (.ref d),v3,v4,v5,v6,v7,v8,none]) (_:ahl K H' d p n j eqs es)
inductive IvZ (K:ai) (a d q:aH) (p n:Nat) (es:List En) (ZT:List Int) (v7 v8:Option V) (i:Nat) (Z:L2.St) (H':Hp):Prop|mk (v5 v6:Option V) (r:aH) (row:List Int) (_:Z=[some (.ref a),some (.int p),some (.ref d),some (.ref q),some (.ref r),v5,v6,v7,v8,none]) (_:IL K H' r row) (_:Vc p n row) (_:∀e,e∈es.take i->vz p row e.1=0) (_:∀v,Rf n (f_ p es) v->dot n (vz p row) v=dot n (vz p ZT) v)
inductive IvB (K:ai) (a d q D1:aH) (p n c:Nat) (t:Int) (es:List En) (xH:List Int) (i:Nat) (Z:L2.St) (H':Hp):Prop|mk (v5 v6:Option V) (FV:List En) (_:Z=[some (.ref a),some (.int p),some (.ref d),some (.ref q),some (.ref D1),v5,v6,some (.int c),some (.int t),none]) (_:Zd K H' d (FV++es.drop i)) (_:f_ p FV=((f_ p es).take i).map (Tk.clear c (vz p xH))) (_:(∀e,e∈FV->Vc p n e.2.1))
theorem Xb{f:aH}{fd:fY}(F:Fn K "solved" 33 f fd)(T:Bt mg)(qd:ij P w K mg base "without_column" 1 (aac K))(Ab:ij P w K mg base "first_filled" 1 (aan K))(jd:ij P w K mg base "number_inverse" 1 C0):dm P w K mg base je 2 f fd ["equations","prime"] (U5 K):=by
 refine lJ ["equations","prime","pivots","equation","row","column","pivot","chosen","scale","number"] F λH Q E S hr h=>?_;obtain⟨a,eqs,p,n,rfl,hL,hp,NB,hn,hel,hvc,k⟩:=h;have hp2:=hp.1;have h6:(2:Nat)^60<Bi:=pd ∅;obtain⟨ps,hL1,VE,hL3⟩:=hL;refine⟨_,(ak (eT 2 S O1) (ak (gM a9 rfl (Ax (K:=K) (pv 0)) (my 3 S) (ak (eT 4 S (pv 3)) (ak (J3 (gM a9 rfl (E9 (pv 2)) (Nz (K:=K) (n:=2) rfl (eu (my 5 S) (eu (my 6 S) kU))) (aJ (eT 4 S (pU qd hr (cf (pv 4) (cf (pv 5) (io (pv 6) (pv 1))))))))) (ak (eT 7 S (pU Ab hr (g7 (pv 4)))) (aJ (fO (uf (yp (pv 7))) (ak (eT 8 S (pU jd hr (io (rd K (pv 4) (pv 7)) (pv 1)))) (ak (W4 4 [("number",9)] S (Ax (K:=K) (pv 4)) (my 9 S) iH (bW iK (bW ez (pv 8) (pv 9)) (pv 1))) (ak (gM a9 rfl (Ax (K:=K) (wt (z5 rfl) (by rfl) T.list kK (g7 (pv 2)))) (my 5 S) (aJ (J4 (FE hr) (pv 2) (pv 5) (pU qd hr (cf (SJ (FE hr) (pv 2) (pv 5) (λ_ _=>rfl)) (cf (pv 7) (io (pv 4) (pv 1))))) rfl))) (aJ (J4 (FE hr) (pv 2) (pv 7) (pv 4) rfl))))) dg)))))) (aJ (bQ (pv 2))))),?_⟩;ext;intro d hd;refine l9 rfl (cu.of (aP hd _ _ hL1)) (λj Z H'=>bC H H'/\IvY K a d p n eqs j Z H') ?_ (λi Z H' _ h=>cu.of (h.1 _ _ hL1)) ?_ ?_;.refine⟨aP hd,_,_,_,_,_,_,[],rfl,⟨⟨am,by simp⟩,by simp,NH.nil n,λv=>⟨λ_=>by simp,λ_=>by intro x hx;cases hx⟩,bX _⟩⟩
 .rintro j x Z H1 hx ⟨s1,v3,v4,v5,v6,v7,v8,es,rfl,hI⟩ W hW;(obtain⟨q,hq,rfl⟩:∃q,ps[j]?=some q/\x=.ref q:=by rw[aE]at hx;obtain⟨q,hq,e⟩:=b9.mp hx;exact⟨q,hq,e.symm⟩);have hjp:=(ax.mp hq).1;have Yk:j<eqs.length:=⋯;have RO:TL H1 q eqs[j]:=s1 _ _ (hL3 j q eqs[j] hq (aa Yk));have hem:eqs[j]∈eqs:=ba Yk;generalize hE:eqs[j]=ZT at*;(have hnd:(es.map (·.1)).Nodup:=by have:=hI.YM.nd;rwa[f_,be]at this);ext;refine EM rfl hI.dct.at' (λi Z H'=>IvZ K a d q p n es ZT v7 v8 i Z H') ?_ ?_ ?_;(·intro o;exact⟨_,_,q,ZT,rfl,cu.cE (cu.of RO) (pZ (.inl hI.dct.at')),hvc _ hem,by simp,λv _=>rfl⟩);(·rintro o i ky v Z H2 U hky s2 ⟨v5,v6,r,row,rfl,hr',RM,hr0,hrs⟩ hU D' Y hY;rw[aE]at hky;obtain⟨e,he,hke⟩:=b9.mp hky;cases hke;have FM:=a_ he;have s3:=aP (o:=HO.tup [V.int (e.1:Nat),V.ref e.2.2]) hU;refine⟨U,_,rfl,.inl (.inl am),rfl,_,_,rfl,_,_,rfl,rfl,?_⟩;ext;have hil:IL K (cE H1 d (.lQ o (.dK (es.map vU)))) e.2.2 e.2.1:=cu.cE (hI.dct.row e FM) (pZ (.inl hI.dct.at'));refine⟨r,e.2.2,row,e.2.1,e.1,p,n,rfl,s3.seq hr',s3.seq (s2.seq hil),hp2,NB,hn,hI.YM.lt _ (mi FM),RM,hI.vc e FM,λH3 r' aax s4 h3 h4 h5=>?_⟩;(have hE1:∀v,dot n (vz p aax) v=dot n (vz p row) v-vz p row e.1*dot n (vz p e.2.1) v:=by intro v;rw[<-vq];congr 1;funext i;exact h5 i);refine hY _ _ (s2.trans (s3.trans s4)) ⟨_,_,r',aax,rfl,h3,h4,?_,?_⟩;(·intro y hy;have hi:=(ax.mp he).1;rw[aW hi]at hy;(have hei:es[i]=e:=by have:=aa hi;rw[he]at this;exact(aZ this).symm);rw[h5];have hone:vz p e.2.1 e.1=1:=hI.YM.one _ (mi FM);by_cases Zn:y.1=e.1;(·rw[Zn,hone];grind);rcases aO.mp hy with h|h;(·have afD:vz p e.2.1 y.1=0:=hI.YM.off _ _ (mi FM) (mi (sY h)) (λh=>Zn h.symm);rw[hr0 y h,afD];grind);rw[a6]at h;rw[h,hei]at Zn;exact ap rfl Zn);intro v hv;rw[hE1 v,hrs v hv,hv _ (mi FM)];grind);rintro o Z H2 s2 hf s2' ⟨v5,v6,r,row,rfl,hr',RM,hr0,hrs⟩;rw[ab,bR]at hr0;generalize hH3:cE H2 d (.dK (es.map vU))=H3 at*;(have RN:IL K H3 r row:=by rw[<-hH3];exact cu.cE hr' (pZ (.inr ⟨o,hf⟩)));ext;have hD3:=hI.dct.same s2';(have htk:eqs.take (j+1)=eqs.take j++[ZT]:=by rw[aW Yk,hE]);refine⟨r,row,rfl,RN,λH4 c s4 hc hcz=>?_,λH4 s4 hz=>?_⟩;(·rw[RM.len]at hc;have hza:=RM.at ⋯ c;refine dA (λ_=>?_) (λh=>ap (by simp) h);refine⟨_,_,rfl,s4.seq RN,_,eJ (by rw[RM.len];exact hc),?_⟩;refine⟨row.getD c 0,p,rfl,hp2,⋯,YD hp hcz hza.1 hza.2,λH5 t s5 ht0 XU XT=>?_⟩;have s45:=s4.trans s5;refine nw rfl (s45.seq RN) (by rw[ab,RM.len];exact bT ⋯) (L4 λy=>.int (t*y%(p:Int))) ?_ ?_;(·intro z hz H' Q' h2 k2;obtain⟨z,Eg,rfl⟩:=ao.mp hz;ext;have:=RM.zc z Eg;refine⟨kz ⋯ ⋯,⋯,?_⟩;rw[mK _ ⋯];exact k2 H' (bC.refl _));intro H6 D1 s6 hD1;have s46:=s45.trans s6;(have PY:TL H6 D1 (row.map λy=>t*y%(p:Int)):=by rw[TL,hD1,be,be];congr 1);(have hv1:Vc p n (row.map λy=>t*y%(p:Int)):=by refine⟨by rw[ab];exact RM.len,λx hx=>?_⟩;obtain⟨y,_,rfl⟩:=ao.mp hx;exact⟨dr _ ⋯,cW _ ⋯⟩);have hz1:∀i,vz p (row.map λy=>t*y%(p:Int)) i=(Tk.red p).f t*vz p row i:=VZ t row;generalize ve:(row.map λy=>t*y%(p:Int))=xH at*;(have htz:(Tk.red p).f t*vz p row c=1:=by have h:(Tk.red p).f (row.getD c 0*t-1)=0:=cp.dh.mpr (gr.mpr XT);rw[gJ.sub,gJ.mul,gJ.one]at h;show(Tk.red p).f t*(Tk.red p).f (row.getD c 0)=1;grind);(have hone:vz p xH c=1:=by rw[hz1,htz]);(have PN:∀e,e∈es->vz p xH e.1=0:=λe he=>by rw[hz1,hr0 e he];grind);(have abX:∀e,e∈es->e.1≠c:=by intro e he h;have:=hr0 e he;rw[h]at this;exact hcz ((RM.zero ⋯).mp this));have ZQ:=hD3.same s46;have hdD:d≠D1:=zr ZQ.at' PY (by intro z;cases z);rw[JO];ext;refine⟨_,ZQ.at',λl hl=>?_⟩;(have hld:l≠d:=λh=>by rw[h,ZQ.at']at hl;cases hl);have hs7:=aP (o:=.lst ((es.map vU).map λkv=>kV kv.1)) hl;refine KI (cu.of am) (λi Z H'=>Rg d (cE H6 l (.lst ((es.map vU).map λkv=>kV kv.1))) H'/\IvB K a d q D1 p n c t es xH i Z H') ⟨λ_ _ _ h=>h,_,_,[],rfl,by rw[gE,oA];exact ZQ.same hs7,by simp[f_],by simp⟩ ?_ ?_ ?_;(·rintro i Z H' _ ⟨sd,_⟩;exact cu.of (sd _ _ hld am));(·rintro i x Z H7 hx ⟨sd,v5,v6,FV,rfl,RR,Vr,hv7⟩ Y hY;rw[be,aE]at hx;obtain⟨e,he,rfl⟩:=b9.mp hx;have hi:=(ax.mp he).1;have FM:=a_ he;(have VC:es.drop i=e::es.drop (i+1):=by rw[oV hi];have:=aa hi;rw[he]at this;rw[<-aZ this]);(have Kz:FV.length=i:=by have:=aK fR Vr;simp only[f_,ab,da]at this;lia);rw[VC]at RR;(have Qb:(FV++e::es.drop (i+1)).map (·.1)=es.map (·.1):=by(have h1:FV.map (·.1)=(es.take i).map (·.1):=by have:=aK (Hg (·.1)) Vr;rwa[f_,f_,be,be,<-uA,be]at this);rw[aF,h1,<-aF,<-VC,jM]);(have abZ:((FV++e::es.drop (i+1)).map (·.1)).Nodup:=by rw[Qb];exact hnd);have Qa:tf ((FV++e::es.drop (i+1)).map vU) (gB (e.1:Int))=some (.ref e.2.2):=Z1 abZ (i:=FV.length) (by simp);ext;refine⟨.ref e.2.2,.inl ⟨_,gB (e.1:Int),.inl RR.at',rfl,Qa.symm⟩,?_⟩;refine⟨e.2.2,D1,e.2.1,xH,c,p,n,rfl,RR.row e (by simp),cu.of (sd _ _ hdD.symm (hs7 _ _ PY)),hp2,NB,hn,hc,hI.vc e FM,hv1,λH8 a8 l8 s8 h8 hv8 hz8=>?_⟩;have NE:=RR.same s8;refine⟨_,Ji.k (k:=gB (e.1:Int)) NE.at' (by rw[ab];have:=aK fR Qb;simp only[ab]at this;rw[this];exact bT (by have:=hI.len;lia)),hY _ _ ⟨?_,_,_,FV++[(e.1,l8,a8)],rfl,?_,?_,?_⟩⟩;(·intro b o hb h;rw[aM hb];exact s8 _ _ (sd b o hb h));(·rw[aeC abZ rfl l8 a8,iU,rG];refine⟨am,λy hy=>?_⟩;refine cu.cE ?_ (pZ (.inl NE.at'));rcases aO.mp hy with h|h;(·exact NE.row y (bq _ h));rcases bi.mp h with h|h;(·rw[h];exact h8);exact NE.row y (bF _ (al _ h)));(·(have Mu:i<(f_ p es).length:=by rw[f_,ab];exact hi);(have hgi:(f_ p es)[i]=(e.1,vz p e.2.1):=by apply aZ;rw[<-aa Mu,f_,aE,he];rfl);rw[aW Mu,hgi,aF,<-Vr];unfold f_;rw[aF,jr,jr];congr 2;unfold Tk.clear;refine Prod.ext rfl ?_;funext x;exact hz8 x);intro y hy;rcases aO.mp hy with h|h;(·exact hv7 y h);rw[a6]at h;rw[h];exact hv8);rintro Z H7 ⟨sd,v5,v6,FV,rfl,RR,Vr,hv7⟩;(have RQ:((es.map vU).map λkv=>kV kv.1).length=es.length:=by simp);rw[RQ]at RR Vr;rw[NR,eN]at RR;(have hrl:(f_ p es).take es.length=f_ p es:=by(have:es.length=(f_ p es).length:=by rw[f_,ab]);rw[this,bR]);rw[hrl]at Vr;(have Qb:FV.map (·.1)=es.map (·.1):=by have:=aK (Hg (·.1)) Vr;rwa[f_,f_,be,be,be]at this);(have afK:∀e,e∈FV->e.1≠c:=by intro e he h;(have:e.1∈es.map (·.1):=by rw[<-Qb];exact ao.mpr ⟨e,he,rfl⟩);obtain⟨e',he',h'⟩:=ao.mp this;exact abX e' he' (by rw[h',h]));(have Kz:FV.length=es.length:=by have:=aK fR Qb;simpa using this);ext;(have abR:f_ p (FV++[(c,xH,D1)])=(f_ p es).map (Tk.clear c (vz p xH))++[(c,vz p xH)]:=by rw[<-Vr,f_,aF];rfl);refine⟨_,Ji.k (k:=gB (c:Int)) RR.at' (by rw[ab,Kz];exact bT (by have:=hI.len;lia)),hW _ _ ⟨?_,_,_,_,_,_,_,FV++[(c,xH,D1)],rfl,?_,?_,?_,?_,?_⟩⟩;(·have hHd:=hd;exact dn (λb o h=>sd b o (bB h hHd) (hs7 _ _ (s46 _ _ (s2' _ _ (s1 _ _ h))))) hHd);(·rw[OO afK xH D1];refine⟨am,λy hy=>?_⟩;refine cu.cE ?_ (pZ (.inl RR.at'));rcases aO.mp hy with h|h;(·exact RR.row y h);rw[a6]at h;rw[h];exact cu.of (sd _ _ hdD.symm (hs7 _ _ PY)));(·intro y hy;rcases aO.mp hy with h|h;(·exact hv7 y h);rw[a6]at h;rw[h];exact hv1);(·rw[abR];refine hI.YM.more hc hone ?_ ?_;(·intro x hx;obtain⟨e,he,rfl⟩:=ao.mp hx;exact PN e he);intro x hx;obtain⟨e,he,rfl⟩:=ao.mp hx;exact abX e he);(·intro v;rw[abR,EU,hI.sol v,htk];(have RL:dot n (vz p xH) v=(Tk.red p).f t*dot n (vz p row) v:=by rw[<-Cm];congr 1;funext i;exact hz1 i);constructor;(·rintro⟨h1,h2⟩ l hl;rcases aO.mp hl with h|h;(·exact h1 l h);rw[a6]at h;rw[h,<-hrs v ((hI.sol v).mpr h1)];rw[RL]at h2;grind);intro h;have h1:∀l,l∈eqs.take j->dot n (vz p l) v=0:=λl hl=>h l (bq _ hl);refine⟨h1,?_⟩;rw[RL,hrs v ((hI.sol v).mpr h1),h ZT (by simp)];grind);rw[bw,Kz];have:=hI.len;simp only[a7,cV];lia);refine dA (λh=>ap h (by simp)) (λ_=>?_);refine hW _ _ ⟨s1.trans (s2'.trans s4),_,_,_,_,_,_,es,rfl,hD3.same s4,hI.vc,hI.YM,λv=>?_,by have:=hI.len;lia⟩;rw[htk];(have h0:dot n (vz p row) v=0:=by unfold dot;(have:(λi=>vz p row i*v i)=λ_=>0:=by funext i;(have hz0:row.getD i 0=0:=by by_cases hi:i<row.length;(·simp only[aD,aa hi];exact hz _ (ba hi));simp[aD,aG (show row.length<=i by lia)]);have:=(RM.zero ⋯).mpr hz0;rw[this];grind);rw[this,kT]);constructor;(·intro h l hl;rcases aO.mp hl with h2|h2;(·exact(hI.sol v).mp h l h2);rw[a6]at h2;rw[h2,<-hrs v h];exact h0);intro h;exact(hI.sol v).mpr λl hl=>h l (bq _ hl)
 rintro Z H1 ⟨s1,v3,v4,v5,v6,v7,v8,es,rfl,hI⟩;rw[ab,VE]at hI;ext;refine k H1 d es s1 hI.dct hI.vc hI.YM (λv=>?_) hI.len;rw[hI.sol v,bR]
theorem CT{kvs:List (Key×V)}(hZ:Z[j]?=some (some (.ref d)))(hd:H d=some (.dK kvs))(R:kY->Nat->L2.St->Hp->Prop)(hf:∀o i Z H',R o i Z H'->H' d=some (.lQ o (.dK kvs)))(h0:∀o,R o 0 Z (cE H d (.lQ o (.dK kvs))))(hs:∀o (i:Nat) k v Z H' T,kvs[i]?=some (k,v)->R o i Z H'->H' T=none->∀(D':Ends) (W:L2.St->Hp->Prop),(∀Z H,R o (i+1) Z H->W Z H)->g (.ref T) Z (cE H' T (.tup [kV k,v])) λσ2 H2=>tb {D' with nx:=W,ct:=W,bk:=D'.nx} σ2 H2)(he:∀o Z' H',R o kvs.length Z' H'->D.nx Z' (cE H' d (.dK kvs))):Oe (EN (Ik (tV j)) g tb) D Z H:=by
 simp only[pN];refine⟨d,.dK kvs,hd,trivial,λod=>?_⟩;refine⟨_,hZ,d,od,kvs,rfl,am,λi m Z H'=>m=kvs.length-i/\i<=kvs.length/\R od i Z H',⟨kvs.length,by simp,bX _,h0 od⟩,?_⟩;rintro i m Z H' ⟨rfl,hi,r1⟩;by_cases hlt:i<kvs.length;.refine .inr ⟨⟨hf _ _ _ _ r1,hlt⟩,R od (i+1),λZ' H' p'=>⟨kvs.length-(i+1),⋯,rfl,hlt,p'⟩,λx H2 y=>?_⟩;obtain⟨T,k,v,e,rfl,hT,rfl⟩:=y;exact hs od i k v Z H' T e r1 hT _ _ λ_ _ z=>z
 have e:i=kvs.length:=⋯;subst e;exact .inl ⟨⟨hf _ _ _ _ r1,aw _⟩,hf _ _ _ _ r1,he od Z H' r1⟩
theorem cu.aau{xs:List V}(h:cu K H a xs)(hn:H d=none)(sd:Rg d H H'):cu K H' a xs:=by
 rcases h with h|h;.refine .inl ?_;rcases h with h|⟨o,h⟩;(·exact .inl (sd _ _ (bB h hn) h));exact .inr ⟨o,sd _ _ (bB h hn) h⟩
 exact .inr h
theorem T7(hp:Pr p)(vW:Mo fs)(hn:n=fs.length-1)(hR:DY p fs n rows)(hE:Rn p n rows eqs)(hl:eqs.length=n)(hs:∀v,Rf n (f_ p es) v↔∀l,l∈eqs->dot n (vz p l) v=0)(hv:v.Lt n):Dv (az p fs) (v^p-v)↔Rf n (f_ p es) v.c:=by
 have hm:(az p fs).bD n:=by rw[hn];exact vW.ju
 rw[KL hp hm (λi=>az p (rows.getD i [])) ?_ ?_ hv,hs];·(have key:∀k l,eqs[k]?=some l->dot n (vz p l) v.c=dot n (λi=>(az p (rows.getD i [])).c k-if i=k then 1 else 0) v.c:=by intro k l hkl;refine bJ λi hi=>?_;rw[hE.eq k l hkl i hi];rfl);constructor;(·intro h l hl;obtain⟨k,hk,rfl⟩:=cO.mp hl;rw[key k _ (aa hk)];exact h k ⋯);intro h k hk;rw[<-key k (eqs[k]'⋯) (aa ⋯)];exact h _ (ba _)
 .intro i hi;(have Mu:i<rows.length:=by rw[hR.len];exact hi);(have e:rows.getD i []=rows[i]:=by simp[aD,aa Mu]);rw[e];exact(uX p _).mono (by rw[hn];exact(hR.red _ (ba Mu)).2)
 intro i hi;have Mu:i<rows.length:=by rw[hR.len];exact hi
 have e:rows.getD i []=rows[i]:=by simp[aD,aa Mu]
 rw[e];exact hR.row i _ (aa Mu)
noncomputable def vj(es:List En)(i:Nat):Bool:=es.all λe=>decide (e.1≠i)
theorem KH:vj es i=true↔∀x,x∈f_ p es->x.1≠i:=by
 unfold vj f_;rw[fu];constructor;.intro h x hx;obtain⟨e,he,rfl⟩:=ao.mp hx;simpa using h e he
 intro h e he;simpa using h _ (ao.mpr ⟨e,he,rfl⟩)
theorem Gk(hE:NH n (f_ p es))(hs:∀v,v.Lt n->(Dv f (v^p-v)↔Rf n (f_ p es) v.c))(g:Nat->List Int)(hg:∀i,i<n->vj es i=true->(g i).length=n/\ZY n (f_ p es) i (vz p (g i))):Ae f n ((((aX n).filter (vj es)).map g).map (az p))/\∀b,b∈((aX n).filter (vj es)).map g->Dv f (az p b^p-az p b):=by
 constructor;.intro v hv Yl;have XZ:=(hs v hv).mp Yl;have zG:=ET hE (vj es) (λi _=>KH) (λi=>vz p (g i)) (λi hi hf=>(hg i hi hf).2) XZ;refine⟨λi=>v.c (((aX n).filter (vj es)).getD i 0),?_⟩;(have e0:((((aX n).filter (vj es)).map g).map (az p)).length=((aX n).filter (vj es)).length:=by simp);rw[e0];apply ag.ext;intro k;rw[ag.DN];(have e1:∀i,i<((aX n).filter (vj es)).length->(ag.C (v.c (((aX n).filter (vj es)).getD i 0))*((((aX n).filter (vj es)).map g).map (az p)).getD i 0).c k=v.c (((aX n).filter (vj es)).getD i 0)*vz p (g (((aX n).filter (vj es)).getD i 0)) k:=by intro i hi;rw[ag.cA];congr 1;(have:((((aX n).filter (vj es)).map g).map (az p)).getD i 0=az p (g (((aX n).filter (vj es)).getD i 0)):=by simp only[aD,aE,aa hi];rfl);rw[this];rfl);rw[bJ e1];by_cases hk:k<n;(·rw[zG k hk];exact wY (vj es) (λf=>v.c f*vz p (g f) k) 0 n);rw[hv k ⋯];refine(eR λi hi=>?_).symm;(have hm:(((aX n).filter (vj es)).getD i 0)∈(aX n).filter (vj es):=by simp only[aD,aa hi];exact ba hi);have hm2:=dF.mp hm;have Iv:=(hg _ (cr.mp hm2.1) hm2.2).1;(have:vz p (g (((aX n).filter (vj es)).getD i 0)) k=0:=by generalize g (((aX n).filter (vj es)).getD i 0)=l at Iv;unfold vz;rw[show l.getD k 0=0 from by simp[aD,aG (show l.length<=k by lia)],gJ.zero]);rw[this];grind
 intro b hb;obtain⟨i,hi,rfl⟩:=ao.mp hb;have hm2:=dF.mp hi;have hin:=cr.mp hm2.1;have h:=hg i hin hm2.2;refine(hs _ ((uX p _).mono ⋯)).mpr ?_;exact h.2.sol hE hin (KH.mp hm2.2)
structure Bas(p:Nat)(fs:List Int)(bs:List (List Int)):Prop where
 vc:∀b,b∈bs->Vc p (fs.length-1) b
 spans:Ae (az p fs) (fs.length-1) (bs.map (az p))
 fix:∀b,b∈bs->Dv (az p fs) (az p b^p-az p b)
 len:bs.length<=fs.length-1
inductive aao (K:ai) (vs:List V) (H:Hp) (Q:VK) (E:XK):Prop|mk (a:aH) (fs:List Int) (p:Nat) (_:vs=[.ref a,.int p]) (_:IL K H a fs) (_:Pr p) (_:p<2^60) (_:ke p fs) (_:Mo fs) (_:2<=fs.length) (_:fs.length<=100) (_:∀H' q bs,bC H H'->LL H' q bs->Bas p fs bs->Q (.ref q) H')
inductive aho (a d B Fx:aH) (H5:Hp) (p n j:Nat) (es:List En) (o:kY) (i:Nat) (Z:L2.St) (H':Hp):Prop|mk (v7 v8:Option V) (fl:List Int) (_:Z=[some (.ref a),some (.int p),some (.int n),some (.ref d),some (.ref B),some (.int j),some (.ref Fx),v7,v8]) (_:Rg Fx (cE H5 d (.lQ o (.dK (es.map vU)))) H') (_:TL H' Fx fl) (_:Vc p n fl) (_:vz p fl j=1) (_:∀e,e∈es.take i->vz p fl e.1=-vz p e.2.1 j) (_:∀x,x<n->x≠j->(∀e,e∈es.take i->e.1≠x)->vz p fl x=0)
inductive ahq (a d B:aH) (p n:Nat) (es:List En) (j:Nat) (Z:L2.St) (H':Hp):Prop|mk (v5 v6 v7 v8:Option V) (_:Z=[some (.ref a),some (.int p),some (.int n),some (.ref d),some (.ref B),v5,v6,v7,v8]) (g:Nat->List Int) (_:LL H' B (((aX j).filter (vj es)).map g)) (_:∀i,i<j->vj es i=true->Vc p n (g i)/\ZY n (f_ p es) i (vz p (g i)))
theorem abm(F:Fn K "fixed_basis" 34 f fd)(T:Bt mg)(vL:ij P w K mg base "fixed_equations" 7 (Vb K))(Q_:ij P w K mg base "solved" 2 (U5 K)):dm P w K mg base je 8 f fd ["f","prime"] (aao K):=by
 refine lJ ["f","prime","degree","pivots","basis","free","fixed","column","pivot"] F λH Q E S hr h=>?_;obtain⟨a,fs,p,rfl,ha,hp,NB,tx,vW,Qg,hfl,k⟩:=h;have hp2:=hp.1;refine⟨_,(ak (eT 2 S (bW f6 (pL K T.len (pv 0)) aY)) (ak (eT 3 S (pU Q_ hr (io (pU vL hr (io (pv 0) (pv 1))) (pv 1)))) (ak (eT 4 S (db lH)) (ak (gM a9 rfl (nL (by rfl) T.range (g7 (pv 2))) (my 5 S) (aJ (fO (uf (LY (FE hr) (pv 5) (pv 3))) (ak (eT 6 S (bW ez (db (g7 aY)) (pv 2))) (ak (zh aY (zj (pv 6) (pv 5) set_list)) (ak (J3 (gM a9 rfl (E9 (pv 3)) (Nz (K:=K) (n:=2) rfl (eu (my 7 S) (eu (my 8 S) kU))) (aJ (zh (bW iK (ln jc (rd K (pv 8) (pv 5))) (pv 1)) (zj (pv 6) (pv 7) set_list))))) (aJ (oK (xa eE f8 f7 nN (pv 4) (g7 (pv 6)))))))) dg))) (aJ (bQ (pv 4))))))),?_⟩;ext;refine⟨_,ha,a,fs,p,rfl,ha,hp,NB,tx,vW,Qg,hfl,λH1 q1 rows eqs s1 hL hel hR hE=>?_⟩;obtain⟨n,hn⟩:∃n,n=fs.length-1:=⟨_,rfl⟩;rw[<-hn]at hel hR hE;refine⟨q1,eqs,p,n,rfl,hL,hp,NB,⋯,⋯,hE.vc,λH2 d es s2 hd hvc Yo XZ hlen=>?_⟩;have hfs:=λv hv=>T7 hp vW hn hR hE hel XZ (v:=v) hv;refine⟨∅,λB hB=>?_⟩;have ss2:=s1.trans s2;rw[ab];have hne:((fs.length:Int)-1)=(n:Int):=⋯;rw[hne];have hBd:d≠B:=bB hd.at' hB;refine mI (n:=(n:Int)) (H1:=cE H2 B (HO.lst [])) ?_ ⋯ ⋯ (λj Z H'=>bC H2 H'/\ahq a d B p n es j Z H') ⟨aP hB,none,none,none,none,rfl,λ_=>[],⟨[],am,rfl,by simp⟩,λi hi=>ap hi ⋯⟩ ?_ ?_;.intro R hR;ext;exact hR
 .rintro j Z H3 hj ⟨s3,v5,v6,v7,v8,rfl,g,hLB,hg⟩ W hW;have Ir:j<n:=⋯;have NF:=hd.same s3;ext;refine⟨_,.inl ⟨_,gB (j:Int),.inl NF.at',rfl,rfl⟩,?_⟩;refine dA (λA1=>?_) (λA1=>?_)
  .have ace:∀e,e∈es->e.1≠j:=by
    intro e he h;have hm:(gB (j:Int))∈(es.map vU).map (·.1):=ao.mpr ⟨vU e,ao.mpr ⟨e,he,rfl⟩,by rw[<-h];rfl⟩;cases hv:tf (es.map vU) (gB (j:Int))with
     |none=>exact N2 hv hm
     |some v=>rw[hv]at A1;simp at A1
   (have TY:vj es j=true:=by unfold vj;rw[fu];intro e he;simpa using ace e he);refine⟨∅,λp0 kd=>?_⟩;have t0:=aP (o:=HO.lst [V.int 0]) kd;refine⟨_,am,?_⟩;simp only[ck,kt];refine⟨⋯,⋯,by rw[dM];exact bV (bT ⋯),λFx VF=>?_⟩;rw[rep0,dM];generalize hH4:cE H3 p0 (HO.lst [V.int 0])=H4 at*;have agX:H3 Fx=none:=t0.free VF;have hd4:Zd K H4 d es:=NF.same t0;have hdF:d≠Fx:=bB hd4.at' VF;refine⟨_,am,j,mz (by simp;lia),?_⟩;rw[ya,<-iS];(have agf:Vc p n ((aQ n (0:Int)).set j 1):=by refine⟨by simp,λx hx=>?_⟩;rcases fX hx with h|h;(·rw[(Lk.mp h).2];lia);rw[h];lia);(have afl:∀x,(aQ n (0:Int)).getD x 0=0:=λx=>by simp only[aD,gz];split<;>rfl);(have hv1:vz p ((aQ n (0:Int)).set j 1) j=1:=by unfold vz;rw[jw _ _ _ _ (by simpa using Ir),aj rfl,gJ.one]);(have Vp:∀x,x≠j->vz p ((aQ n (0:Int)).set j 1) x=0:=by intro x hx;unfold vz;rw[jw _ _ _ _ (by simpa using Ir),ah hx,afl,gJ.zero]);generalize alz:(aQ n (0:Int)).set j 1=fl0 at*;generalize hH5:cE H4 Fx (HO.lst (fl0.map V.int))=H5 at*;(have t5:bC H4 H5:=by rw[<-hH5];exact aP VF);have VD:=hd4.same t5;refine CT rfl VD.at' (λo i Z H'=>H' d=some (.lQ o (.dK (es.map vU)))/\aho a d B Fx H5 p n j es o i Z H') (λo i Z H' h=>h.1) ?_ ?_ ?_;(·intro o;refine⟨am,_,_,fl0,rfl,λ_ _ _ h=>h,?_,agf,hv1,by simp,λx _ hx _=>Vp x hx⟩;rw[TL,aM hdF.symm,<-hH5,am]);(·rintro o i ky v Z H6 U hky ⟨hf6,v7,v8,fl,rfl,sd,TZ,Ml,hj1,hpv,hz⟩ hU D' Y hY;rw[aE]at hky;obtain⟨e,he,hke⟩:=b9.mp hky;cases hke;have hem:=a_ he;have hi:=(ax.mp he).1;(have hei:es[i]=e:=by have:=aa hi;rw[he]at this;exact(aZ this).symm);have s7:=aP (o:=HO.tup [V.int (e.1:Nat),V.ref e.2.2]) hU;refine⟨U,_,rfl,.inl (.inl am),rfl,_,_,rfl,_,_,rfl,rfl,?_⟩;have hil:IL K (cE H4 d (.lQ o (.dK (es.map vU)))) e.2.2 e.2.1:=cu.cE (hd4.row e hem) (pZ (.inl hd4.at'));have afa:=hvc e hem;have wz:e.1<n:=Yo.lt _ (mi hem);(have af7:IL K (cE H6 U (HO.tup [V.int (e.1:Nat),V.ref e.2.2])) e.2.2 e.2.1:=by refine s7.seq (cu.aau hil (by rw[aM hdF.symm];exact VF) λb o hb h=>sd b o hb ?_);by_cases hbd:b=d;(·rw[hbd,am]at h ⊢;exact h);rw[aM hbd]at h ⊢;exact t5 _ _ h);ext;refine⟨_,af7,_,eJ (by rw[afa.len];exact Ir),_,rfl,⋯,?_⟩;have hFU:Fx≠U:=bB TZ hU;have hdU:d≠U:=bB hf6 hU;(have hel:e.1<fl.length:=by rw[Ml.len];exact wz);refine⟨fl.map V.int,e.1,rfl,by rw[aM hFU];exact TZ,e.1,mz (by rw[ab];exact hel),hY _ _ ⟨?_,_,_,fl.set e.1 ((-e.2.1.getD j 0)%(p:Int)),rfl,?_,?_,?_,?_,?_,?_⟩⟩;(·rw[aM hdF,aM hdU];exact hf6);(·intro b o' hb h;rw[aM hb];exact s7 _ _ (sd b o' hb h));(·rw[TL,am,iS,mK _ ⋯]);(·refine⟨by rw[ee];exact Ml.len,λx hx=>?_⟩;rcases fX hx with h|h;(·exact Ml.zc x h);rw[h];exact⟨dr _ ⋯,cW _ ⋯⟩);(·unfold vz;rw[jw _ _ _ _ hel,ah (λh=>ace e hem h.symm)];exact hj1);(·intro y hy;rw[aW hi,hei]at hy;unfold vz;rw[jw _ _ _ _ hel];rcases aO.mp hy with h|h;(·(have Zn:y.1≠e.1:=by intro hh;obtain⟨i',hi',rfl⟩:=cO.mp h;(have af8:i'<i:=by rw[da]at hi';lia);rw[List.getElem_take]at hh;(have hnd:(es.map (·.1)).Nodup:=by have:=Yo.nd;rwa[f_,be]at this);have:=fW.mp hnd i' i (by rw[ab];lia) (by rw[ab];lia) af8;rw[NQ,NQ,hei]at this;exact this hh);rw[ah Zn];exact hpv y h);rw[a6]at h;rw[h,aj rfl,qw,gJ.neg]);intro x hx hxj hxe;have ae5:x≠e.1:=λh=>hxe e (by rw[aW hi,hei];simp) h.symm;unfold vz;rw[jw _ _ _ _ hel,ah ae5];exact hz x hx hxj λy hy=>hxe y (by rw[aW hi];exact bq _ hy));rintro o Z H6 ⟨hf6,v7,v8,fl,rfl,sd,TZ,Ml,hj1,hpv,hz⟩;rw[ab,bR]at hpv hz;obtain⟨ps,rE,hb2,Qm⟩:=hLB;have hB5:H5 B=some (.lst (ps.map V.ref)):=t5 _ _ (t0 _ _ rE);have hBF:B≠Fx:=bB (t0 _ _ rE) VF;(have back:∀b o',b≠Fx->H5 b=some o'->cE H6 d (.dK (es.map vU)) b=some o':=by intro b o' hb h;by_cases hbd:b=d;(·rw[hbd]at h ⊢;rw[am];rwa[VD.at']at h);rw[aM hbd];exact sd b o' hb (by rw[aM hbd];exact h));(have hFl:TL (cE H6 d (.dK (es.map vU))) Fx fl:=by rw[TL,aM hdF.symm];exact TZ);generalize hH7:cE H6 d (.dK (es.map vU))=H7 at*;have s7:bC H3 H7:=λb o' h=>back b o' (bB h agX) (t5 _ _ (t0 _ _ h));(have afP:ps.length<=j:=by rw[hb2,ab];exact br (rH _ _) (by rw[eF];exact aw _));ext;refine⟨.inl ⟨rfl,_,cu.of (back _ _ hBF hB5)⟩,_,back _ _ hBF hB5,by rw[ab];exact bT ⋯,hW _ _ ⟨?_,_,_,_,_,rfl,λx=>if x=j then fl else g x,?_,?_⟩⟩;(·exact dn (s3.trans s7) hB);(·(have Iv:((aX (j+1)).filter (vj es)).map (λx=>if x=j then fl else g x)=((aX j).filter (vj es)).map g++[fl]:=by rw[gD,ig,aF];simp only[gc,TY,nr,if_true,aR,cK];congr 1;refine cY λx hx=>?_;have:=cr.mp (dF.mp hx).1;rw[ah ⋯]);rw[Iv];refine LL.app (s7 _ _ rE) hb2 (λi q l h h'=>s7 _ _ (Qm i q l h h')) hFl (.inr λe=>?_);have:=Ml.len;rw[e,cV]at this;lia);intro i hi h;by_cases hij:i=j;(·rw[hij];simp only[if_true];refine⟨Ml,hj1,?_,?_⟩;(·intro x hx;obtain⟨e,he,rfl⟩:=ao.mp hx;exact hpv e he);intro x hx hxi hxe;exact hz x hx hxi λe he=>hxe _ (mi he));simp only[ah hij];exact hg i ⋯ h
  (have TY:vj es j=false:=by apply Bool.eq_false_iff.mpr;intro h;(have h2:tf (es.map vU) (gB (j:Int))=none:=Bo λe he=>by unfold vj at h;rw[fu]at h;simpa using h e he);rw[h2]at A1;exact A1 rfl);refine hW _ _ ⟨s3,_,_,_,_,rfl,g,?_,λi hi h=>?_⟩;(·rw[gD,ig];simp only[gc,TY,nr,d7,if_false,eN];exact hLB);by_cases hij:i=j;(·rw[hij,TY]at h;cases h);exact hg i ⋯ h
 rintro Z H3 ⟨s3,v5,v6,v7,v8,rfl,g,hLB,hg⟩;rw[dM]at hLB hg;ext;have hb:=Gk Yo hfs g (λi hi h=>⟨(hg i hi h).1.len,(hg i hi h).2⟩);refine k H3 B _ (ss2.trans s3) hLB ⟨?_,?_,hb.2,?_⟩;.intro b hb;obtain⟨i,hi,rfl⟩:=ao.mp hb;have hm2:=dF.mp hi;rw[<-hn];exact(hg i (cr.mp hm2.1) hm2.2).1
 .rw[<-hn];exact hb.1
 rw[ab,<-hn];exact br (rH _ _) (by rw[eF];exact aw _)
structure Pcs(p:Nat)(fs:List Int)(ls:List (List Int)):Prop where
 red:∀l,l∈ls->ke p l
 mo:∀l,l∈ls->Mo l
 two:∀l,l∈ls->2<=l.length
 prod:ag.prod (ls.map (az p))=az p fs
theorem aeY(p:Nat)(n:Nat):az p [(n:Int)]=ag.C (zm p n):=by
 apply ag.ext;intro i;cases i with
  |zero=>rfl
  |succ i=>show(Tk.red p).f ([(n:Int)].getD (i+1) 0)=0;simp[gJ.zero]
theorem Xx(h:(aA l).map (Tk.red p)=(aA ns-aA ms).map (Tk.red p)):az p l=az p ns-az p ms:=by rwa[ag.kW]at h
theorem Dvd.exact(hp:Pr p)(h:Dvd p ns ms q r)(hms:Mo ms)(NC:Mo ns)(hd:Dv (az p ms) (az p ns)):az p ns=az p ms*az p q/\Mo q:=by
 have mj:=cn hp;have hm:((aA ms).map (Tk.red p)).bD (ms.length-1):=hms.ju;obtain⟨x,hx⟩:=hd;have e:az p ns=az p ms*az p q+az p r:=by have:=h.eq;rwa[ag.gN,ag.cj]at this
 have e2:az p r=0:=by(have e3:az p ms*(x-az p q)=az p r:=by(have:az p ms*x=az p ms*az p q+az p r:=by rw[<-hx,e]);grind);(have hlt:(az p ms*(x-az p q)).Lt (ms.length-1):=by rw[e3];exact(uX p r).mono h.lt);have h0:=ag.bD.o7 (g:=az p ms) hm hlt;rw[<-e3,h0];grind
 have e4:az p ns=az p ms*az p q:=by rw[e,e2];grind
 refine⟨e4,?_⟩;obtain⟨h1,h2,h3⟩:=sL (g:=az p ms) hm (NC.ju (m:=p)) e4;rw[h.rq.size]at h1 h3;exact Kg hp.1 h.rq h1 h3
inductive aah (K:ai) (vs:List V) (H:Hp) (Q:VK) (E:XK):Prop|mk (a b:aH) (fs us:List Int) (p:Nat) (_:vs=[.ref a,.ref b,.int p]) (_:TL H a fs) (_:TL H b us) (_:Pr p) (_:p<2^60) (_:ke p fs) (_:Mo fs) (_:2<=fs.length) (_:fs.length<=100) (_:us.length<=100) (_:(az p fs).pC) (_:Dv (az p fs) (az p us^p-az p us)) (_:∀H' q ls,bC H H'->H q=none->LL H' q ls->Pcs p fs ls->(∀l,l∈ls->∃s,Dv (az p l) (az p us-ag.C s))->Q (.ref q) H')
structure PbI(p i:Nat)(fs us rs:List Int)(ls:List (List Int)):Prop where
 red:∀l,l∈ls->ke p l
 mo:∀l,l∈ls->Mo l
 two:∀l,l∈ls->2<=l.length
 Wl:ke p rs
 RJ:Mo rs
 aay:rs.length<=fs.length
 prod:ag.prod (ls.map (az p))*az p rs=az p fs
 con:∀l,l∈ls->∃s,Dv (az p l) (az p us-ag.C s)
 cop:∀s,s<i->kC (az p rs) (az p us-ag.C (zm p s))
 len:ls.length+rs.length<=fs.length
theorem PbI.fin(h:PbI p i fs us rs ls)(h1:rs.length=1):Pcs p fs ls:=by
 refine⟨h.red,h.mo,h.two,?_⟩;have hm:(az p rs).bD 0:=by have:=h.RJ.ju (m:=p);rwa[h1]at this
 have:=h.prod;rw[hm.zero_eq]at this;rw[<-this];grind
inductive IvF (a b B:aH) (fs us:List Int) (p:Nat) (i:Nat) (Z:L2.St) (H':Hp):Prop|mk (v5 v6:Option V) (r:aH) (rs:List Int) (ls:List (List Int)) (_:Z=[some (.ref a),some (.ref b),some (.int p),some (.ref B),some (.ref r),v5,v6]) (_:TL H' r rs) (_:LL H' B ls) (_:PbI p i fs us rs ls)
theorem abf(F:Fn K "pieces_by" 35 f fd)(T:Bt mg)(om:ij P w K mg base "monic_common" 5 (HH K))(lN:ij P w K mg base "difference" 4 (C1 K))(ko:ij P w K mg base "divided" 3 (ES K)):dm P w K mg base je 6 f fd ["f","fixed","prime"] (aah K):=by
 refine lJ ["f","fixed","prime","pieces","rest","number","piece"] F λH Q E S hr h=>?_;obtain⟨a,b,fs,us,p,rfl,ha,hb,hp,NB,tx,vW,Qg,hfl,hul,tq,Yl,k⟩:=h;have hp2:=hp.1;have mj:=cn hp;have tD:(2:Nat)^60<Bi:=pd ∅;refine⟨_,(ak (eT 3 S (db lH)) (ak (eT 4 S (pv 0)) (ak (gM a9 rfl (nL (by rfl) T.range (g7 (pv 2))) (my 5 S) (ak (fO (lI iL (pL K T.len (pv 4)) aY) (aJ zg) dg) (ak (eT 6 S (pU om hr (cf (pv 4) (io (pU lN hr (cf (pv 1) (io (db (g7 (pv 5))) (pv 2)))) (pv 2))))) (aJ (fO (lI rY (pL K T.len (pv 6)) aY) (ak (oK (xa eE f8 f7 nN (pv 3) (g7 (pv 6)))) (aJ (eT 4 S (LZ K (pU ko hr (cf (pv 4) (io (pv 6) (pv 2)))) aY)))) dg))))) (aJ (bQ (pv 3)))))),?_⟩;ext;refine⟨∅,λB hB=>?_⟩;have s0:=aP (o:=HO.lst []) hB;refine mI (n:=(p:Int)) (H1:=cE H B (HO.lst [])) ?_ ⋯ ⋯ (λi Z H'=>bC H H'/\IvF a b B fs us p i Z H') ⟨s0,none,none,a,fs,[],rfl,s0 _ _ ha,⟨[],am,rfl,by simp⟩,⟨by simp,by simp,by simp,tx,vW,aw _,by show(1:ag (Zp p))*_=_;grind,by simp,λs hs=>ap hs ⋯,by simp⟩⟩ ?_ ?_;.intro R hR;ext;exact hR
 .rintro i Z H3 hi ⟨s3,v5,v6,r,rs,ls,rfl,hr',hL,hI⟩ W hW;ext;(have tu:rs≠[]:=λe=>by have:=hI.RJ.1;rw[e]at this;simp at this);refine⟨_,cu.of hr',dA (λh1=>?_) (λh1=>?_)⟩;(·simp only[wg];ext;rw[ab]at h1;exact k H3 B ls s3 hB hL (hI.fin ⋯) hI.con);rw[ab]at h1;refine⟨∅,λc hc=>?_⟩;have s4:=aP (o:=HO.lst [V.int (i:Int)]) hc;have hlo:=hI.aay;refine⟨b,c,us,[(i:Int)],p,rfl,s4 _ _ (s3 _ _ hb),cu.of am,⋯,⋯,by simp,λH5 q5 l5 s5 h5 r5 e5 n5=>?_⟩;have s35:=s4.trans s5;refine⟨r,q5,rs,l5,p,rfl,s35.seq (cu.of hr'),cu.of h5,hp,⋯,⋯,by simp at n5;lia,hI.Wl,r5,tu,λH6 q6 g s6 h6 r6 m6 G6=>?_⟩;have Ve:=s35.trans s6;(have hus:az p l5=az p us-ag.C (zm p i):=by rw[Xx e5,aeY]);rw[hus]at G6;have abO:(az p rs).pC:=tq.jt (by rw[<-hI.prod];exact Dv.right _ _);have hr0:az p rs≠0:=λe=>tu (hI.Wl.kl.mp e);refine⟨q6,rfl,_,cu.of h6,dA (λh2=>?_) (λh2=>?_)⟩;(·rw[ab]at h2;obtain⟨ps,rE,hb2,Qm⟩:=hL;have hB6:H6 B=some (.lst (ps.map V.ref)):=Ve _ _ rE;(have afP:ps.length<=100:=by have:=hI.len;lia);refine⟨.inl ⟨rfl,_,cu.of hB6⟩,_,hB6,by rw[ab];exact bT ⋯,?_⟩;(have AA:g≠[]:=λe=>by rw[e]at h2;simp at h2);(have abv:∀q l,TL H6 q l->l≠[]->q≠B:=by rintro q l hq hl rfl;rw[TL,hB6]at hq;have:=aZ hq;injection this with this;exact oe (.inr hl) this);(have hr6:TL (cE H6 B (.lst (ps.map V.ref++[V.ref q6]))) r rs:=by rw[TL,aM (abv r rs (Ve _ _ hr') tu)];exact Ve _ _ hr');(have hg6:TL (cE H6 B (.lst (ps.map V.ref++[V.ref q6]))) q6 g:=by rw[TL,aM (abv q6 g h6 AA)];exact h6);have ZO:LL (cE H6 B (.lst (ps.map V.ref++[V.ref q6]))) B (ls++[g]):=LL.app hB6 hb2 (λi q l h h'=>Ve _ _ (Qm i q l h h')) h6 (.inr AA);(have aip:g.length<=rs.length:=by obtain⟨x,hx⟩:=G6.dp;have hmq:=(sL (m6.ju (m:=p)) (hI.RJ.ju (m:=p)) hx).2;have:=hmq.1;have:=hmq.2;have:=m6.1;have:=hI.RJ.1;lia);refine⟨r,q6,rs,g,p,rfl,cu.of hr6,cu.of hg6,hp2,⋯,⋯,⋯,λx hx=>?_,m6.1,m6.2,λH7 t p1 p2 q rr s7 ht hq7 hrr hD=>?_⟩;(·have:=r6.bound x hx;exact bU (bU this NB) tD);obtain⟨e7,mq⟩:=hD.exact hp m6 hI.RJ G6.dp;(have TJ:rs.length-1+1=g.length-1+q.length:=by have:=(sL (m6.ju (m:=p)) (hI.RJ.ju (m:=p)) e7).2.1;rwa[hD.rq.size]at this);have hrl:=hI.RJ.1;have s8:bC H H7:=(dn (s3.trans Ve) hB).trans s7;refine⟨t,rfl,_,Ad.of ht,_,qa,hW _ _ ⟨s8,_,_,p1,q,ls++[g],rfl,hq7,ZO.same s7,⟨?_,?_,?_,hD.rq,mq,⋯,?_,?_,?_,by have:=hI.len;simp;lia⟩⟩⟩;(·intro l hl;rcases aO.mp hl with h|h;(·exact hI.red l h);rw[a6]at h;rw[h];exact r6);(·intro l hl;rcases aO.mp hl with h|h;(·exact hI.mo l h);rw[a6]at h;rw[h];exact m6);(·intro l hl;rcases aO.mp hl with h|h;(·exact hI.two l h);rw[a6]at h;rw[h];lia);(·rw[aF,ag.fg,<-hI.prod,e7];show _*(az p g*1)*_=_;grind);(·intro l hl;rcases aO.mp hl with h|h;(·exact hI.con l h);rw[a6]at h;rw[h];exact⟨_,G6.dq⟩);intro s hs;by_cases hsi:s=i;(·rw[hsi];rw[e7]at abO hr0 G6;exact F9 abO hr0 G6);exact(hI.cop s ⋯).ui (by rw[e7];exact Dv.right _ _));rw[ab]at h2;refine hW _ _ ⟨s3.trans Ve,_,_,r,rs,ls,rfl,Ve _ _ hr',hL.same Ve,⟨hI.red,hI.mo,hI.two,hI.Wl,hI.RJ,hI.aay,hI.prod,hI.con,?_,hI.len⟩⟩;intro s hs;by_cases hsi:s=i;(·rw[hsi];(have Vz:az p g=1:=by have hm:=m6.ju (m:=p);(have:g.length-1=0:=by have:=m6.1;lia);rw[this]at hm;exact hm.zero_eq);obtain⟨u,x,e⟩:=G6.Ih;exact⟨u,x,by rw[<-e,Vz]⟩);exact hI.cop s ⋯
 rintro Z H3 ⟨s3,v5,v6,r,rs,ls,rfl,hr',hL,hI⟩;ext;rw[dM]at hI;refine k H3 B ls s3 hB hL (hI.fin ?_) hI.con;have h0:=E2 hp Yl (by rw[<-hI.prod];exact Dv.right _ _) (hI.RJ.ju (m:=p)) hI.cop;have:=hI.RJ.1;lia
noncomputable def i_(ls:List (List Int)):Nat:=(ls.map λl=>l.length-1).sum
theorem ug(p:Nat){ls:List (List Int)}(h:∀l,l∈ls->Mo l):(ag.prod (ls.map (az p))).bD (i_ ls):=by
 induction ls with
  |nil=>exact ag.bD.unit
  |cons a ls ih=>exact((h a (.head _)).ju (m:=p)).mul (ih λl hl=>h l (.tail _ hl))
theorem BC(ls:List (List Int))(i:Nat):i_ (ls.take i)<=i_ ls:=by
 have:i_ ls=i_ (ls.take i)+i_ (ls.drop i):=by unfold i_;rw[<-li,<-aF,jM]
 lia
theorem uM(h:∀l,l∈ls->2<=l.length):ls.length<=i_ ls:=by
 induction ls with
  |nil=>exact bX _
  |cons a ls ih=>have h1:=h a (.head _);have h2:=ih λl hl=>h l (.tail _ hl);unfold i_ at h2 ⊢;rw[aR,mW,a7];lia
theorem EZ(h:l∈ls):l.length-1<=i_ ls:=by
 induction ls with
  |nil=>cases h
  |cons a ls ih=>unfold i_ at ih ⊢;rw[aR,mW];rcases bi.mp h with h|h;(·rw[h];lia);have:=ih h;lia
theorem C6{p:Nat}(hp:Pr p){ls ms:List (List Int)}(h:∀l,l∈ls->Mo l)(h':∀l,l∈ms->Mo l)(e:ag.prod (ls.map (az p))=ag.prod (ms.map (az p))):i_ ls=i_ ms:=by have mj:=cn hp;have h1:=(ug p h).size;have h2:=(ug p h').size;rw[e,h2]at h1;lia
theorem Pcs.i_(hp:Pr p)(h:Pcs p fs ls)(hm:Mo fs):i_ ls=fs.length-1:=by have:=C6 hp (ls:=ls) (ms:=[fs]) h.mo (by simpa using hm) (by rw[h.prod];show _=az p fs*1;grind);rw[this];simp[Pt.i_]
theorem LL.ext{ls ms:List (List Int)}{ps qs:List aH}(h1:H a=some (.lst (ps.map V.ref)))(h2:ps.length=ls.length)(h3:∀(i:Nat) (p:aH) (l:List Int),ps[i]?=some p->ls[i]?=some l->TL H p l)(g2:qs.length=ms.length)(g3:∀(i:Nat) (p:aH) (l:List Int),qs[i]?=some p->ms[i]?=some l->TL H p l)(hne:∀l,l∈ls++ms->l≠[]):LL (cE H a (.lst (ps.map V.ref++qs.map V.ref))) a (ls++ms):=by
 refine⟨ps++qs,by rw[am,aF],by simp[h2,g2],λi q m hq hm=>?_⟩;have go:∀q m,TL H q m->m≠[]->TL (cE H a (.lst (ps.map V.ref++qs.map V.ref))) q m:=by intro q m hq Yc;(have:q≠a:=by rintro rfl;rw[TL,h1]at hq;have:=aZ hq;injection this with this;exact oe (.inr Yc) this);rw[TL,aM this];exact hq
 have hmn:=hne m (a_ hm);by_cases hi:i<ps.length;.rw[bA hi]at hq;rw[bA ⋯]at hm;exact go q m (h3 i q m hq hm) hmn
 rw[bK ⋯]at hq;rw[bK ⋯,<-h2]at hm;exact go q m (g3 _ q m hq hm) hmn
inductive aai (K:ai) (vs:List V) (H:Hp) (Q:VK) (E:XK):Prop|mk (a b:aH) (fs:List Int) (bs:List (List Int)) (p:Nat) (_:vs=[.ref a,.ref b,.int p]) (_:TL H a fs) (_:LL H b bs) (_:Pr p) (_:p<2^60) (_:ke p fs) (_:Mo fs) (_:2<=fs.length) (_:fs.length<=100) (_:(az p fs).pC) (_:Bas p fs bs) (_:∀H' q ls,bC H H'->LL H' q ls->Pcs p fs ls->(∀l,l∈ls->(az p l).ir)->Q (.ref q) H')
structure MpI(p:Nat)(fs:List Int)(B:List (List Int))(ls:List (List Int)):Prop extends Pcs p fs ls where
 con:∀l,l∈ls->∀b,b∈B->∃s,Dv (az p l) (az p b-ag.C s)
structure MpJ(p:Nat)(B:List (List Int))(ls fl:List (List Int)):Prop where
 red:∀l,l∈fl->ke p l
 mo:∀l,l∈fl->Mo l
 two:∀l,l∈fl->2<=l.length
 prod:ag.prod (fl.map (az p))=ag.prod (ls.map (az p))
 con:∀l,l∈fl->∀b,b∈B->∃s,Dv (az p l) (az p b-ag.C s)
inductive IvH (a b:aH) (fs:List Int) (p:Nat) (bs:List (List Int)) (j:Nat) (Z:L2.St) (H':Hp):Prop|mk (v4 v5 v6:Option V) (q:aH) (ls:List (List Int)) (_:Z=[some (.ref a),some (.ref b),some (.int p),some (.ref q),v4,v5,v6]) (_:LL H' q ls) (_:MpI p fs (bs.take j) ls)
inductive IvJ (a b q xb D:aH) (p j:Nat) (bs ls:List (List Int)) (i:Nat) (Z:L2.St) (H':Hp):Prop|mk (v6:Option V) (fl:List (List Int)) (_:Z=[some (.ref a),some (.ref b),some (.int p),some (.ref q),some (.ref xb),some (.ref D),v6]) (_:LL H' D fl) (_:MpJ p (bs.take (j+1)) (ls.take i) fl)
theorem abg(F:Fn K "modular_parts" 36 f fd)(T:Bt mg)(Gn:ij P w K mg base "pieces_by" 6 (aah K))(jF:ij P w K mg base "rest_by" 4 (wj K)):dm P w K mg base je 7 f fd ["f","basis","prime"] (aai K):=by
 refine lJ ["f","basis","prime","pieces","fixed","finer","piece"] F λH Q E S hr h=>?_;obtain⟨a,b,fs,bs,p,rfl,ha,hLb,hp,NB,tx,vW,Qg,hfl,tq,hB,k⟩:=h;have hp2:=hp.1;have mj:=cn hp;have tD:(2:Nat)^60<Bi:=pd ∅;obtain⟨bp,rE,hb2,Qm⟩:=hLb;have hfm:(az p fs).bD (fs.length-1):=vW.ju;have fin:∀H' q ls,bC H H'->LL H' q ls->MpI p fs bs ls->Q (.ref q) H':=by intro H' q ls s1 hL hI;refine k H' q ls s1 hL hI.toPcs λl hl=>?_;refine FT hp hfm tq hB.spans ((hI.mo l hl).ju (m:=p)) (by have:=hI.two l hl;lia) ?_ ?_;(·rw[<-hI.prod];exact ag.gy (ao.mpr ⟨l,hl,rfl⟩));intro x hx;obtain⟨y,hy,rfl⟩:=ao.mp hx;exact hI.con l hl y hy
 refine⟨_,(ak (eT 3 S (db (g7 (pv 0)))) (ak (gM a9 rfl (Ax (K:=K) (pv 1)) (my 4 S) (ak (fO (lI iL (pL K T.len (pv 3)) (pL K T.len (pv 1))) (aJ zg) dg) (ak (eT 5 S (db lH)) (ak (gM a9 rfl (Ax (K:=K) (pv 3)) (my 6 S) (aJ (oK (xa eE Ar Aq BV (pv 5) (g7 (pU Gn hr (cf (pv 6) (io (pU jF hr (cf (pv 4) (io (pv 6) (pv 2)))) (pv 2))))))))) (aJ (eT 3 S (pv 5))))))) (aJ (bQ (pv 3))))),?_⟩;ext;refine⟨∅,λq0 nS=>?_⟩;have s0:=aP (o:=HO.lst [V.ref a]) nS;refine l9 rfl (cu.of (s0 _ _ rE)) (λj Z H'=>bC H H'/\IvH a b fs p bs j Z H') ?_ (λi Z H' _ h=>cu.of (h.1 _ _ rE)) ?_ ?_
 .refine⟨s0,_,_,_,q0,[fs],rfl,⟨[a],am,rfl,?_⟩,⟨⟨by simpa using tx,by simpa using vW,by simpa using Qg,by show az p fs*1=_;grind⟩,by simp⟩⟩;intro i x l h1 h2;cases i with
   |zero=>rw[eI]at h1 h2;cases h1;cases h2;exact s0 _ _ ha
   |succ i=>simp at h1
 .rintro j x Z H3 hx ⟨s3,v4,v5,v6,q,ls,rfl,hL,hI⟩ W hW;(obtain⟨xb,hxb,rfl⟩:∃q,bp[j]?=some q/\x=.ref q:=by rw[aE]at hx;obtain⟨q,hq,e⟩:=b9.mp hx;exact⟨q,hq,e.symm⟩);have hjb:=(ax.mp hxb).1;have Yk:j<bs.length:=⋯;have hbl:=s3 _ _ (Qm j xb bs[j] hxb (aa Yk));have hbm:=ba Yk;have htk:=aW Yk;generalize bs[j]=bj at*;ext;obtain⟨qs,hq1,xJ,Kv⟩:=hL;have hsd:=hI.toPcs.i_ hp vW;refine⟨_,cu.of hq1,_,cu.of (s3 _ _ rE),dA (λh1=>?_) (λh1=>?_)⟩;(·simp only[wg];ext;rw[ab,ab]at h1;refine k H3 q ls s3 ⟨qs,hq1,xJ,Kv⟩ hI.toPcs λl hl=>?_;(have h0:ag.prod (ls.map (az p))≠0:=by rw[hI.prod];exact hfm.ne);refine y4 hp hfm tq hB.spans (l:=ls.map (az p)) ?_ (qS (by rw[hI.prod];exact tq) h0) hI.prod (by rw[ab,ab];lia) _ (ao.mpr ⟨l,hl,rfl⟩);intro x hx;obtain⟨y,hy,rfl⟩:=ao.mp hx;rw[(hI.red y hy).size];have:=hI.two y hy;lia);refine⟨∅,λD hD=>?_⟩;have s4:=aP (o:=HO.lst []) hD;refine l9 rfl (cu.of (s4 _ _ hq1)) (λi Z H'=>bC H3 H'/\IvJ a b q xb D p j bs ls i Z H') ?_ (λi Z H' _ h=>cu.of (h.1 _ _ hq1)) ?_ ?_;(·exact⟨s4,_,[],rfl,⟨[],am,rfl,by simp⟩,⟨by simp,by simp,by simp,by simp,by simp⟩⟩);(·rintro i x Z H4 hx ⟨s5,v6,fl,rfl,NG,hJ⟩ Y hY;(obtain⟨xp,XO,rfl⟩:∃q,qs[i]?=some q/\x=.ref q:=by rw[aE]at hx;obtain⟨q,hq,e⟩:=b9.mp hx;exact⟨q,hq,e.symm⟩);have hiq:=(ax.mp XO).1;have hil:i<ls.length:=⋯;have hpl:=s5 _ _ (Kv i xp ls[i] XO (aa hil));have Vs:=ba hil;have TD:=aW hil;generalize ls[i]=pl at*;(have aid:pl.length<=fs.length:=by have:=EZ Vs;lia);(have hpf:Dv (az p pl) (az p fs):=by rw[<-hI.prod];exact ag.gy (ao.mpr ⟨pl,Vs,rfl⟩));obtain⟨ds,hd1,hd2,NF⟩:=NG;ext;refine⟨.inl ⟨rfl,_,cu.of hd1⟩,?_⟩;have alO:=(hB.vc bj hbm).len;refine⟨xb,xp,bj,pl,p,rfl,cu.of (s5 _ _ hbl),cu.of hpl,hp2,⋯,⋯,⋯,λx hx=>bU (bU ((hI.red pl Vs).bound x hx) NB) tD,hI.mo pl Vs,λH5 r5 rl s6 h5 R5=>?_⟩;have hrm:=Jb.mp R5;refine⟨xp,r5,pl,rl,p,rfl,s6 _ _ hpl,h5,hp,NB,hI.red pl Vs,hI.mo pl Vs,hI.two pl Vs,⋯,by have:=R5.lt;lia,tq.jt hpf,KJ hp (hB.fix bj hbm) hpf hrm,λH6 q6 l6 s7 hq6 hL6 KG hc6=>?_⟩;obtain⟨es,he1,he2,T0⟩:=hL6;have s57:=s6.trans s7;(have Dt:ag.prod ((fl++l6).map (az p))=ag.prod ((ls.take (i+1)).map (az p)):=by rw[TD,aF,aF,ag.fg,ag.fg,hJ.prod,KG.prod];show _=_*(az p pl*1);grind);have ab3:∀l,l∈fl++l6->Mo l:=λl hl=>(aO.mp hl).elim (hJ.mo l) (KG.mo l);have PQ:∀l,l∈fl++l6->2<=l.length:=λl hl=>(aO.mp hl).elim (hJ.two l) (KG.two l);have akB:=C6 hp ab3 (λl hl=>hI.mo l (sY hl)) Dt;have afR:=uM PQ;have akv:=BC ls (i+1);have ab7:(fl++l6).length<=100:=⋯;rw[bw]at ab7;refine⟨q6,rfl,_,s57 _ _ hd1,_,he1,by rw[ab,ab,hd2,he2];exact bV (bT ⋯),?_⟩;refine hY _ _ ⟨dn (s5.trans s57) hD,_,fl++l6,rfl,?_,?_⟩;(·exact LL.ext (s57 _ _ hd1) hd2 (λi p l h h'=>s57 _ _ (NF i p l h h')) he2 T0 λl hl e=>by have:=PQ l hl;rw[e]at this;simp at this);refine⟨λl hl=>(aO.mp hl).elim (hJ.red l) (KG.red l),ab3,PQ,Dt,?_⟩;intro l hl y hy;rcases aO.mp hl with h|h;(·exact hJ.con l h y hy);(have Yg:Dv (az p l) (az p pl):=by rw[<-KG.prod];exact ag.gy (ao.mpr ⟨l,h,rfl⟩));rw[htk]at hy;rcases aO.mp hy with h2|h2;(·obtain⟨t,ht⟩:=hI.con pl Vs y h2;exact⟨t,Yg.trans ht⟩);rw[a6]at h2;rw[h2];obtain⟨t,ht⟩:=hc6 l h;refine⟨t,?_⟩;(have e:az p bj-ag.C t=(az p bj-az p rl)+(az p rl-ag.C t):=by grind);rw[e];exact(Yg.trans hrm).add ht);rintro Z H4 ⟨s5,v6,fl,rfl,NG,hJ⟩;rw[ab,xJ,bR]at hJ;ext;exact hW _ _ ⟨s3.trans s5,_,_,_,D,fl,rfl,NG,⟨⟨hJ.red,hJ.mo,hJ.two,by rw[hJ.prod,hI.prod]⟩,hJ.con⟩⟩
 rintro Z H3 ⟨s3,v4,v5,v6,q,ls,rfl,hL,hI⟩;ext;rw[ab,hb2,bR]at hI;exact fin H3 q ls s3 hL hI
def Ah(ns:List Int)(p:Nat):Prop:=Pr p/\¬(p:Int)∣(aA ns).aT/\kC (az p ns) (ag.fz (az p ns))
def Ze(ns:List Int)(p:Nat)(bs:List (List Int)):Prop:=∀fs,ke p fs->Mo fs->fs.length=ns.length->(∃c,az p fs=ag.C c*az p ns)->Bas p fs bs
theorem IA(hp:Pr p)(h:¬(p:Int)∣z):iZ z p=1:=by
 obtain⟨u,v,re⟩:=hp.cop (a:=z) h;have d1:=mY z p;have d2:=iY z p;have:((iZ z p:Nat):Int)∣1:=by rw[<-re];exact yJ (e_ d2) (e_ d1)
 have:=fJ ∅ this;have h3:iZ z p≠0:=λk=>by rw[uC]at k;exact h (by rw[k.1];exact wX _)
 lia
theorem nR(qE:fc ns)(hne:ns≠[]):(aA ns).aT=ns.getLast hne:=by have hsz:=bH.mp qE;unfold ag.aT;rw[hsz,fb,fh hne]
theorem wl(h:Ek (aA ns)):∀x,x∈ns->x.natAbs<=2^52:=by intro x hx;obtain⟨i,hi,rfl⟩:=cO.mp hx;have:=h.c i;rwa[fb,aD,aa hi]at this
theorem HZ(hp:Pr p)(h1:ke p fs)(h2:Mo fs)(h3:fs.length=ns.length)(h4:∃c,az p fs=ag.C c*az p ns)(g1:ke p gs)(g2:Mo gs)(g3:gs.length=ns.length)(g4:∃c,az p gs=ag.C c*az p ns):fs=gs:=by
 obtain⟨c,hc⟩:=h4;obtain⟨d,hd⟩:=g4;have e1:=(h2.ju (m:=p)).one;have e2:=(g2.ju (m:=p)).one;rw[hc,ag.cA,h3]at e1;rw[hd,ag.cA,g3]at e2;have ecd:c=d:=by grind
 refine h1.inj g1 ?_;show az p fs=az p gs;rw[hc,hd,ecd]
open Classical in
noncomputable def vg(ns:List Int)(p:Nat):Bool:=decide (Ah ns p)
theorem nT:vg ns p=true↔Ah ns p:=by unfold vg;exact @decide_eq_true_iff _ (oF _)
noncomputable def qI(ns:List Int)(n:Nat):Nat:=((aX n).filter (vg ns)).length
theorem sQ(ns:List Int)(n:Nat):qI ns (n+1)=qI ns n+if vg ns n=true then 1 else 0:=by
 unfold qI;rw[gD,ig,bw];congr 1;by_cases h:vg ns n=true;.simp[gc,h]
 simp[gc,h]
theorem MI (ns : List Int) (h : m <= n) : qI ns m <= qI ns n := by
  induction n with
  | zero => have : m = 0 := by lia
            subst this; exact aw _
  | succ n ih =>
    by_cases e : m = n + 1
    . subst e; exact aw _
    . rw [sQ]; have := ih (by lia); lia
inductive aaq (K:ai) (vs:List V) (H:Hp) (Q:VK) (E:XK):Prop|mk (a) (ns) (_:vs=[.ref a]) (_:IL K H a ns) (_:fc ns) (_:2<=ns.length) (_:Ek (aA ns)) (_:Ac (aA ns)) (_:∀H' t q p bs,bC H H'->H' t=some (.tup [.int (p:Nat),.ref q])->Ah ns p->p<2000->LL H' q bs->Ze ns p bs->Q (.ref t) H')
def wN(H:Hp)(ns:List Int)(best:V)(n:Nat):Prop:=(best=.jk/\n=0)\/∃(t q:aH) (p:Nat) (bs:List (List Int)),best=.ref t/\H t=some (.tup [.int (p:Nat),.ref q])/\Ah ns p/\p<2000/\LL H q bs/\Ze ns p bs
theorem wN.same{best:V}(h:wN H ns best n)(s:bC H H'):wN H' ns best n:=by
 rcases h with h|⟨t,q,p,bs,h1,h2,h3,h4,h5,h6⟩;.exact .inl h
 exact .inr ⟨t,q,p,bs,h1,s _ _ h2,h3,h4,h5.same s,h6⟩
structure BpI(H H':Hp)(ns:List Int)(best:V)(pr:Nat):Prop where
 same:bC H H'
 one:1<=pr
 lt:pr<2000
 le:qI ns (pr+1)<=6
 ok:wN H' ns best (qI ns (pr+1))
theorem abp(c6:mg "PRIMES_LOOKED_AT"=some (cH 6 tk6))(F:Fn K "best_prime" 41 f fd)(T:Bt mg)(Ja:ij P w K mg base "is_prime" 1 U9)(Ba:ij P w K mg base "keeps_apart" 6 (Ou K))(Bb:ij P w K mg base "fixed_basis" 8 (aao K))(qO:ij P w K mg base "monic" 4 (yg K)):dm P w K mg base je 9 f fd ["f"] (aaq K):=by
 refine lJ ["f","best","looked_at","prime","basis"] F λH Q E S hr h=>?_;obtain⟨a,ns,rfl,ha,qE,hn2,hsm,tq,k⟩:=h;have hne:ns≠[]:=λe=>by rw[e]at hn2;simp at hn2
 have hsz:=bH.mp qE;have hlen:ns.length<=17:=by have:=hsm.size;lia
 have h6:6<=qI ns 2000:=EY hsm ⋯ tq (vg ns) λq h1 h2 h3=>nT.mpr ⟨h1,h2,h3⟩;refine⟨_,(ak (eT 1 S wr) (ak (eT 2 S aY) (ak (eT 3 S aY) (ak (gp a9 (lI rX (pv 2) (uU 6)) (ak (W5 3 S aY nc) (aJ (fO (PW.pt (Db (zf (pU Ja hr (g7 (pv 3)))) (yj (zf (pU Ba hr (io (pv 0) (pv 3))))))) (ak (W5 2 S aY nc) (ak (eT 4 S (pU Bb hr (io (pU qO hr (io (pv 0) (pv 3))) (pv 3)))) (ak (fO (PW.pt (ze (uf (O3 (pv 1))) (zd (lI rX (pL K T.len (pv 4)) (pL K T.len (LZ K (pv 1) aY)))))) (aJ (eT 1 S (zk (io (pv 3) (pv 4))))) dg) (aJ (fO (lI iL (pL K T.len (pv 4)) aY) (aJ zg) dg))))) dg)))) (aJ (bQ (pv 1))))))),?_⟩;ext;have h00:qI ns 2=0:=by rw[show(2:Nat)=0+1+1 from rfl,sQ,sQ,ah,ah];(·rfl);(·intro h;have:=(nT.mp h).1.1;lia);intro h;have:=(nT.mp h).1.1;lia
 refine⟨λN Z H'=>∃(best:V) (pr:Nat) (v4:Option V),Z=[some (.ref a),some best,some (.int (qI ns (pr+1):Nat)),some (.int (pr:Nat)),v4]/\N=2000-pr/\BpI H H' ns best pr,⟨2000-1,.jk,1,none,?_,rfl,bC.refl _,⋯,⋯,by rw[h00];lia,.inl ⟨rfl,h00⟩⟩,?_⟩;.rw[h00];rfl
 rintro N Z H1 ⟨best,pr,v4,rfl,rfl,hI⟩;ext;refine dA (λhlt=>?_) (λTX=>?_);·(have Dt:pr+1<2000:=by apply ae;intro hc;have:=MI ns (show 2000<=pr+1 by lia);lia);have hcs:=sQ ns (pr+1);refine oQ λN hN=>?_;have nx:∀best v4 H',BpI H H' ns best (pr+1)->N [some (.ref a),some best,some (.int (qI ns (pr+1+1):Nat)),some (.int ((pr+1:Nat):Int)),v4] H':=λbest v4 H' h=>hN (2000-(pr+1)) _ _ (by have:=hI.lt;lia) ⟨best,pr+1,v4,rfl,rfl,h⟩;ext;have hone:=hI.one;refine⟨pr+1,by rw[fT];rfl,⋯,⋯,λH2 b s2 hb=>?_⟩;have hcn:(qI ns (pr+1):Int)+1=((qI ns (pr+1)+1:Nat):Int):=⋯;have ZA:(pr:Int)+1=((pr+1:Nat):Int):=⋯;rw[ZA,hcn];(have skip:vg ns (pr+1)≠true->∀H',bC H1 H'->BpI H H' ns best (pr+1):=by intro hg H' s';rw[ah hg,lZ]at hcs;exact⟨hI.same.trans s',⋯,Dt,by rw[hcs];exact hI.le,by rw[hcs];exact hI.ok.same s'⟩);refine⟨b,rfl,dA (λhbt=>?_) (λQk=>?_)⟩;(·have hp:=hb.mp hbt;refine⟨a,ns,pr+1,rfl,s2.seq (hI.same.seq ha),hp,⋯,⋯,qE,hne,λH3 b2 s3 hb2=>?_⟩;refine⟨b2,rfl,dA (λagy=>?_) (λagz=>?_)⟩;(·obtain⟨hnd,xK⟩:=hb2.mp agy;have hgood:Ah ns (pr+1):=⟨hp,hnd,xK⟩;have hgB:=nT.mpr hgood;rw[aj hgB]at hcs;have hbd:=wl hsm;refine⟨a,ns,pr+1,rfl,s3.seq (s2.seq (hI.same.seq ha)),⋯,bU Dt (bh ∅ (bg ∅ (show 11<=8000 by decide))),⋯,λx hx=>bS (hbd x hx) (pd ∅),⟨hne,IA hp (by rw[<-nR qE hne];exact hnd)⟩,λH4 q4 l4 c4 s4 h4 r4 m4 PB e4 d4=>?_⟩;refine⟨q4,l4,pr+1,rfl,cu.of h4,hp,⋯,r4,m4,⋯,⋯,λH5 qb bs s5 hLb Qr=>?_⟩;have C7:=s2.trans (s3.trans (s4.trans s5));(have hBP:Ze ns (pr+1) bs:=by intro fs f1 f2 f3 f4;rw[HZ hp f1 f2 f3 f4 r4 m4 PB ⟨_,e4⟩];exact Qr);obtain⟨bp,rE,hb2,Qm⟩:=hLb;have fresh:∀t,H5 t=none->wN (cE H5 t (HO.tup [V.int ((pr+1:Nat):Int),V.ref qb])) ns (.ref t) (qI ns (pr+1+1)):=λt ht=>.inr ⟨t,qb,pr+1,bs,rfl,am,hgood,Dt,LL.same ⟨bp,rE,hb2,Qm⟩ (aP ht),hBP⟩;refine dA (λYw=>?_) (λYw=>?_);(·refine⟨∅,λt ht=>⟨qb,rfl,_,cu.of (aP ht _ _ rE),?_⟩⟩;have fQ:=fresh t ht;have hss:=C7.trans (aP (o:=HO.tup [V.int ((pr+1:Nat):Int),V.ref qb]) ht);refine dA (λh1=>?_) (λh1=>?_);(·simp only[wg];ext;rcases fQ with⟨_,h⟩|⟨t',q',p',bs',Ix,h2,h3,h4,h5,h6'⟩;(·lia);rw[Ix];exact k _ t' q' p' bs' (hI.same.trans hss) h2 h3 h4 h5 h6');rw[<-hcs];exact nx _ _ _ ⟨hI.same.trans hss,⋯,Dt,⋯,fQ⟩);rcases hI.ok with⟨h,_⟩|⟨t0,q0,p0,bs0,rfl,g2,g3,g4,g5,g6⟩;(·exact ap h Yw);obtain⟨bp0,Mw,hc2,hc3⟩:=g5;refine⟨qb,rfl,_,cu.of rE,t0,rfl,_,Ad.of (C7 _ _ g2),_,qK,q0,rfl,_,cu.of (C7 _ _ Mw),?_⟩;refine dA (λhbl=>?_) (λhbl=>?_);(·refine⟨∅,λt ht=>⟨qb,rfl,_,cu.of (aP ht _ _ rE),?_⟩⟩;have fQ:=fresh t ht;have hss:=C7.trans (aP (o:=HO.tup [V.int ((pr+1:Nat):Int),V.ref qb]) ht);refine dA (λh1=>?_) (λh1=>?_);(·simp only[wg];ext;rcases fQ with⟨_,h⟩|⟨t',q',p',bs',Ix,h2,h3,h4,h5,h6'⟩;(·lia);rw[Ix];exact k _ t' q' p' bs' (hI.same.trans hss) h2 h3 h4 h5 h6');rw[<-hcs];exact nx _ _ _ ⟨hI.same.trans hss,⋯,Dt,⋯,fQ⟩);refine⟨qb,rfl,_,cu.of rE,?_⟩;have fQ:wN H5 ns (.ref t0) (qI ns (pr+1+1)):=.inr ⟨t0,q0,p0,bs0,rfl,C7 _ _ g2,g3,g4,LL.same ⟨bp0,Mw,hc2,hc3⟩ C7,g6⟩;have hss:=C7;refine dA (λh1=>?_) (λh1=>?_);(·simp only[wg];ext;rcases fQ with⟨_,h⟩|⟨t',q',p',bs',Ix,h2,h3,h4,h5,h6'⟩;(·lia);rw[Ix];exact k _ t' q' p' bs' (hI.same.trans hss) h2 h3 h4 h5 h6');rw[<-hcs];exact nx _ _ _ ⟨hI.same.trans hss,⋯,Dt,⋯,fQ⟩);have uE:vg ns (pr+1)≠true:=λh=>agz (hb2.mpr (nT.mp h).2);rw[ah uE]at hcs;rw[<-show qI ns (pr+1+1)=qI ns (pr+1)from hcs];exact nx _ _ _ (skip uE H3 (s2.trans s3)));have uE:vg ns (pr+1)≠true:=λh=>Qk (hb.mpr (nT.mp h).1);rw[ah uE]at hcs;rw[<-show qI ns (pr+1+1)=qI ns (pr+1)from hcs];exact nx _ _ _ (skip uE H2 s2)
 rcases hI.ok with⟨_,h⟩|⟨t,q,p,bs,rfl,h2,h3,h4,h5,h6⟩;.rw[h]at TX;exact ap ∅ TX
 exact k H1 t q p bs hI.same h2 h3 h4 h5 h6
theorem LA(hta:∀R,R [.int (n:Nat)] H->ta Z H R)(hn:n<=2000)(f:Nat->V)(wz:∀i,i<n->∀H' Q',bC H H'->(∀Ag,bC H' Ag->Q' (f i) Ag)->te ((Z.set v none).set v (some (.int (i:Int)))) H' Q')(hk:∀H' D,bC H H'->H D=none->H' D=some (.lst ((aX n).map f))->Q (.ref D) H'):JN (Ks ta) (jl v) AN te [v] Z H Q:=by
 refine hta _ ⟨n,rfl,⋯,⋯,λD hD=>?_⟩;rw[dM];refine PD (λi H'=>bC H H'/\H' D=some (.lst ((aX i).map f))) ⟨aP hD,by rw[am];rfl⟩ ?_ ?_;.rintro i H1 hi ⟨hs,hd⟩;refine⟨?_,?_⟩;(·rw[gZ,gZ,iR,iR]);show te (oy (gk Z [v]) v (some (V.int (0+(i:Int))))) H1 _;rw[gZ,GL];refine wz i hi H1 _ hs λH2 h2=>⟨_,h2 _ _ hd,?_,?_,?_⟩;(·rw[ab,eF];exact bT ⋯);(·exact dn (hs.trans h2) hD);rw[am,gD,aF];rfl
 rintro H1 ⟨hs,hd⟩;exact hk H1 D hs hD hd
noncomputable def nl(cs:List Nat):List Int:=cs.map Ez
theorem Pn(h:i<cs.length):(nl cs).getD i 0=((cs.getD i 0:Nat):Int):=by simp only[nl,aD,aE,aa h];rfl
theorem run_eq(a t:Nat):eS a t=(aX t).map (λi=>a+i):=by
 apply iT;intro i;by_cases hi:i<t;.rw[run_get _ _ _ hi,aE,t_ hi];rfl
 rw[aG (by rw[lG];lia),aG (by simp;lia)]
inductive Wi (K:ai) (vs:List V) (H:Hp) (Q:VK) (E:XK):Prop|mk (a) (cs) (n) (_:vs=[.ref a,.int (n:Nat)]) (_:TL H a (nl cs)) (_:n<=100) (_:qh n 0 cs) (_:(∀H',bC H H'->(∀d,qh n 0 d->d.length=cs.length->rk n d<=rk n cs)->Q .jk H')) (_:(∀H' q cs',bC H H'->TL H' q (nl cs')->qh n 0 cs'->cs'.length=cs.length->rk n cs<rk n cs'->(∀d,qh n 0 d->d.length=cs.length->rk n cs<rk n d->rk n cs'<=rk n d)->Q (.ref q) H'))
inductive ahp (a:aH) (H:Hp) (n:Nat) (cs:List Nat) (N:Nat) (Z:L2.St) (H':Hp):Prop|mk (k:Int) (_:Z=[some (.ref a),some (.int n),some (.int (cs.length:Nat)),some (.int k),none]) (_:H'=H) (_:-1<=k) (_:k<cs.length) (_:N=(k+1).toNat) (_:∀i:Nat,k<i->i<cs.length->cs.getD i 0=n-cs.length+i)
theorem abo(F:Fn K "choice_behind" 46 f fd)(T:Bt mg):dm P w K mg base je 1 f fd ["choice","count"] (Wi K):=by
 refine lJ ["choice","count","size","k","j"] F λH Q E S hr h=>?_;obtain⟨a,cs,n,rfl,ha,hn,zI,k1,k2⟩:=h;have hlen:=zI.len (bX _);have hnl:(nl cs).length=cs.length:=by simp[nl]
 refine⟨_,(ak (eT 2 S (pL K T.len (pv 0))) (ak (eT 3 S (bW f6 (pv 2) aY)) (ak (gp a9 (PW.pt (Db (lI Ka (pv 3) aY) (yj (lI iL (rd K (pv 0) (pv 3)) (bW fq (bW f6 (pv 1) (pv 2)) (pv 3)))))) (aJ (W5 3 S aY zF))) (ak (fO (lI rX (pv 3) aY) (aJ (bQ wr)) dg) (aJ (bQ (bW fq (rW (slL (K:=K)) (pv 0) yn (sJ (pv 3))) (O5 [("j",4)] S (nL (by rfl) T.range (g7 (bW f6 (pv 2) (pv 3)))) (my 4 S) iH (bW fq (bW fq (rd K (pv 0) (pv 3)) aY) (pv 4)))))))))),?_⟩;ext;refine⟨_,cu.of ha,?_⟩;rw[ab,hnl];refine⟨λN Z H'=>ahp a H n cs N Z H',⟨cs.length,(cs.length:Int)-1,rfl,rfl,⋯,⋯,⋯,λi h1 h2=>by lia⟩,?_⟩;rintro N Z H1 ⟨k,rfl,rfl,hk1,hk2,rfl,P5⟩;ext;by_cases hk0:0<=k;.obtain⟨m,rfl⟩:∃m:Nat,k=m:=⟨k.toNat,⋯⟩;have hm:m<cs.length:=⋯;refine dA (λ_=>?_) (λh=>ap hk0 h);refine⟨_,cu.of ha,_,eJ (by rw[hnl];exact hm),rfl,?_⟩;rw[Pn hm];refine dA (λhe=>?_) (λhe=>?_);(·refine⟨λZ' H'=>Z'=[some (.ref a),some (.int n),some (.int (cs.length:Nat)),some (.int ((m:Int)-1)),none]/\H'=H1,?_,rfl,rfl⟩;rintro Z' H' ⟨rfl,rfl⟩;refine⟨m,⋯,(m:Int)-1,rfl,rfl,⋯,⋯,⋯,λi h1 h2=>?_⟩;by_cases hi:i=m;(·subst hi;injection he with he;lia);exact P5 i ⋯ h2);(have zG:cs=cs.take m++cs.getD m 0::cs.drop (m+1):=by(have:cs.getD m 0=cs[m]:=by simp[aD,aa hm]);rw[this,Ev,jM]);have TD:(cs.drop (m+1)).length=cs.length-(m+1):=ei;(have Mn:cs.drop (m+1)=eS (n-(cs.drop (m+1)).length) (cs.drop (m+1)).length:=by apply iT;intro i;by_cases hi:i<(cs.drop (m+1)).length;(·rw[run_get _ _ _ hi,Ln];have h2:m+1+i<cs.length:=⋯;have:=P5 (m+1+i) ⋯ h2;rw[aD,aa h2]at this;rw[aa h2];simp only[gT]at this;rw[this,TD];congr 1;lia);rw[aG ⋯,aG (by rw[lG];lia)]);have KD:=zI;rw[zG]at KD;obtain⟨hxn,hxi⟩:=qh.mid KD;have xI:=hxi.len hxn;(have hx:cs.getD m 0+1+(cs.drop (m+1)).length<n:=by have:cs.getD m 0≠n-cs.length+m:=λe=>he (by rw[e];congr 1;lia);lia);refine dA (λh=>ap h ⋯) (λ_=>?_);refine⟨_,cu.of ha,λp hp=>?_⟩;have s1:=aP (o:=HO.lst (ur ((nl cs).map V.int) none (some (m:Int)))) hp;rw[Cn _ _ ⋯]at s1 ⊢;refine LA (n:=cs.length-m) ?_ ⋯ (λi=>.int ((cs.getD m 0+1+i:Nat):Int)) ?_ ?_;(·intro R hR;ext;rw[show((cs.length:Int)-(m:Int))=((cs.length-m:Nat):Int) by lia];exact hR);(·intro i hi H' Q' s2 k3;ext;refine⟨_,s2.seq (s1.seq (cu.of ha)),_,eJ (by rw[hnl];exact hm),?_⟩;rw[Pn hm];refine⟨_,rfl,?_⟩;have:=k3 H' (bC.refl _);rwa[show((cs.getD m 0+1+i:Nat):Int)=(cs.getD m 0:Nat)+1+(i:Int) by lia]at this);intro H2 D s2 hD ZR;refine⟨D,rfl,_,s2 _ _ am,_,ZR,?_,λr hr=>?_⟩;(·rw[ab,da,ab,eF];exact bV (bT ⋯));have htt:cs.length-m=(cs.drop (m+1)).length+1:=⋯;refine k2 _ r (cs.take m++eS (cs.getD m 0+1) ((cs.drop (m+1)).length+1)) ((s1.trans s2).trans (aP hr)) ?_ (Fz KD hx) ?_ ?_ ?_;(·rw[TL,am,run_eq,htt];congr 2;unfold nl;simp only[aF,be,uA];rfl);(·rw[bw,lG,da];lia);(·have:=J0 (n:=n) (x:=cs.getD m 0) (a:=cs.take m) hx (λy hy=>bV (hxi.lt y hy));rwa[<-zG]at this);intro d hd hdl hlt;refine JZ KD Mn hx hd ?_ ?_;(·rw[<-zG];exact hdl);rw[<-zG];exact hlt
 refine dA (λh=>ap h hk0) (λ_=>?_);refine dA (λ_=>?_) (λh=>ap ⋯ h);refine k1 H1 (bC.refl _) λd hd hdl=>?_;have Mn:cs=eS (n-cs.length) cs.length:=by apply iT;intro i;by_cases hi:i<cs.length;(·rw[run_get _ _ _ hi];have:=P5 i ⋯ hi;rw[aD,aa hi]at this;rw[aa hi,<-this];rfl);rw[aG ⋯,aG (by rw[lG];lia)]
 have:=C8 hd;rwa[hdl,<-Mn]at this
theorem DO{R:Type}[Lean.Grind.CommRing R](A B:ag R):(A*B).c 0=A.c 0*B.c 0:=by rw[ag.qU,bE,dN];grind
theorem LL.at{ls:List (List Int)}{ps:List aH}{j:Nat}{x:V}(h2:ps.length=ls.length)(h3:∀(i:Nat) (p:aH) (l:List Int),ps[i]?=some p->ls[i]?=some l->TL H p l)(hx:(ps.map V.ref)[j]?=some x):∃q hj,x=.ref q/\TL H q ls[j]:=by rw[aE]at hx;obtain⟨q,hq,e⟩:=b9.mp hx;have hjp:=(ax.mp hq).1;have hj:j<ls.length:=⋯;exact⟨q,hj,e.symm,h3 j q ls[j] hq (aa hj)⟩
theorem MP:(2:Nat)^4000<Bi:=pd ∅
theorem VU:(2:Nat)^4000<2^100000:=dU ∅ ∅
def Rm(M:Nat)(ns:List Int)(ls:List (List Int))(z:Int):Prop:=(Tk.red M).f z=(ag.C ((Tk.red M).f (aA ns).aT)*ag.prod (ls.map (az M))).c 0
inductive aaj (K:ai) (vs:List V) (H:Hp) (Q:VK) (E:XK):Prop|mk (a c) (ns) (ls) (M) (_:vs=[.ref a,.ref c,.int (M:Nat)]) (_:IL K H a ns) (_:LL H c ls) (_:fc ns) (_:ns≠[]) (_:Bz 4000 ns) (_:2<=M) (_:M<2^4000) (_:(∀l,l∈ls->ke M l/\l≠[])) (_:∀H' b (z:Int),bC H H'->Rm M ns ls z->(b=true↔if near z M=0 then ns.getD 0 0=0 else near z M∣(aA ns).aT*ns.getD 0 0)->Q (.bl b) H')
theorem abh(F:Fn K "last_may_fit" 44 f fd)(T:Bt mg)(wL:ij P w K mg base "nearest" 1 HG):dm P w K mg base je 2 f fd ["f","chosen","modulus"] (aaj K):=by
 refine lJ ["f","chosen","modulus","number","piece","last"] F λH Q E S hr h=>?_;obtain⟨a,c,ns,ls,M,rfl,ha,hL,qE,hne,zK,hM2,Iy,hls,k⟩:=h;obtain⟨ps,Mw,hc2,hc3⟩:=hL;have hn1:=bL.mpr hne;have fV:=nR qE hne;refine⟨_,(ak (eT 3 S (rd K (pv 0) (ln jc aY))) (ak (gM a9 rfl (Ax (K:=K) (pv 1)) (my 4 S) (aJ (eT 3 S (bW iK (bW ez (pv 3) (rd K (pv 4) aY)) (pv 2))))) (ak (eT 5 S (pU wL hr (io (pv 3) (pv 2)))) (ak (fO (lI iL (pv 5) aY) (aJ (bQ (yo iL (rd K (pv 0) aY) aY (zp _)))) dg) (aJ (bQ (yo iL (bW iK (bW ez (rd K (pv 0) (ln jc aY)) (rd K (pv 0) aY)) (pv 5)) aY (zp _)))))))),?_⟩;ext;refine⟨_,ha,_,km hne,?_⟩;refine l9 rfl (cu.of Mw) (λj Z H'=>H'=H/\∃(z:Int) (v4:Option V),Z=[some (.ref a),some (.ref c),some (.int M),some (.int z),v4,none]/\z.natAbs<2^4000/\Rm M ns (ls.take j) z) ?_ (λi Z H' _ h=>by rw[h.1];exact cu.of Mw) ?_ ?_;.refine⟨rfl,_,_,rfl,zK _ (cC hne),?_⟩;unfold Rm;rw[fV,fI,DO];show _=_*(1:Zp M);rw[ag.z6];grind
 .rintro j x Z H1 hx ⟨rfl,z,v4,rfl,hz,FJ⟩ W hW;obtain⟨q,hj,rfl,hq⟩:=LL.at hc2 hc3 hx;have htk:=aW hj;obtain⟨hrd,Cb⟩:=hls _ (ba hj);generalize ls[j]=l at*;have hl1:=bL.mpr Cb;ext;(have h0b:(l.getD 0 0).natAbs<M:=by apply hrd.bound;simp only[aD,aa hl1];exact ba hl1);refine⟨_,cu.of hq,_,eJ (i:=0) hl1,_,rfl,kz (bU hz MP) (bU (bU h0b Iy) MP),⋯,?_⟩;rw[mK _ ⋯];refine hW _ _ ⟨rfl,_,_,rfl,?_,?_⟩;(·have h1:=dr (z*l.getD 0 0) (b:=(M:Int)) ⋯;have h2:=cW (z*l.getD 0 0) (b:=(M:Int)) ⋯;have:(z*l.getD 0 0%(M:Int)).natAbs<M:=⋯;exact bU this Iy);unfold Rm at FJ ⊢;rw[qw,gJ.mul,FJ,htk,aF,ag.fg,DO,DO,DO];(have:(ag.prod ([l].map (az M))).c 0=(Tk.red M).f (l.getD 0 0):=by show(az M l*1).c 0=_;(have:az M l*1=az M l:=by grind);rw[this];rfl);rw[this];grind
 rintro Z H1 ⟨rfl,z,v4,rfl,hz,FJ⟩;rw[ab,hc2,bR]at FJ;ext;refine⟨z,M,rfl,⋯,bU Iy VU,λH2 s2=>?_⟩;have Dx:∃x,x∈ns/\ns.getD 0 0=x:=⟨ns[0],ba hn1,by simp[aD,aa hn1]⟩;refine⟨rfl,dA (λh0=>?_) (λh0=>?_)⟩;·(have VG:near z M=0:=by injection h0);refine⟨_,s2.seq ha,_,eJ (i:=0) hn1,rfl,k H2 _ z s2 FJ ?_⟩;rw[aj VG,decide_eq_true_eq,V.int.injEq]
 have VG:near z M≠0:=λe=>h0 (by rw[e]);obtain⟨x,hx,ex⟩:=Dx;refine⟨_,s2.seq ha,_,km hne,_,s2.seq ha,_,eJ (i:=0) hn1,.inl ⟨_,rfl,_,rfl,kz (bU (zK _ (cC hne)) MP) (by rw[ex];exact bU (zK x hx) MP),_,rfl,VG,k H2 _ z s2 FJ ?_⟩⟩;rw[ah VG,decide_eq_true_eq,fV];exact⟨EA,λh=>Int.fmod_eq_zero_of_dvd h⟩
structure Joi(M:Nat)(ns:List Int)(ls:List (List Int))(B:List Int):Prop where
 eq:az M B=ag.C ((Tk.red M).f (aA ns).aT)*ag.prod (ls.map (az M))
 half:∀i,2*(B.getD i 0).natAbs<=M
 yb:fc B
 ne:B≠[]
 len:B.length<=i_ ls+1
inductive aak (K:ai) (vs:List V) (H:Hp) (Q:VK) (E:XK):Prop|mk (a c) (ns) (ls) (M) (_:vs=[.ref a,.ref c,.int (M:Nat)]) (_:IL K H a ns) (_:LL H c ls) (_:fc ns) (_:ns≠[]) (_:Bz 4000 ns) (_:2<=M) (_:M<2^4000) (_:(∀l,l∈ls->ke M l/\Mo l)) (_:ls≠[]) (_:i_ ls<=90) (_:(∃w:Zp M,(Tk.red M).f (aA ns).aT*w=1)) (_:(1:Zp M)≠0) (_:∀H' q B,bC H H'->TL H' q (aV B)->Joi M ns ls B->Q (.ref q) H')
theorem Fi(M:Nat)(x:Int):(Tk.red M).f (near x M)=(Tk.red M).f x:=by
 unfold near;split;.rw[gJ.sub,qw];have:(Tk.red M).f (M:Int)=0:=cp.dh.mpr (gr.mpr (GQ _));rw[this];grind
 exact qw M x
theorem wu(hM:0<M)(x:Int):2*(near x M).natAbs<=M:=by have h1:=dr x (b:=(M:Int)) ⋯;have h2:=cW x (b:=(M:Int)) ⋯;unfold near;split<;>lia
theorem Tg{M:Nat}{x:Int}(h1:0<=x)(h2:x<M)(h0:x≠0):near x M≠0:=by unfold near;rw[NT h1 h2];split<;>lia
inductive IvK (a c:aH) (ns:List Int) (M:Nat) (ls:List (List Int)) (j:Nat) (Z:L2.St) (H':Hp):Prop|mk (v4:Option V) (t:aH) (tl:List Int) (_:Z=[some (.ref a),some (.ref c),some (.int M),some (.ref t),v4,none]) (_:TL H' t tl) (_:Bz 4000 tl) (_:1<=j->ke M tl) (_:tl.length<=i_ (ls.take j)+1) (_:tl≠[]) (_:az M tl=ag.C ((Tk.red M).f (aA ns).aT)*ag.prod ((ls.take j).map (az M)))
theorem abi(F:Fn K "joined" 45 f fd)(T:Bt mg)(wL:ij P w K mg base "nearest" 1 HG)(qe:ij P w K mg base "product" 1 (CY K))(iB:ij P w K mg base "reduced" 2 (y6 K))(lv:ij P w K mg base "primitive" 3 (CZ K)):dm P w K mg base je 4 f fd ["f","chosen","modulus"] (aak K):=by
 refine lJ ["f","chosen","modulus","total","piece","coefficient"] F λH Q E S hr h=>?_;obtain⟨a,c,ns,ls,M,rfl,ha,hL,qE,hne,zK,hM2,Iy,hls,Cb,hsd,⟨w1,hw1⟩,h1M,k⟩:=h;obtain⟨ps,Mw,hc2,hc3⟩:=hL;have fV:=nR qE hne;refine⟨_,(ak (eT 3 S (db (g7 (rd K (pv 0) (ln jc aY))))) (ak (gM a9 rfl (Ax (K:=K) (pv 1)) (my 4 S) (aJ (eT 3 S (pU iB hr (io (pU qe hr (io (pv 3) (pv 4))) (pv 2)))))) (aJ (bQ (pU lv hr (g7 (O5 [("coefficient",5)] S (Ax (K:=K) (pv 3)) (my 5 S) iH (pU wL hr (io (pv 5) (pv 2)))))))))),?_⟩;ext;refine⟨_,ha,_,km hne,∅,λt0 ht0=>?_⟩;have s0:=aP (o:=HO.lst [V.int (ns.getLast hne)]) ht0;refine l9 rfl (cu.of (s0 _ _ Mw)) (λj Z H'=>bC H H'/\IvK a c ns M ls j Z H') ?_ (λi Z H' _ h=>cu.of (h.1 _ _ Mw)) ?_ ?_
 .refine⟨s0,_,t0,[ns.getLast hne],rfl,am,?_,⋯,by simp,by simp,?_⟩;(·intro x hx;rw[a6]at hx;rw[hx];exact zK _ (cC hne));rw[fV,fI];show _=_*(1:ag (Zp M));apply ag.ext;intro i;(have:ag.C ((Tk.red M).f (ns.getLast hne))*(1:ag (Zp M))=ag.C ((Tk.red M).f (ns.getLast hne)):=by grind);rw[this];cases i with
   |zero=>rfl
   |succ i=>show(Tk.red M).f ([ns.getLast hne].getD (i+1) 0)=0;simp[gJ.zero]
 .rintro j x Z H1 hx ⟨s1,v4,t,tl,rfl,ht,hbt,hrt,hlt,PR,het⟩ W hW;obtain⟨q,hj,rfl,hq⟩:=LL.at hc2 (λi p l h h'=>s1 _ _ (hc3 i p l h h')) hx;have htk:ls.take (j+1)=ls.take j++[ls[j]]:=aW hj;have Zu:=BC ls (j+1);obtain⟨hrd,vW⟩:=hls _ (ba hj);generalize ls[j]=l at*;(have akC:i_ (ls.take (j+1))=i_ (ls.take j)+(l.length-1):=by rw[htk];unfold i_;rw[aF,li];simp);have hl1:=vW.1;ext;refine⟨t,q,tl,l,rfl,cu.of ht,cu.of hq,⋯,⋯,λx hx=>bU (hbt x hx) MP,λx hx=>bU (bU (hrd.bound x hx) Iy) MP,λH2 p2 l2 s2 h2 e2 n2=>?_⟩;(have afQ:l≠[]:=λe=>by rw[e]at hl1;simp at hl1);rw[ah (by simp[PR,afQ])]at n2;refine⟨p2,l2,M,rfl,cu.of h2,⋯,⋯,λH3 p3 s3 h3=>?_⟩;obtain⟨r3,e3⟩:=oJ (m:=M) ⋯ l2;have hlen3:=iD (l2.map λx=>x%(M:Int));rw[ab]at hlen3;(have heq:az M (aN (l2.map λx=>x%(M:Int)))=ag.C ((Tk.red M).f (aA ns).aT)*ag.prod ((ls.take (j+1)).map (az M)):=by show(aA _).map _=_;rw[e3,e2,ag.cj,htk,aF,ag.fg];show az M tl*az M l=_*(_*(az M l*1));rw[het];grind);generalize aN (l2.map λx=>x%(M:Int))=l3 at*;refine hW _ _ ⟨s1.trans (s2.trans s3),_,p3,l3,rfl,h3,λx hx=>bU (r3.bound x hx) Iy,λ_=>r3,⋯,?_,heq⟩;intro e;(have hz:az M l3=0:=by rw[e];exact(ke.nil M).kl.mpr rfl);rw[hz]at heq;have P4:=ug M (ls:=ls.take (j+1)) (λl hl=>(hls l (sY hl)).2);have hc:=aK (λf=>f.c (i_ (ls.take (j+1)))) heq;simp only[ag.cA]at hc;rw[P4.one,ag.dj]at hc;apply h1M;rw[<-hw1];grind
 rintro Z H1 ⟨s1,v4,t,tl,rfl,ht,hbt,hrt,hlt,PR,het⟩;rw[ab,hc2,bR]at hlt het;rw[ab,hc2]at hrt;have hr:=hrt (bL.mpr Cb);ext;refine nw rfl (cu.of ht) (by rw[ab];exact bT ⋯) (L4 λy=>.int (near y M)) ?_ ?_;.intro z hz H2 Q' s2 k2;obtain⟨z,Eg,rfl⟩:=ao.mp hz;ext;exact⟨z,M,rfl,⋯,bU Iy VU,λH3 s3=>k2 H3 s3⟩
 intro H2 D s2 hD;have yu:∀i,(tl.map λy=>near y M).getD i 0=near (tl.getD i 0) M:=by intro i;by_cases hi:i<tl.length;(·simp only[aD,aE,aa hi];rfl);simp only[aD,aG (show(tl.map λy=>near y M).length<=i by rw[ab];lia),aG (show tl.length<=i by lia)];simp[near];intro h;lia
 have hDl:TL H2 D (tl.map λy=>near y M):=by rw[TL,hD,be,be];congr 1
 have acb:∀i,2*((tl.map λy=>near y M).getD i 0).natAbs<=M:=λi=>by rw[yu];exact wu ⋯ _
 have YB:(tl.map λy=>near y M)≠[]:=by simpa using PR
 have Io:fc (tl.map λy=>near y M):=by intro h;rw[xF];have h1:=hr.zc _ (cC PR);exact Tg h1.1 h1.2 (hr.yb PR)
 have hbB:Bz 4000 (tl.map λy=>near y M):=by intro x hx;obtain⟨y,_,rfl⟩:=ao.mp hx;have:=wu (show 0<M by lia) y;exact bS ⋯ Iy
 have afM:az M (tl.map λy=>near y M)=az M tl:=by apply ag.ext;intro i;show(Tk.red M).f ((tl.map λy=>near y M).getD i 0)=(Tk.red M).f (tl.getD i 0);rw[yu,Fi]
 refine⟨D,_,rfl,cu.of hDl,Io,YB,oS Io YB hbB ⋯,by rw[ab];exact bT ⋯,λH3 p3 s3 h3=>?_⟩;exact k H3 p3 _ (s1.trans (s2.trans s3)) h3 ⟨by rw[afM,het],acb,Io,YB,by rw[ab];exact hlt⟩
def yX(ta:TA):TE:=λZ H Q=>ta Z H λvs H1=>∃n:Nat,vs=[.int (n:Int)]/\n<=2000/\∀l,H1 l=none->Q (.ref l) (cE H1 l (.lst ((aX n).map λi:Nat=>V.int (i:Int))))
theorem De(hc:X.calm=true)(Iv:Gl X "list")(Yd:X.mg "list"=none)(hg:Gl X "range")(hm:X.mg "range"=none)(ha:PA X [a] ta)(hs:b8 [a] X.env=[(false,gG a X.env)]:=by rfl)(he:b8 [.Call (.Name "range" p') [a] [] oB] X.env=[(false,gG (.Call (.Name "range" p') [a] [] oB) X.env)]:=by rfl):PE X (.Call (.Name "list" p) [.Call (.Name "range" p') [a] [] oB] [] pos) (yX ta):=by
 intro au s Z H Q I h;refine iO (qC I Iv Yd kK ?_ (by decide) (by decide));refine d_ ?_ he rfl;rw[he];show wpAny _ _ (spliced ((false,gG (.Call (.Name "range" p') [a] [] oB) X.env)::[])) _ _ s;refine uD ?_;refine iO (qC I hg hm UL ?_);refine d_ (i4 (ha oB au s Z H _ I h) λus s1 ⟨vs,H1,I1,r1,q1⟩=>?_) hs rfl;obtain⟨n,e,hn,q⟩:=q1;subst e;cases r1 with
  |cons r rr=>
   cases rr;obtain⟨t,rfl⟩:=r;refine call_range_1 (vT ?_);have I2:cG X au Z H1 {s1 with heap:=s1.heap.push {cls:=.type "range",data:=.fields #[.int 0 s1.toks,.int n t,.int 1 (s1.toks+1)]},toks:=s1.toks+1+1}:=I1.kept λb o e=>bx _ e;refine call_list_range (I2.ok.hd hc) (Eb ..) (small_one (by lia) (by lia) (by lia) (by lia)) (n:=n) (by rw[rangeSize_one];split<;>lia) (by lia) λh' tk acc' c' hk hD MA=>?_;have hv:dk ((aX n).map λi:Nat=>V.int (i:Int)) acc'.toList:=by
    have go:∀(m k:Nat) (as:List aI),as.length=m->(∀(i:Nat) v,as[i]?=some v->∃t,v=.int ((k+i:Nat):Int) t)->dk ((List.range' k m).map λi:Nat=>V.int (i:Int)) as:=by
     intro m;induction m with
      |zero=>intro k as hl _;cases as with|nil=>exact .nil|cons=>simp at hl
      |succ m ih=>
       intro k as hl hh;cases as with
        |nil=>simp at hl
        |cons v as=>rw[List.range'_succ,aR];refine .cons (hh 0 v rfl) (ih (k+1) as (by simpa using hl) λi v e=>?_);have:=hh (i+1) v (by simpa using e);rw[show k+1+i=k+(i+1) by lia];exact this
    rw[List.range_eq_range'];refine go n 0 _ (by rw[cX];exact MA.1) λi v e=>?_;obtain⟨t,ht⟩:=MA.2 i v (by rw[<-ii];exact e);refine⟨t,ht.trans ?_⟩;congr 1;lia
   exact⟨.ref _,_,I2.laid (t':=tk) hk (aw _) (show iq X.prog X.w _ h' _ (.lst ((aX n).map λi:Nat=>V.int (i:Int)))from⟨by rw[ab,eF];exact bV (bT hn),acc'.toList,c',hv,by simpa using hD⟩),rfl,q _ (I2.fQ.fresh (aw _))⟩
noncomputable def yl(p M:Nat)(l:List Int):Pair p M:=(az p l,az M l)
theorem Sx{α β:Type}(f:α->β)(d:α)(l:List α)(cs:List Nat):(sel d l cs).map f=sel (f d) (l.map f) cs:=by unfold sel;rw[be];refine cY λi _=>?_;show f (l.getD i d)=(l.map f).getD i (f d);simp only[aD,aE];cases l[i]?<;>rfl
theorem J7(p M:Nat)(ls:List (List Int)):(ls.map (yl p M)).map dt=ls.map (az M):=by rw[be];rfl
theorem SD(p M:Nat)(ls:List (List Int)):(ls.map (yl p M)).map cy=ls.map (az p):=by rw[be];rfl
def Z0(p M:Nat)(ns:List Int)(ls:List (List Int))(cs:List Nat):Prop:=∀g h,aA ns=g*h->0<g.aT->∀s t:List (Pair p M),(s++t).Perm (ls.map (yl p M))->Gr g s t->¬s.Perm (sel (yl p M []) (ls.map (yl p M)) cs)
structure UB(p M:Nat)(iQ:p∣M)(ns:List Int)(ls:List (List Int)):Prop where
 pr:Pr p
 m2:2<=M
 mb:M<2^4000
 yb:fc ns
 len:ns.length<=17
 two:2<=ns.length
 bz:Bz 4000 ns
 red:∀l,l∈ls->ke M l/\Mo l/\2<=l.length
 sd:i_ ls<=90
 rc:fE p M iQ (aA ns) (ls.map (yl p M))
structure Fnd(p M:Nat)(ns:List Int)(ls:List (List Int))(k:Nat)(cs:List Nat)(fl:List Int):Prop where
 inc:qh ls.length 0 cs
 len:cs.length=k
 yb:fc fl
 prim:(aA fl).e9
 aT:0<(aA fl).aT
 dv:Dv (aA fl) (aA ns)
 eq:∃c,(ag.C c*aA fl).map (Tk.red M)=ag.C ((Tk.red M).f (aA ns).aT)*ag.prod ((sel [] ls cs).map (az M))
inductive aam (K:ai) (vs:List V) (H:Hp) (Q:VK) (E:XK):Prop|mk (a b) (ns) (ls) (p M k) (iQ) (_:vs=[.ref a,.ref b,.int (k:Nat),.int (M:Nat)]) (_:IL K H a ns) (_:LL H b ls) (_:UB p M iQ ns ls) (_:1<=k) (_:k<=ls.length) (_:(∀H' t qc qf cs fl,bC H H'->H' t=some (.tup [.ref qc,.ref qf])->TL H' qc (nl cs)->TL H' qf fl->Fnd p M ns ls k cs fl->Q (.ref t) H')) (_:(∀H',bC H H'->(∀cs,qh ls.length 0 cs->cs.length=k->Z0 p M ns ls cs)->Q .jk H'))
theorem OF(h:qh ls.length 0 cs):i_ (sel [] ls cs)<=i_ ls:=by
 have h1:=(C5 ([]:List Int) ls h);have h2:i_ ls=i_ (sel [] ls cs++rem [] ls cs):=by unfold i_;exact((h1.map _).sum_nat).symm
 rw[h2];unfold i_;rw[aF,li];lia
theorem Sw(h:qh ls.length 0 cs)(hl:l∈sel [] ls cs):l∈ls:=by obtain⟨i,hi,rfl⟩:=ao.mp hl;have:=h.lt i hi;simp only[aD,aa this];exact ba this
theorem O9(h:2<=M):(1:Zp M)≠0:=by
 intro e;have:(Tk.red M).f 1=0:=by rw[gJ.one];exact e
 have:=(lm (m:=M) (x:=1) ⋯ ⋯).mp this;lia
theorem K4(h:Bz n B)(h0:aA B≠0):Bz n (aV B):=by
 obtain⟨c,hc,e,_⟩:=eh h0;intro x hx;obtain⟨i,hi,rfl⟩:=cO.mp hx;have h1:=aK (λf=>f.c i) e;simp only[ag.cA,fb]at h1;have h2:(aV B).getD i 0=(aV B)[i]:=by simp[aD,aa hi]
 rw[h2]at h1;have h3:(B.getD i 0).natAbs<2^n:=by by_cases hb:i<B.length;(·simp only[aD,aa hb];exact h _ (ba hb));simp only[aD,aG (show B.length<=i by lia)];exact Nat.two_pow_pos n
 rw[h1,cP]at h3;have h4:1*(aV B)[i].natAbs<=c.natAbs*(aV B)[i].natAbs:=bu _ ⋯;lia
theorem UB.cand{iQ:p∣M}(h:UB p M iQ ns ls)(e:aA ns=g*k)(lg:0<g.aT){s t:List (Pair p M)}(i5:(s++t).Perm (ls.map (yl p M)))(hs:Gr g s t)(hp:s.Perm (sel (yl p M []) (ls.map (yl p M)) cs)):(∀z,Rm M ns (sel [] ls cs) z->if near z M=0 then ns.getD 0 0=0 else near z M∣(aA ns).aT*ns.getD 0 0)/\(∀B,Joi M ns (sel [] ls cs) B->aA (aV B)=g):=by
 have oP:ag.prod (s.map dt)=ag.prod ((sel [] ls cs).map (az M)):=by rw[ag.jE (hp.map dt),<-Sx (yl p M),J7]
 have hk0:k≠0:=by rintro rfl;apply h.rc.prim.ne;rw[e];grind
 have hM:=h.m2;constructor;.intro z hz;(have h1:near z M=k.aT*g.c 0:=by refine h.rc.fit h.pr e i5 hs ?_ (wu ⋯ z);rw[Fi,oP];exact hz);exact Ch h.pr e hk0 h1
 intro B hB;have h1:=h.rc.cand h.pr e i5 hs (B:=aA B) (by rw[oP];exact hB.eq) hB.half;exact(Dc (ag.fS hk0) (h.rc.prim.jt ⟨k,e⟩) lg h1).1
theorem abk(F:Fn K "find_part" 47 f fd)(T:Bt mg)(Aa:ij P w K mg base "last_may_fit" 2 (aaj K))(Rc:ij P w K mg base "joined" 4 (aak K))(j8:ij P w K mg base "quotient" 1 (y8 K))(xR:ij P w K mg base "choice_behind" 1 (Wi K)):dm P w K mg base je 5 f fd ["f","pieces","size","modulus"] (aam K):=by
 refine lJ ["f","pieces","size","modulus","choice","chosen","found","place"] F λH Q E S hr h=>?_;obtain⟨a,b,ns,ls,p,M,kk,iQ,rfl,ha,hL,hF,hk1,hkl,k1,k2⟩:=h;obtain⟨ps,rE,hb2,Qm⟩:=hL;have FI:=br (uM λl hl=>(hF.red l hl).2.2) hF.sd;have hne:ns≠[]:=λe=>by have:=hF.two;rw[e]at this;simp at this
 refine⟨_,(ak (eT 4 S (De rfl (by rfl) T.list (by rfl) T.range (g7 (pv 2)))) (ak (gp a9 (uf (yp (pv 4))) (ak (W4 5 [("place",7)] S (Ax (K:=K) (pv 4)) (my 7 S) iH (rd K (pv 1) (pv 7))) (ak (fO (zf (pU Aa hr (cf (pv 0) (io (pv 5) (pv 3))))) (ak (eT 6 S (pU Rc hr (cf (pv 0) (io (pv 5) (pv 3))))) (aJ (fO (uf (yp (pU j8 hr (io (pv 0) (pv 6))))) (aJ (bQ (zk (io (pv 4) (pv 6))))) dg))) dg) (aJ (eT 4 S (pU xR hr (io (pv 4) (pL K T.len (pv 1))))))))) (aJ (bQ wr)))),?_⟩;ext;simp only[yX];ext;refine⟨kk,rfl,⋯,λq0 nS=>?_⟩;have s0:=aP (o:=HO.lst ((aX kk).map λi:Nat=>V.int (i:Int))) nS;refine⟨λN Z H'=>bC H H'/\∃v5 v6 ch,Z=[some (.ref a),some (.ref b),some (.int kk),some (.int M),some ch,v5,v6,none]/\((ch=.jk/\N=0/\∀cs,qh ls.length 0 cs->cs.length=kk->Z0 p M ns ls cs)\/∃qc cs,ch=.ref qc/\N=(ls.length+1)^kk-rk ls.length cs/\TL H' qc (nl cs)/\qh ls.length 0 cs/\cs.length=kk/\∀d,qh ls.length 0 d->d.length=kk->rk ls.length d<rk ls.length cs->Z0 p M ns ls d),⟨_,s0,_,_,_,rfl,.inr ⟨q0,eS 0 kk,rfl,rfl,?_,yt ⋯ 0 (aw _),lG _ _,?_⟩⟩,?_⟩;.rw[TL,am,run_eq];congr 2;simp only[nl,be];refine cY λi _=>?_;simp
 .intro d hd hdl hlt;have:=HM hd;rw[hdl]at this;lia
 rintro N Z H1 ⟨s1,v5,v6,ch,rfl,Cd⟩;ext;rcases Cd with⟨rfl,rfl,iV⟩|⟨qc,cs,rfl,rfl,Zz,zI,hcl,hbad⟩;.refine dA (λh=>ap h (by simp)) (λ_=>?_);exact k2 H1 s1 iV
 refine dA (λ_=>?_) (λh=>ap (by simp) h);refine oQ λNN hN=>?_;have hrk:rk ls.length cs<(ls.length+1)^kk:=by have:=w9 (n:=ls.length) (l:=cs) λx hx=>bV (zI.lt x hx);rwa[hcl]at this
 have next:Z0 p M ns ls cs->∀H5 v5' v6',bC H1 H5->∃x,cu K H5 b x/\Wi K [V.ref qc,V.int (x.length:Nat)] H5 (λx H'=>NN [some (.ref a),some (.ref b),some (.int kk),some (.int M),some x,v5',v6',none] H') E0:=by intro hbc H5 v5' v6' s5;(have Vq:∀d,qh ls.length 0 d->d.length=kk->rk ls.length d<=rk ls.length cs->Z0 p M ns ls d:=by intro d hd hdl hle;by_cases hlt:rk ls.length d<rk ls.length cs;(·exact hbad d hd hdl hlt);have:=OI (n:=ls.length) ⋯ (λx hx=>bV (hd.lt x hx)) (λx hx=>bV (zI.lt x hx)) ⋯;rw[this];exact hbc);refine⟨_,cu.of (s5 _ _ (s1 _ _ rE)),qc,cs,ls.length,by rw[ab,hb2],s5 _ _ Zz,⋯,zI,λH6 s6 vf=>?_,λH6 q6 cs6 s6 h6 i6 l6 r6 n6=>?_⟩;(·exact hN 0 _ _ ⋯ ⟨s1.trans (s5.trans s6),_,_,_,rfl,.inl ⟨rfl,rfl,λd hd hdl=>Vq d hd hdl (vf d hd ⋯)⟩⟩);refine hN _ _ _ ?_ ⟨s1.trans (s5.trans s6),_,_,_,rfl,.inr ⟨q6,rfl,cs6,rfl,h6,i6,⋯,λd hd hdl hlt=>Vq d hd hdl ?_⟩⟩;(·have:=w9 (n:=ls.length) (l:=cs6) λx hx=>bV (i6.lt x hx);rw[l6,hcl]at this;lia);apply ae;intro hc;have:=n6 d hd ⋯ ⋯;lia
 refine nw rfl (cu.of Zz) (by rw[ab,nl,ab];exact bT ⋯) (L4 λi=>.ref (ps.getD i.toNat 0)) ?_ ?_;.intro z hz H2 Q' s2 k3;obtain⟨z,Eg,rfl⟩:=ao.mp hz;obtain⟨i,hi,rfl⟩:=ao.mp Eg;(have hil:i<ps.length:=by have:=zI.lt i hi;lia);ext;refine⟨_,s2.seq (cu.of (s1 _ _ rE)),.ref (ps.getD i 0),DR (by rw[aE,aa hil];simp[aD,aa hil]),?_⟩;have:=k3 H2 (bC.refl _);simpa[L4]using this
 intro H2 D s2 hD;have NG:LL H2 D (sel [] ls cs):=by refine⟨cs.map λi=>ps.getD i 0,?_,by rw[ab,sel,ab],?_⟩;(·rw[hD,nl,be,be,be];congr 2);intro i q l hq hl;rw[aE]at hq;obtain⟨c,hc,rfl⟩:=b9.mp hq;rw[sel,aE,hc]at hl;have hl:=aZ hl;have Qh:=zI.lt c (a_ hc);refine s2 _ _ (s1 _ _ (Qm c _ l ?_ ?_));(·rw[aa ⋯];simp[aD,aa (show c<ps.length by lia)]);rw[aa Qh,<-hl];simp[aD,aa Qh]
 have Ku:∀l,l∈sel [] ls cs->ke M l/\Mo l/\2<=l.length:=λl hl=>hF.red l (Sw zI hl);have ha2:=s2.seq (s1.seq ha);have acs:Bz 4000 ns:=hF.bz.mono ∅;refine⟨a,D,ns,_,M,rfl,ha2,NG,hF.yb,hne,acs,hF.m2,hF.mb,λl hl=>⟨(Ku l hl).1,λe=>by have:=(Ku l hl).2.2;rw[e]at this;simp at this⟩,λH3 bb z s3 hz My=>?_⟩;refine⟨bb,rfl,dA (λhbt=>?_) (λQk=>?_)⟩;·(have afg:sel [] ls cs≠[]:=λe=>by have:=aK fR e;rw[sel,ab,hcl]at this;simp at this;lia);have hss:=OF zI;refine⟨a,D,ns,_,M,rfl,s3.seq ha2,NG.same s3,hF.yb,hne,acs,hF.m2,hF.mb,λl hl=>⟨(Ku l hl).1,(Ku l hl).2.1⟩,afg,by have:=hF.sd;lia,hF.rc.unit,O9 hF.m2,λH4 q4 B s4 h4 hB=>?_⟩;have RT:aA B≠0:=λe=>hB.ne ((bP hB.yb).mp e);obtain⟨c,hc,e4,l7,fV,Io,_⟩:=eh RT;(have hbB:Bz 4000 B:=by intro x hx;obtain⟨i,hi,rfl⟩:=cO.mp hx;have:=hB.half i;simp only[aD,aa hi,gT]at this;exact bS ⋯ hF.mb);(have Vx:(aV B).length<=91:=by have h1:=jD B;rw[bH.mp Io,bH.mp hB.yb]at h1;have:=hB.len;have:=hF.sd;lia);(have afJ:aV B≠[]:=λe=>by apply l7.ne;rw[e];exact fB);refine⟨a,q4,ns,_,rfl,s4.seq (s3.seq ha2),cu.of h4,by have:=hF.len;lia,⋯,(K4 hbB RT).mono ⋯,hF.bz.mono ∅,Io,afJ,λH5 p5 l5 s5 h5 e5 _=>?_,λH5 s5 hnd=>?_⟩;(·refine dA (λ_=>?_) (λh=>ap (by simp) h);refine⟨∅,λt ht=>?_⟩;have C7:=s2.trans (s3.trans (s4.trans s5));have st:=aP (o:=HO.tup [V.ref qc,V.ref q4]) ht;refine k1 _ t qc q4 cs _ (s1.trans (C7.trans st)) am (st _ _ (C7 _ _ Zz)) (st _ _ (s5 _ _ h4)) ⟨zI,hcl,Io,l7,fV,⟨_,e5⟩,c,?_⟩;rw[<-e4];exact hB.eq);refine dA (λh=>ap h (by simp)) (λ_=>?_);(refine next ?_ H5 _ _ (s2.trans (s3.trans (s4.trans s5))));intro g h eg lg s t i5 hs hps;have:=(hF.cand eg lg i5 hs hps).2 B hB;exact hnd (by rw[this];exact⟨h,eg⟩)
 refine next ?_ H3 _ _ (s2.trans s3)
 intro g h eg lg s t i5 hs hps;exact Qk (My.mpr ((hF.cand eg lg i5 hs hps).1 z hz))
theorem LB{K:ai}{a:aH}{xs:List V}{j v u:Nat}{tt:TT}{Z:L2.St}{H:Hp}{Q:VK}(hvu:v≠u)(hZ:Z[j]?=some (some (.ref a)))(hq:cu K H a xs)(hlen:xs.length<bn)(hul:u<Z.length)(keep:Nat->Bool)(htt:∀(i:Nat) z,xs[i]?=some z->∀H' (R:Bool->Hp->Prop),bC H H'->R (keep i) H'->tt ((((Z.set u none).set v none).set v (some (.int (i:Nat)))).set u (some z)) H' R)(hk:∀H' D,bC H H'->H D=none->H' D=some (.lst (((aX xs.length).filter keep).map λi=>xs.getD i .jk))->Q (.ref D) H'):JN (FC K (pO (tV j) xG)) (MB K 2 (xl (jl v) (xl (jl u) Qx))) tt (tV u) [v,u] Z H Q:=by
 simp only[pN];refine⟨_,hZ,a,xs,rfl,hq,λD hD=>Kl (λi H'=>bC H H'/\H' D=some (.lst (((aX i).filter keep).map λi=>xs.getD i .jk))) ⟨aP hD,am⟩ (λi H' _ h=>h.1.seq hq) ?_ ?_⟩;.rintro i x H1 T hx ⟨hs,hd⟩ hT;refine⟨T,_,rfl,.inl (.inl am),rfl,_,_,rfl,_,_,rfl,rfl,?_,?_⟩;(·rw[jS (Z:=Z)];have:=wn (Z:=Z) hvu (some (V.int (i:Nat))) (some x);rwa[jS (Z:=Z)]at this);show tt ((oy (gk Z [v,u]) v (some (V.int (i:Nat)))).set u (some x)) (cE H1 T (HO.tup [V.int (i:Nat),x])) _;rw[jS];have zH:bC H1 (cE H1 T (.tup [.int (i:Nat),x])):=aP hT;refine htt i x hx _ _ (hs.trans zH) ?_;obtain⟨hi,hxi⟩:=ax.mp hx;refine dA (λhkp=>?_) (λhkp=>?_);(·refine⟨x,?_,_,zH _ _ hd,?_,?_,?_⟩;(·rw[lW (by simpa using hul)]);(·rw[ab];exact bS (rH _ _) (by rw[eF];lia));(·exact dn (hs.trans zH) hD);rw[am,gD,ig,aF];simp[gc,hkp,hx]);refine⟨hs.trans zH,?_⟩;rw[gD,ig,aF];simp only[gc,nr,ah hkp,cK,eN];exact zH _ _ hd
 rintro H1 ⟨hs,hd⟩;exact hk H1 D hs hD hd
theorem Jc{iQ:p∣M}(h:UB p M iQ ns ls)(hk:vN k (aA ns) (ls.map (yl p M)))(hb:∀cs,qh ls.length 0 cs->cs.length=k->Z0 p M ns ls cs):vN (k+1) (aA ns) (ls.map (yl p M)):=by
 intro g h' e lg sg sh s t i5 hs;have h1:=hk g h' e lg sg sh s t i5 hs;apply ae;intro hc;have hnd:(ls.map (yl p M)).Nodup:=by have:=h.rc.nodup;exact List.Pairwise.of_map cy (λa b pW=>λe=>pW (by rw[e])) this
 obtain⟨cs,c1,c2,c3⟩:=Co (yl p M []) hnd i5;rw[ab]at c1;exact hb cs c1 ⋯ g h' e lg s t i5 hs c3
structure WpI(p M:Nat)(iQ:p∣M)(ns rs:List Int)(ls out:List (List Int))(k n0:Nat):Prop where
 wv:UB p M iQ rs ls
 sub:vN k (aA rs) (ls.map (yl p M))
 one:1<=k
 le:ls.length<=n0
 prod:ag.prod (out.map aA)*aA rs=aA ns
 sim:∀x,x∈out->fc x/\(aA x).kX
 len:out.length+ls.length<=n0
 kle:k<=n0+1
theorem Rec.Ss{iQ:p∣M}(hp:Pr p){l:List (Pair p M)}(h:fE p M iQ f l)(hl:l≠[]):1<f.size:=by have mj:=cn hp;rw[<-h.size hp (Dv.refl f),h.fac];have h1:ag.C ((Tk.red p).f f.aT)≠0:=λe=>h.Fu hp (ag.iu (b:=0) e);have h2:=qx (l:=l.map cy) (λP hP=>by obtain⟨x,hx,rfl⟩:=ao.mp hP;exact⟨(h.Ay x hx).1,(h.Ay x hx).2.1⟩);have h3:ag.prod (l.map cy)≠0:=ag.aS.mp ⋯;have h4:=ag.bM h1 h3;rw[ag.fP (h.Fu hp)]at h4;rw[ab]at h2;have:=bL.mpr hl;lia
theorem CQ(hn:fc ns)(hm:fc ms)(hne:ns≠[])(e:aA ns=aA ms*aA l)(hl:l.length=ns.length-(ms.length-1)):fc l/\ns.length+1=ms.length+l.length:=by
 have h0:aA ns≠0:=λh=>hne ((bP hn).mp h);have hm0:aA ms≠0:=by intro h;apply h0;rw[e,h];grind
 have Cb:aA l≠0:=by intro h;apply h0;rw[e,h];grind
 have h1:=ag.bM hm0 Cb;rw[<-e,bH.mp hn,bH.mp hm]at h1;have h2:=ag.aS.mpr Cb;have h3:=ag.aS.mpr hm0;rw[bH.mp hm]at h3;exact⟨bH.mpr ⋯,⋯⟩
theorem TL.ne{l:List Int}{os:List aH}(h:TL H q l)(hl:l≠[])(hB:H B=some (.lst (os.map V.ref))):q≠B:=by rintro rfl;rw[TL,hB]at h;have:=aZ h;injection this with this;exact oe (.inr hl) this
theorem LL.ad6{ls:List (List Int)}{os:List aH}(h:LL H q ls)(hq:q≠B)(hB:H B=some (.lst (os.map V.ref)))(hne:∀l,l∈ls->l≠[]):LL (cE H B u) q ls:=by obtain⟨ps,h1,h2,h3⟩:=h;refine⟨ps,by rw[aM hq];exact h1,h2,λi p l hp hl=>?_⟩;have h4:=h3 i p l hp hl;rw[TL,aM (h4.ne (hne l (a_ hl)) hB)];exact h4
theorem UB.bzd{iQ:p∣M}(h:UB p M iQ ns ls)(e:aA ns=aA fl*x):Bz 4000 fl:=by
 have tm:x≠0:=by rintro rfl;apply h.rc.prim.ne;rw[e];grind
 have hl:=ag.fS tm;intro y hy;obtain⟨i,hi,rfl⟩:=cO.mp hy;have h1:=h.rc.bound _ _ e i;have h2:(aA fl).c i=fl[i]:=by rw[fb];simp[aD,aa hi]
 rw[h2,cP]at h1;have h3:1*fl[i].natAbs<=x.aT.natAbs*fl[i].natAbs:=bu _ ⋯;exact bS ⋯ h.mb
theorem XN(i:Nat)(cs:List Nat):Vn (V.int (i:Int)) ((nl cs).map V.int)=decide (i∈cs):=by
 unfold Vn nl;rw[be,Ey,jH,qt,decide_eq_true_eq];constructor;.rintro⟨c,hc,h⟩;have h':((Ez c)==(i:Int))=true:=h;have:c=i:=rJ (by simpa using h');rw[<-this];exact hc
 intro h;exact⟨i,h,by show((Ez i)==(i:Int))=true;simp⟩
theorem Q8(l:List Int):(l.map V.int).all vm=true:=by rw[List.all_map,fu];intro x _;rfl
theorem Sz(hl:l∈rem [] ls cs):l∈ls:=by obtain⟨i,hi,rfl⟩:=ao.mp hl;have:=cr.mp (dF.mp hi).1;simp only[aD,aa this];exact ba this
theorem WpI.step{iQ:p∣M}(h:WpI p M iQ ns rs ls out k n0)(hf:Fnd p M rs ls k cs fl)(e:aA rs=aA fl*aA l)(hl:l.length=rs.length-(fl.length-1))(h2:2*k<=ls.length):WpI p M iQ ns l (rem [] ls cs) (out++[fl]) k n0/\(rem [] ls cs).length+k=ls.length:=by
 have hp:=h.wv.pr;have gq:=C5 ([]:List Int) ls hf.inc;have i5:((sel [] ls cs).map (yl p M)++(rem [] ls cs).map (yl p M)).Perm (ls.map (yl p M)):=by rw[<-aF];exact gq.map _
 obtain⟨c,hc⟩:=hf.eq;obtain⟨hS,hR⟩:=h.wv.rc.found hp i5 hf.prim hf.aT e (c:=c) (by rw[J7];exact hc);have Zt:((sel [] ls cs).map (yl p M)).length=k:=by rw[ab,sel,ab,hf.len]
 obtain⟨pV,XV⟩:=h.wv.rc.BB hp h.one h.sub i5 Zt hf.prim hf.aT e hS;have hlen:(rem [] ls cs).length+k=ls.length:=by have:=gq.length_eq;rw[bw,sel,ab,hf.len]at this;lia
 have tu:rs≠[]:=λe=>by have:=h.wv.two;rw[e]at this;simp at this
 obtain⟨ht,FI⟩:=CQ h.wv.yb hf.yb tu e hl;have h1:=h.one;have hgt:=Rec.Ss hp hR (λe=>by have:=aK fR e;rw[ab,cV]at this;lia);rw[bH.mp ht]at hgt;have aly:0<fl.length:=by rw[<-bH.mp hf.yb];exact ag.aS.mpr hf.prim.ne
 have afX:=h.wv.len;have akA:i_ (rem [] ls cs)<=i_ ls:=by(have h2:i_ ls=i_ (sel [] ls cs++rem [] ls cs):=by unfold i_;exact((gq.map _).sum_nat).symm);rw[h2];unfold i_;rw[aF,li];lia
 refine⟨⟨⟨hp,h.wv.m2,h.wv.mb,ht,⋯,⋯,?_,λl hl=>h.wv.red l (Sz hl),by have:=h.wv.sd;lia,hR⟩,XV,h.one,by have:=h.le;lia,?_,?_,?_,?_⟩,hlen⟩;.exact h.wv.bzd (fl:=l) (x:=aA fl) (by rw[e];grind)
 .rw[aF,ag.fg,<-h.prod,e];show _*(aA fl*1)*_=_;grind
 .intro x hx;rcases aO.mp hx with hx|hx;(·exact h.sim x hx);rw[a6]at hx;rw[hx];exact⟨hf.yb,pV⟩
 .rw[bw,ck];have:=h.len;lia
 exact h.kle
inductive aab (K:ai) (vs:List V) (H:Hp) (Q:VK) (E:XK):Prop|mk (a b) (ns) (ls) (p M) (iQ) (_:vs=[.ref a,.ref b,.int (M:Nat)]) (_:TL H a ns) (_:LL H b ls) (_:UB p M iQ ns ls) (_:∀H' q out,bC H H'->LL H' q out->ag.prod (out.map aA)=aA ns->(∀x,x∈out->fc x/\(aA x).kX)->out.length<=100->Q (.ref q) H')
inductive IvM (p M:Nat) (iQ:p∣M) (a b B:aH) (ns:List Int) (ls:List (List Int)) (N:Nat) (Z:L2.St) (H':Hp):Prop|mk (v7:Option V) (r q:aH) (kk:Nat) (_:Z=[some (.ref a),some (.ref b),some (.int M),some (.ref B),some (.ref r),some (.ref q),some (.int kk),v7,none,none]) (_:q≠B) (rs:List Int) (ls' out:List (List Int)) (_:TL H' r rs) (_:LL H' q ls') (_:LL H' B out) (_:N=ls'.length+(ls.length+1-kk)) (_:WpI p M iQ ns rs ls' out kk ls.length)
theorem aa8(F:Fn K "whole_parts" 48 f fd)(T:Bt mg)(Gq:ij P w K mg base "find_part" 5 (aam K))(j8:ij P w K mg base "quotient" 1 (y8 K)):dm P w K mg base je 6 f fd ["f","pieces","modulus"] (aab K):=by
 refine lJ ["f","pieces","modulus","found","rest","left","size","pair","place","piece"] F λH Q E S hr h=>?_;obtain⟨a,b,ns,ls,p,M,iQ,rfl,ha,hL,hF,k⟩:=h;have hp:=hF.pr;have FI:=br (uM λl hl=>(hF.red l hl).2.2) hF.sd;refine⟨_,(ak (eT 3 S (db lH)) (ak (eT 4 S (pv 0)) (ak (eT 5 S (pv 1)) (ak (eT 6 S aY) (ak (gp a9 (lI O7 (bW ez aY (pv 6)) (pL K T.len (pv 5))) (ak (eT 7 S (pU Gq hr (cf (pv 4) (cf (pv 5) (io (pv 6) (pv 2)))))) (aJ (fO (uf (O3 (pv 7))) (aJ (W5 6 S aY nc)) (ak (oK (xa eE f8 f7 nN (pv 3) (g7 (LZ K (pv 7) aY)))) (ak (eT 4 S (pU j8 hr (io (pv 4) (LZ K (pv 7) aY)))) (aJ (W4 5 [("place",8),("piece",9)] S (ny (by rfl) T.enumerate (g7 (pv 5))) (Nz (K:=K) (n:=2) rfl (eu (my 8 S) (eu (my 9 S) kU))) (SA (yk (aeV (K:=K)) (pv 8) (LZ K (pv 7) aY) rfl)) (pv 9))))))))) (aJ (bQ (bW fq (pv 3) (db (g7 (pv 4))))))))))),?_⟩;ext;refine⟨∅,λB hB=>?_⟩;have s0:=aP (o:=HO.lst []) hB;refine⟨λN Z H'=>bC H H'/\IvM p M iQ a b B ns ls N Z H',⟨_,s0,_,a,b,1,rfl,?_,ns,ls,[],s0 _ _ ha,hL.same s0,⟨[],am,rfl,by simp⟩,rfl,hF,hF.rc.BU hp,aw _,aw _,?_,by simp,by simp,⋯⟩,?_⟩;.obtain⟨_,rE,_⟩:=hL;exact bB rE hB
 .show(1:ag Int)*_=_;grind
 rintro N Z H1 ⟨s1,v7,r,q,kk,rfl,hqB,rs,ls',out,ve,hL1,hB1,rfl,hI⟩;ext;obtain⟨qs,hq1,xJ,Kv⟩:=hL1;obtain⟨os,ZC,ho2,ho3⟩:=hB1;have RQ:=hI.le;have hone:=hI.one;have tu:rs≠[]:=λe=>by have:=hI.wv.two;rw[e]at this;simp at this
 have hone:∀l,l∈ls'->l≠[]:=λl hl e=>by have:=(hI.wv.red l hl).2.2;rw[e]at this;simp at this
 by_cases aco:2*kk<=ls'.length;.refine⟨kz yO (bU (show((kk:Int)).natAbs<2^60 by lia) (pd ∅)),_,cu.of hq1,?_⟩;rw[ab,xJ];refine dA (λ_=>?_) (λh=>ap ⋯ h);refine oQ λNN hN=>?_;refine⟨r,q,rs,ls',p,M,kk,iQ,rfl,cu.of ve,⟨qs,hq1,xJ,Kv⟩,hI.wv,hI.one,⋯,λH2 t qc qf cs fl s2 ht Zz hqf Ym=>?_,λH2 s2 iV=>?_⟩;(·refine dA (λh=>ap h (by simp)) (λ_=>?_);have hB2:=s2 _ _ ZC;(have Qc:fl≠[]:=λe=>by apply Ym.prim.ne;rw[e];exact fB);have htB:=zr ht hB2 (by intro z;cases z);have afn:=hqf.ne Qc hB2;have hrB:=TL.ne (s2 _ _ ve) tu hB2;(have afq:qc≠B:=by refine Zz.ne ?_ hB2;intro e;have:=aK fR e;rw[nl,ab,Ym.len]at this;have:=hI.one;simp at*;lia);have hlo:=hI.len;obtain⟨x,hx⟩:=Ym.dv;have Qk:=hI.wv.bzd hx;have afX:=hI.wv.len;(have ait:fl.length<=17:=by(have tm:x≠0:=by rintro rfl;apply hI.wv.rc.prim.ne;rw[hx];grind);have h1:=ag.bM Ym.prim.ne tm;rw[<-hx,bH.mp hI.wv.yb,bH.mp Ym.yb]at h1;have:=ag.aS.mpr tm;lia);have ZO:=LL.app hB2 ho2 (λi p l h h'=>s2 _ _ (ho3 i p l h h')) hqf (.inr Qc);have hLq:LL (cE H2 B (HO.lst (os.map V.ref++[V.ref qf]))) q ls':=LL.ad6 (LL.same ⟨qs,hq1,xJ,Kv⟩ s2) hqB hB2 hone;have sH3:bC H (cE H2 B (HO.lst (os.map V.ref++[V.ref qf]))):=dn (s1.trans s2) hB;refine⟨.inl ⟨rfl,_,cu.of hB2⟩,t,rfl,_,Ad.of ht,_,qK,_,hB2,by rw[ab];exact bT ⋯,t,rfl,_,Ad.of (by rw[aM htB];exact ht),_,qK,?_⟩;(have ht3:cE H2 B (HO.lst (os.map V.ref++[V.ref qf])) t=some (.tup [.ref qc,.ref qf]):=by rw[aM htB];exact ht);(have afr:TL (cE H2 B (HO.lst (os.map V.ref++[V.ref qf]))) qc (nl cs):=by rw[TL,aM afq];exact Zz);(have RN:TL (cE H2 B (HO.lst (os.map V.ref++[V.ref qf]))) r rs:=by rw[TL,aM hrB];exact s2 _ _ ve);(have afo:TL (cE H2 B (HO.lst (os.map V.ref++[V.ref qf]))) qf fl:=by rw[TL,aM afn];exact hqf);have hB3:cE H2 B (HO.lst (os.map V.ref++[V.ref qf])) B=some (HO.lst (os.map V.ref++[V.ref qf])):=am;generalize cE H2 B (HO.lst (os.map V.ref++[V.ref qf]))=H3 at*;refine⟨r,qf,rs,fl,rfl,cu.of RN,cu.of afo,⋯,⋯,Qk.mono ∅,hI.wv.bz.mono ∅,Ym.yb,Qc,λH4 p4 l4 s4 h4 e4 n4=>?_,λH4 s4 hnd=>ap ⟨x,hx⟩ hnd⟩;obtain⟨hstep,Zt⟩:=hI.step Ym e4 n4 aco;obtain⟨qs3,g1,g2,g3⟩:=hLq.same s4;refine LB ∅ rfl (cu.of g1) (by rw[ab];exact bT ⋯) (by simp) (λi=>decide (i∉cs)) ?_ ?_;(·intro i z hz H5 R s5 hR;ext;refine⟨_,Ad.of (s5 _ _ (s4 _ _ ht3)),_,qa,?_⟩;refine⟨qc,_,rfl,.inl (cu.of (s5 _ _ (s4 _ _ afr))),rfl,Q8 _,_,rfl,?_⟩;simp only[if_true];rw[XN];(have:(!decide (i∈cs))=decide (i∉cs):=by by_cases h:i∈cs<;>simp[h]);rw[this];exact hR);intro H5 D s5 hD hD5;(have hDB:D≠B:=λe=>by rw[e,s4 _ _ hB3]at hD;cases hD);refine hN _ _ _ ?_ ⟨sH3.trans (s4.trans s5),_,p4,D,kk,rfl,hDB,l4,rem [] ls' cs,out++[fl],s5 _ _ h4,?_,(ZO.same s4).same s5,rfl,hstep⟩;(·have:=hI.one;lia);refine⟨((aX ls'.length).filter λi=>decide (i∉cs)).map λi=>qs3.getD i 0,?_,by rw[rem,sel,ab,ab],?_⟩;(·rw[hD5,ab,g2,be];congr 2;refine cY λi hi=>?_;have:=cr.mp (dF.mp hi).1;simp[aD,aE,aa (show i<qs3.length by lia)]);intro i q' l Kw hl;rw[aE]at Kw;obtain⟨c,hc,rfl⟩:=b9.mp Kw;rw[rem,sel,aE,hc]at hl;have hl:=aZ hl;have Qh:=cr.mp (dF.mp (a_ hc)).1;refine s5 _ _ (g3 c _ l ?_ ?_);(·rw[aa ⋯];simp[aD,aa (show c<qs3.length by lia)]);rw[aa Qh,<-hl];simp[aD,aa Qh]);refine dA (λ_=>?_) (λh=>ap rfl h);refine hN _ _ _ ?_ ⟨s1.trans s2,_,r,q,kk+1,by rw[fT];rfl,hqB,rs,ls',out,s2 _ _ ve,LL.same ⟨qs,hq1,xJ,Kv⟩ s2,LL.same ⟨os,ZC,ho2,ho3⟩ s2,rfl,hI.wv,Jc hI.wv hI.sub iV,⋯,hI.le,hI.prod,hI.sim,hI.len,⋯⟩;lia
 refine⟨kz yO ?_,_,cu.of hq1,?_⟩;.have:=hI.kle;exact bU (show((kk:Int)).natAbs<2^60 by lia) (pd ∅)
 rw[ab,xJ];refine dA (λh=>ap h ⋯) (λ_=>?_);refine⟨∅,λp1 rD=>?_⟩;have t1:=aP (o:=HO.lst [V.ref r]) rD;have hlo:=hI.len;refine⟨_,t1 _ _ ZC,_,am,?_,λp2 hp2=>?_⟩;.rw[ab];exact bV (bT (by simp;lia))
 have t2:=t1.trans (aP (o:=HO.lst (os.map V.ref++[V.ref r])) hp2);have pV:=hI.wv.rc.JW hp hI.sub (by rw[ab];lia) (by rw[bH.mp hI.wv.yb];have:=hI.wv.two;lia);refine k _ p2 (out++[rs]) (s1.trans t2) ⟨os++[r],by rw[am,aF];rfl,by simp[ho2],?_⟩ ?_ ?_ ?_;.intro i q' l h1 h2;by_cases hi:i<os.length;(·rw[bA hi]at h1;rw[bA ⋯]at h2;exact t2 _ _ (ho3 i q' l h1 h2));rw[bK ⋯]at h1;rw[bK ⋯,<-ho2]at h2;(have h0:i-os.length=0:=by apply ae;intro hc;rw[aG (by simp;lia)]at h1;cases h1);rw[h0]at h1 h2;simp at h1 h2;subst h1;subst h2;exact t2 _ _ ve
 .rw[aF,ag.fg,<-hI.prod];show _*(aA rs*1)=_;grind
 .intro x hx;rcases aO.mp hx with hx|hx;(·exact hI.sim x hx);rw[a6]at hx;rw[hx];exact⟨hI.wv.yb,pV⟩
 rw[bw,ck];lia
theorem HW(l:List Int):ag.eG (aA l) l.length=(((l.map oC).sum:Nat):Int):=by
 have go:∀l:List Int,bZ l.length (λi=>((l.getD i 0).natAbs:Int))=(((l.map oC).sum:Nat):Int):=by
  intro l;induction l with
   |nil=>rfl
   |cons x l ih=>rw[a7,fC,aR,mW,fT,<-ih];rfl
 exact go l
theorem IX(ht:fc ns)(hne:ns≠[])(h:2*xM ns<M):∀g k,aA ns=g*k->∀i,2*(k.aT*g.c i).natAbs<M:=by have h0:aA ns≠0:=λe=>hne ((bP ht).mp e);refine sw ?_ h0;rw[bH.mp ht,HW];unfold xM at h;have:(((2*(2^(ns.length-1)*(ns.map oC).sum):Nat)):Int)<(M:Int):=⋯;rwa[cg,cg,rK]at this
theorem T5(hp:Pr p)(h:¬(p:Int)∣z):iZ z ((p^e:Nat):Int)=1:=by
 have h1:ot z.natAbs p=1:=by have:=IA hp h;simpa[iZ]using this
 show ot z.natAbs (((p^e:Nat):Int)).natAbs=1;rw[il];exact Nat.Coprime.pow_right e h1
structure Ri(p M:Nat)(im:List Int)(l ml:List Int):Prop where
 red:ke M ml
 mo:Mo ml
 len:ml.length=l.length
 eq:az p ml=az p l
 dv:Dv (az M ml) (az M im)
theorem Kf(h:p∣M)(l:List Int):(az M l).map (fD h)=az p l:=rfl
theorem Pz{p e M:Nat}{ns fs im:List Int}{LX ls:List (List Int)}(hM:M=p^e)(he:1<=e)(iQ:p∣M)(Iy:M<2^4000)(hg:Ah ns p)(qE:fc ns)(hn2:2<=ns.length)(P2:ns.length<=17)(l7:(aA ns).e9)(fV:0<(aA ns).aT)(hcl:2*xM ns<M)(zK:Bz 60 ns){c:Int}(him:az M im=ag.C ((Tk.red M).f c)*az M ns)(hc:(M:Int)∣(ns.getD (ns.length-1) 0*c-1)){d:Zp p}(hfs:az p fs=ag.C d*az p ns)(vW:Mo fs)(hfl:fs.length=ns.length)(hP:Pcs p fs LX)(uo:∀l,l∈LX->(az p l).ir)(hl:LX.length=ls.length)(ZP:∀(i:Nat) l ml,LX[i]?=some l->ls[i]?=some ml->Ri p M im l ml):UB p M iQ ns ls:=by
 have hp:=hg.1;have mj:=cn hp;have hne:ns≠[]:=λe=>by rw[e]at hn2;simp at hn2
 have RQ:(aA ns).aT=ns.getD (ns.length-1) 0:=by rw[nR qE hne,fh hne]
 rw[<-RQ]at hc;have hw:(Tk.red M).f (aA ns).aT*(Tk.red M).f c=1:=zV hc;have hmem:∀ml,ml∈ls->∃l,l∈LX/\Ri p M im l ml:=by intro ml Yd;obtain⟨i,hi,rfl⟩:=cO.mp Yd;exact⟨LX[i]'⋯,ba _,ZP i _ _ (aa ⋯) (aa hi)⟩
 have Vw:ls.map (az p)=LX.map (az p):=by apply iT;intro i;rw[aE,aE];by_cases hi:i<ls.length;(·rw[aa hi,aa (show i<LX.length by lia)];show some _=some _;rw[(ZP i _ _ (aa (show i<LX.length by lia)) (aa hi)).eq]);rw[aG ⋯,aG ⋯]
 have hd1:(Tk.red p).f (aA ns).aT*d=1:=by have:=(vW.ju (m:=p)).one;rw[hfs,ag.cA,hfl]at this;(have e2:(az p ns).c (ns.length-1)=(Tk.red p).f (aA ns).aT:=by rw[RQ];rfl);rw[e2]at this;grind
 have Qe:(aA ns).map (Tk.red p)=ag.C ((Tk.red p).f (aA ns).aT)*az p fs:=by show az p ns=_;(have e3:ag.C ((Tk.red p).f (aA ns).aT)*ag.C d=1:=by rw[<-ag.dw,hd1];rfl);rw[hfs];grind
 have PU:(az p ns).pC:=oa hg.2.2;have tq:(az p fs).pC:=PU.jt ⟨_,by rw[show az p ns=(aA ns).map (Tk.red p)from rfl,Qe];exact GH _ _⟩;have hsd:i_ ls=fs.length-1:=by have h1:i_ ls=i_ LX:=C6 hp (λl hl=>by obtain⟨_,_,h⟩:=hmem l hl;exact h.mo) hP.mo (by rw[Vw]);rw[h1,hP.i_ hp vW]
 have KC:∀x,x∈ls.map (yl p M)->x.1.ir/\x.1.jn/\(∃n,x.2.bD n)/\x.2.map (fD iQ)=x.1:=by intro x hx;obtain⟨ml,Yd,rfl⟩:=ao.mp hx;obtain⟨l,hl,hI⟩:=hmem ml Yd;refine⟨?_,(hI.mo.ju (m:=p)).mon,⟨_,hI.mo.ju (m:=M)⟩,rfl⟩;show(az p ml).ir;rw[hI.eq];exact uo l hl
 have oP:ag.prod ((ls.map (yl p M)).map cy)=az p fs:=by rw[SD,Vw,hP.prod]
 have hnd:((ls.map (yl p M)).map cy).Nodup:=by refine ag.pC.nodup (λq hq=>?_) (by rw[oP];exact tq);obtain⟨x,hx,rfl⟩:=ao.mp hq;exact⟨(KC x hx).1,(KC x hx).2.1⟩
 have VA:(aA ns).map (Tk.red p)=ag.C ((Tk.red p).f (aA ns).aT)*ag.prod ((ls.map (yl p M)).map cy):=by rw[oP];exact Qe
 have agl:∀x,x∈ls.map (yl p M)->Dv x.2 ((aA ns).map (Tk.red M)):=by intro x hx;obtain⟨ml,Yd,rfl⟩:=ao.mp hx;obtain⟨l,hl,hI⟩:=hmem ml Yd;(have e4:ag.C ((Tk.red M).f (aA ns).aT)*ag.C ((Tk.red M).f c)=1:=by rw[<-ag.dw,hw];rfl);(have:(aA ns).map (Tk.red M)=ag.C ((Tk.red M).f (aA ns).aT)*az M im:=by show az M ns=_;rw[him];grind);rw[this];exact hI.dv.mul_left _
 have hM2:2<=M:=by have:=bg (n:=p) (by have:=hp.1;lia) he;rw[Nat.pow_one]at this;have:=hp.1;lia
 refine⟨hp,hM2,Iy,qE,P2,hn2,zK.mono ∅,λl hl=>?_,⋯,⟨l7,fV,⟨_,hw⟩,KC,hnd,VA,?_,IX qE hne hcl⟩⟩;.obtain⟨l',GU,hI⟩:=hmem l hl;exact⟨hI.red,hI.mo,by rw[hI.len];exact hP.two l' GU⟩
 intro g yu s t i5 hS;exact zE iQ hM hp he hw KC hnd VA agl yu i5 hS
theorem Su(hg:Ah ns p)(qE:fc ns)(hn2:2<=ns.length)(l7:(aA ns).e9)(fV:0<(aA ns).aT)(hfs:az p fs=ag.C d*az p ns)(hi:(az p fs).ir):(aA ns).kX:=by
 have hp:=hg.1;have mj:=cn hp;have Yg:(Tk.red p).f (aA ns).aT≠0:=λe=>hg.2.1 (gr.mp (cp.dh.mp e));have oi:d≠0:=by rintro rfl;apply hi.ne;rw[hfs];show(0:ag (Zp p))*_=0;grind
 refine⟨by rw[bH.mp qE];lia,l7,fV,λa b e=>?_⟩;have hsz:∀g:ag Int,g≠0->(Tk.red p).f g.aT≠0->(g.map (Tk.red p)).size=g.size:=by intro g AA hl;have hgs:=ag.aS.mpr AA;have:=ag.jb (p:=g.map (Tk.red p)) (n:=g.size-1) ((g.b_.map _).mono ⋯) hl;lia
 have vX:a≠0:=by rintro rfl;apply l7.ne;rw[e];grind
 have wA:b≠0:=by rintro rfl;apply l7.ne;rw[e];grind
 rw[e,ag.df,gJ.mul]at Yg;have hal:(Tk.red p).f a.aT≠0:=λh=>Yg (by rw[h];grind);have hbl:(Tk.red p).f b.aT≠0:=λh=>Yg (by rw[h];grind);have h1:=hsz a vX hal;have h2:=hsz b wA hbl;have e2:az p fs=(ag.C d*a.map (Tk.red p))*b.map (Tk.red p):=by rw[hfs,show az p ns=(aA ns).map (Tk.red p)from rfl,e,ag.cj];grind
 have agH:=ag.aS.mp (by rw[h1];exact ag.aS.mpr vX);have h3:=ag.bM (p:=ag.C d) (q:=a.map (Tk.red p)) (λh=>oi (ag.iu (b:=0) h)) agH;rw[ag.fP oi]at h3;rcases hi.alone _ _ e2 with h|h;.left;lia
 right;lia
theorem Pp{p:Nat}(hp:Pr p){ns:List Int}(qE:fc ns)(hne:ns≠[])(h:¬(p:Int)∣(aA ns).aT):∃fs,ke p fs/\Mo fs/\fs.length=ns.length/\∃c:Zp p,az p fs=ag.C c*az p ns:=by
 have mj:=cn hp;obtain⟨u,v,re⟩:=hp.cop (a:=(aA ns).aT) h;have hn1:0<ns.length:=bL.mpr hne;have hv:(Tk.red p).f v*(Tk.red p).f (aA ns).aT=1:=by have h2:=aK (Tk.red p).f re;rw[gJ.add,gJ.mul,gJ.mul,gJ.one]at h2;have h3:(Tk.red p).f (p:Int)=0:=cp.dh.mpr (gr.mpr (GQ _));rw[h3]at h2;grind
 obtain⟨hr,he⟩:=r9 (m:=p) (by have:=hp.1;lia) ns v;generalize aN (ns.map λx=>(v*x)%(p:Int))=fs at*;have RQ:(aA ns).aT=ns.getD (ns.length-1) 0:=by rw[nR qE hne,fh hne]
 have hc:(az p fs).c (ns.length-1)=1:=by rw[he,ag.cA,<-hv,RQ];rfl
 have hlt:(az p fs).Lt (ns.length-1+1):=by rw[he];intro i hi;rw[ag.cA,(uX p ns) i ⋯];grind
 have hsz:=ag.jb hlt (by rw[hc];exact iC.ej);rw[hr.size]at hsz;have hlen:fs.length=ns.length:=⋯;refine⟨fs,hr,Kg hp.1 hr ?_ ⋯,hlen,_,he⟩;rw[hlen];exact⟨hlt,hc⟩
theorem V_{l:List Int}{B:Nat}(h:∀x,x∈l->x.natAbs<=B):(l.map oC).sum<=l.length*B:=by
 induction l with
  |nil=>simp
  |cons x l ih=>have h1:=ih λy hy=>h y (.tail _ hy);have h2:=h x (.head _);rw[aR,mW,a7,jz];lia
theorem IR{ns:List Int}(h:Ek (aA ns))(hl:ns.length<=17):xM ns<2^80:=by have h1:=V_ (wl h);have h2:=br h1 (bu _ hl);have h3:(2:Nat)^(ns.length-1)<=2^16:=bg ∅ ⋯;unfold xM;exact bS (dJ h3 h2) ∅
inductive aad (K:ai) (vs:List V) (H:Hp) (Q:VK) (E:XK):Prop|mk (a) (ns) (_:vs=[.ref a]) (_:TL H a ns) (_:fc ns) (_:2<=ns.length) (_:Ek (aA ns)) (_:Ac (aA ns)) (_:(aA ns).e9) (_:0<(aA ns).aT) (_:∀H' q out,bC H H'->LL H' q out->ag.prod (out.map aA)=aA ns->(∀x,x∈out->fc x/\(aA x).kX)->out.length<=100->Q (.ref q) H')
theorem abb(F:Fn K "simple_parts" 49 f fd)(T:Bt mg)(DW:ij P w K mg base "best_prime" 9 (aaq K))(A_:ij P w K mg base "power_above" 1 U7)(tE:ij P w K mg base "coefficient_limit" 1 (Oy K))(qO:ij P w K mg base "monic" 4 (yg K))(Rb:ij P w K mg base "lifted" 6 (Ot K))(xQ:ij P w K mg base "modular_parts" 7 (aai K))(A8:ij P w K mg base "whole_parts" 6 (aab K)):dm P w K mg base je 10 f fd ["f"] (aad K):=by
 refine lJ ["f","pair","prime","basis","modulus","image","pieces","piece"] F λH Q E S hr h=>?_;obtain⟨a,ns,rfl,ha,qE,hn2,hsm,tq,l7,fV,k⟩:=h;have hne:ns≠[]:=λe=>by rw[e]at hn2;simp at hn2
 have P2:ns.length<=17:=by rw[<-bH.mp qE];exact hsm.size
 refine⟨_,(ak (eT 1 S (pU DW hr (g7 (pv 0)))) (ak (eT 2 S (LZ K (pv 1) aY)) (ak (eT 3 S (LZ K (pv 1) aY)) (ak (fO (lI iL (pL K T.len (pv 3)) aY) (aJ (bQ (db (g7 (pv 0))))) dg) (ak (eT 4 S (pU A_ hr (io (pv 2) (bW ez aY (pU tE hr (g7 (pv 0))))))) (ak (eT 5 S (pU qO hr (io (pv 0) (pv 4)))) (ak (W4 6 [("piece",7)] S (Ax (K:=K) (pU xQ hr (cf (pU qO hr (io (pv 0) (pv 2))) (io (pv 3) (pv 2))))) (my 7 S) iH (pU Rb hr (cf (pv 5) (cf (pv 7) (io (pv 2) (pv 4)))))) (aJ (bQ (pU A8 hr (cf (pv 0) (io (pv 6) (pv 4))))))))))))),?_⟩;ext;refine⟨a,ns,rfl,cu.of ha,qE,hn2,hsm,tq,λH1 t q p bs s1 ht hg hp2 hL hB=>?_⟩;have hp:=hg.1;have hpp:=hp.1;have mj:=cn hp;have hbd:=wl hsm;have zK:Bz 60 ns:=λx hx=>bS (hbd x hx) ∅;have hBd:Bd ns:=λx hx=>bS (hbd x hx) (pd ∅);have hcs:=IR hsm P2;have abY:¬(p:Int)∣ns.getLast hne:=by rw[<-nR qE hne];exact hg.2.1
 obtain⟨bp,rE,hb2,Qm⟩:=hL;refine⟨t,rfl,_,Ad.of ht,_,qa,t,rfl,_,Ad.of ht,_,qK,q,rfl,_,cu.of rE,?_⟩;rw[ab,hb2];refine dA (λh1=>?_) (λh1=>?_)
 .have agC:bs.length=1:=⋯;refine⟨∅,λr hr=>?_⟩;have sr:=aP (o:=HO.lst [V.ref a]) hr;refine k _ r [ns] (s1.trans sr) ⟨[a],am,rfl,?_⟩ ?_ ?_ (by simp)
  .intro i x l h1 h2;cases i with
    |zero=>rw[eI]at h1 h2;cases h1;cases h2;exact sr _ _ (s1 _ _ ha)
    |succ i=>simp at h1
  (·show aA ns*1=_;grind);intro x hx;rw[a6]at hx;subst hx;refine⟨qE,?_⟩;obtain⟨fs,f1,f2,f3,d,f4⟩:=Pp hp qE hne hg.2.1;have Qr:=hB fs f1 f2 f3 ⟨d,f4⟩;have hm:(az p fs).bD (fs.length-1):=f2.ju;have PU:=oa hg.2.2;(have Ip:(az p fs).pC:=by intro P hP hd;obtain⟨y,hy⟩:=hd;(have hdu:d≠0:=by rintro rfl;apply hm.ne;rw[f4];show(0:ag (Zp p))*_=0;grind);obtain⟨v,hv,re⟩:=ag.lO hdu;exact PU P hP ⟨ag.C v*y,by grind⟩);have uo:=y4 hp hm Ip Qr.spans (l:=[az p fs]) (by intro x hx;rw[a6]at hx;rw[hx,f1.size];lia) (List.pairwise_singleton _ _) (by show _*1=_;grind) (by rw[ab,agC];rfl) _ (.head _);exact Su hg qE hn2 l7 fV f4 uo
 refine⟨a,ns,rfl,cu.of (s1 _ _ ha),⋯,hne,bU hcs (dU ∅ ∅),λH2 s2=>⟨(xM ns:Nat),rfl,kz yO (by rw[il];exact bU hcs (pd ∅)),?_⟩⟩;refine⟨p,2*(xM ns:Nat),rfl,hpp,bU hp2 (bh ∅ (bg ∅ (show 11<=1000 by decide))),?_,λH3 J s3 hLM Iy=>?_⟩;.have h80:2*xM ns<2^81:=⋯;have:(2:Nat)^81<2^2000:=dU ∅ ∅;have h3:=bU h80 this;exact_mod_cast h3
 have hJ1:1<=2^J:=jA;have iQ:p∣p^2^J:=⟨p^(2^J-1),by rw[<-Nat.pow_succ'];congr 1;lia⟩;generalize ZN:p^2^J=M at*;have hM2:=br hpp (eQ (by rw[<-ZN];exact kr ⋯) iQ);have JX:=s2.trans s3;refine⟨a,ns,M,rfl,cu.of (JX _ _ (s1 _ _ ha)),hM2,bU Iy (dU ∅ ∅),⋯,hBd,⟨hne,by rw[<-ZN];exact T5 hp abY⟩,λH4 q4 im c s4 h4 r4 m4 PB e4 d4=>?_⟩;show JN (tN K _) (jl 7) AN _ [7] _ H4 _;rw[Hy];ext;have s14:=JX.trans s4;refine⟨a,ns,p,rfl,cu.of (s14 _ _ (s1 _ _ ha)),hpp,bU hp2 (bh ∅ (bg ∅ (show 11<=8000 by decide))),⋯,hBd,⟨hne,IA hp abY⟩,λH5 q5 fs c5 s5 h5 r5 m5 XB e5 d5=>?_⟩;have C7:=s14.trans s5;have Qr:=hB fs r5 m5 XB ⟨_,e5⟩;have hm:(az p fs).bD (fs.length-1):=m5.ju;have PU:=oa hg.2.2;have VD:(Tk.red p).f c5≠0:=by intro e0;apply hm.ne;rw[e5,e0];show(0:ag (Zp p))*_=0;grind
 have Ip:(az p fs).pC:=by intro P hP hd;obtain⟨y,hy⟩:=hd;obtain⟨v,hv,re⟩:=ag.lO VD;exact PU P hP ⟨ag.C v*y,by grind⟩
 refine⟨q5,q,fs,bs,p,rfl,h5,LL.same ⟨bp,rE,hb2,Qm⟩ C7,hp,⋯,r5,m5,⋯,⋯,Ip,Qr,λH6 q6 LX s6 hL6 KG uo=>?_⟩;obtain⟨qs,g1,g2,g3⟩:=hL6;have hsd:=KG.i_ hp m5;have afR:=uM KG.two;have ab1:az p im=az p fs:=by(have e1:az p im=ag.C ((Tk.red p).f c)*az p ns:=by have:=aK (ag.map (fD iQ)) e4;rwa[ag.cj,ag.np,Kf,Kf]at this);have o1:=(m4.ju (m:=p)).one;have o2:=(m5.ju (m:=p)).one;rw[e1,ag.cA,PB]at o1;rw[e5,ag.cA,XB]at o2;(have:(Tk.red p).f c=(Tk.red p).f c5:=by grind);rw[e1,e5,this]
 refine Ii (cu.of g1) (λD i H'=>bC H6 H'/\∃ls,LL H' D ls/\ls.length=i/\∀(j:Nat) l ml,LX[j]?=some l->ls[j]?=some ml->Ri p M im l ml) ?_ (λD i H' h=>cu.of (h.1 _ _ g1)) ?_ ?_;.intro D hD;exact⟨aP hD,[],⟨[],am,rfl,by simp⟩,rfl,by simp⟩
 .rintro D i z H7 hD hz ⟨s7,ls,NG,hlen,ZP⟩;obtain⟨xp,hi,rfl,XO⟩:=LL.at g2 (λi p l h h'=>s7 _ _ (g3 i p l h h')) hz;have ZD:=ba hi;have hpi:=aa hi;generalize LX[i]=l at*;have RQ:=EZ ZD;(have tz:Dv (az p l) (az p fs):=by rw[<-KG.prod];exact ag.gy (ao.mpr ⟨l,ZD,rfl⟩));obtain⟨y,hy⟩:=tz;ext;refine⟨q4,xp,im,l,p,J,by rw[ZN],cu.of (s7 _ _ (s6 _ _ (s5 _ _ h4))),XO,hp,by rw[ZN];exact Iy,⋯,⋯,KG.red l ZD,KG.mo l ZD,KG.two l ZD,⟨y,by rw[ab1,hy],?_⟩,λH8 q8 ml s8 h8 r8 m8 n8 e8 d8=>?_⟩;(·refine kC.symm (ag.pC.cop (a:=az p l) (b:=y) ?_ ?_);(·rw[<-hy];exact Ip);rw[<-hy];exact hm.ne);rw[ZN]at r8 d8;obtain⟨ds,k1,k2,k3⟩:=NG;(have ab4:ml≠[]:=λe=>by have:=KG.two l ZD;rw[e]at n8;simp at n8;lia);refine⟨_,s8 _ _ k1,by rw[ab];exact bT ⋯,?_⟩;refine⟨dn (s7.trans s8) hD,ls++[ml],LL.app (s8 _ _ k1) k2 (λi p l h h'=>s8 _ _ (k3 i p l h h')) h8 (.inr ab4),by simp[hlen],?_⟩;intro j l' ml' hj Ir;by_cases hji:j<ls.length;(·rw[bA hji]at Ir;exact ZP j l' ml' hj Ir);(have af1:j=i:=by have:=(ax.mp Ir).1;simp at this;lia);rw[af1]at hj Ir;rw[bK ⋯,hlen,kH]at Ir;simp at Ir;subst Ir;rw[hpi]at hj;cases hj;exact⟨r8,m8,n8,e8,d8⟩
 rintro D H7 hD ⟨s7,ls,NG,hlen,ZP⟩;rw[ab,g2]at hlen;have hF:=Pz ZN.symm hJ1 iQ Iy hg qE hn2 P2 l7 fV (by exact_mod_cast hLM) zK e4 d4 e5 m5 XB KG uo hlen.symm ZP;have s17:=s1.trans (C7.trans (s6.trans s7));exact⟨a,D,ns,ls,p,M,iQ,rfl,s17 _ _ ha,NG,hF,λH8 q8 out s8 hL8 hp8 hs8 hl8=>k H8 q8 out (s17.trans s8) hL8 hp8 hs8 hl8⟩
noncomputable def tj(l:List Int):List Int:=(l.length:Int)::l.reverse
inductive Oq (K:ai) (vs:List V) (H:Hp) (Q:VK) (E:XK):Prop|mk (a) (l) (_:vs=[.ref a]) (_:IL K H a l) (_:l.length<=1000) (_:∀H' q,bC H H'->TL H' q (tj l)->Q (.ref q) H')
theorem Xg(F:Fn K "order" 50 f fd)(T:Bt mg):dm P w K mg base je 1 f fd ["f"] (Oq K):=by
 refine lJ ["f"] F λH Q E S hr h=>?_;obtain⟨a,l,rfl,ha,hl,k⟩:=h;refine⟨_,(aJ (bQ (bW fq (db (g7 (pL K T.len (pv 0)))) (OZ (K:=K) (pv 0) (ln jc aY))))),?_⟩;ext;simp only[V7];ext;refine⟨_,ha,∅,λp hp=>?_⟩;have s1:=aP (o:=HO.lst [V.int ((l.map V.int).length:Nat)]) hp;refine⟨_,s1.seq ha,λq hq=>?_⟩;have s2:=s1.trans (aP (o:=HO.lst (l.map V.int).reverse) hq);have hpq:=bB am hq;refine⟨_,by rw[aM hpq,am],_,am,?_,λr hr=>?_⟩;.simp only[kM,ab,a7,cV];exact bV (bT ⋯)
 refine k _ r (s2.trans (aP hr)) ?_;rw[TL,am,tj,aR,NP,ab];rfl
theorem O_(h:tj x=tj y):x=y:=by unfold tj at h;injection h with _ h;exact List.reverse_inj.mp h
structure yD(ns:List Int)(out:List (List Int)):Prop where
 sim:∀x,x∈out->fc x/\(aA x).kX
 asc:out.Pairwise λx y=>rF.uk (tj x) (tj y)=true
 all:∀f:ag Int,f.kX->(Dv f (aA ns)↔∃x,x∈out/\aA x=f)
 len:out.length<=100
inductive yf (K:ai) (vs:List V) (H:Hp) (Q:VK) (E:XK):Prop|mk (a) (ns) (_:vs=[.ref a]) (_:IL K H a ns) (_:fc ns) (_:ns≠[]) (_:ns.length<=17) (_:(∀x,x∈ns->x.natAbs<=2^31)) (_:∀H' q out,bC H H'->LL H' q out->yD ns out->Q (.ref q) H')
theorem Uf{w:List Int}(h:fc w):fc ((w.mapIdx λi c=>(i:Int)*c).drop 1):=by
 intro hd;have hl:2<=w.length:=by apply ae;intro hc;apply hd;rw[s_,fe];lia
 have hw:w≠[]:=λe=>by rw[e]at hl;simp at hl
 have e:(w.mapIdx λi c=>(i:Int)*c).length=w.length:=fe;rw[List.getLast_drop,dH,tZ];simp only[e];have h1:=h hw;rw[dH]at h1;exact cF ⋯ h1
theorem YU{w:List Int}{n:Nat}(h:Bz n w)(hl:w.length<=17):Bz (n+4) ((w.mapIdx λi c=>(i:Int)*c).drop 1):=by intro x hx;have hx:=List.mem_of_mem_drop hx;obtain⟨i,hi,rfl⟩:=cO.mp hx;rw[tZ,cP,il];rw[fe]at hi;have h1:=h _ (ba hi);have h2:i*w[i].natAbs<=16*w[i].natAbs:=bu _ ⋯;rw[iW];lia
theorem OT{l:List (ag Int)}(h:∀x,x∈l->1<x.size):l.length+1<=(ag.prod l).size/\ag.prod l≠0:=by
 induction l with
  |nil=>have:(ag.prod ([]:List (ag Int))).size=1:=ag.bD.size ag.bD.unit;exact⟨by rw[this];simp,ag.aS.mp (by rw[this];decide)⟩
  |cons a l ih=>obtain⟨h1,h2⟩:=ih λx hx=>h x (.tail _ hx);have ha:=h a (.head _);have vX:a≠0:=ag.aS.mp ⋯;have h3:=ag.bM vX h2;refine⟨?_,iC.jm vX h2⟩;show l.length+1+1<=(a*ag.prod l).size;lia
theorem FW(hf:f.kX){out:List (List Int)}(hs:∀x,x∈out->fc x/\(aA x).kX)(h:Dv f (ag.prod (out.map aA))):∃x,x∈out/\aA x=f:=by obtain⟨a,ha,hd⟩:=ag.kX.jX hf h;obtain⟨x,hx,rfl⟩:=ao.mp ha;exact⟨x,hx,(ag.kX.eq hf (hs x hx).2 hd).symm⟩
theorem L7{out:List (List Int)}(hs:∀x,x∈out->fc x/\(aA x).kX)(h:Ac (ag.prod (out.map aA))):out.Nodup:=by
 refine fW.mpr λi j hi hj hij e=>?_;have h1:Dv (aA out[i]*aA out[j]) (ag.prod (out.map aA)):=by(have h2:out=out.take i++out[i]::out.drop (i+1):=by rw[Ev,jM]);(have h3:out[j]∈out.drop (i+1):=by refine cO.mpr ⟨j-(i+1),by rw[ei];lia,?_⟩;rw[List.getElem_drop];congr 1;lia);obtain⟨y,hy⟩:=ag.gy (ao.mpr ⟨_,h3,rfl⟩:aA out[j]∈(out.drop (i+1)).map aA);(have h4:ag.prod (out.map aA)=ag.prod ((out.take i).map aA)*(aA out[i]*ag.prod ((out.drop (i+1)).map aA)):=by have:=aK (λl=>ag.prod (Hg aA l)) h2;simp only[aF,ag.fg,aR]at this;exact this);rw[h4,hy];exact⟨ag.prod ((out.take i).map aA)*y,by grind⟩
 rw[<-e]at h1;exact h _ (hs _ (ba hi)).2 h1
theorem Pb(TH:mg "sorted"=none)(F:Fn K "parts" 51 f fd)(T:Bt mg)(Uz:acZ P w K mg base "order" 1 ["f"] (Oq K))(z_:ij P w K mg base "simple_parts" 10 (aad K))(lv:ij P w K mg base "primitive" 3 (CZ K))(j8:ij P w K mg base "quotient" 1 (y8 K))(k_:ij P w K mg base "primitive_common" 4 (Wh K))(qP:ij P w K mg base "derivative" 1 (Ow K)):dm P w K mg base je 11 f fd ["f"] (yf K):=by
 obtain⟨fo,fdo,FO,BO,MO,_⟩:=Uz;refine lJ ["f","whole","once"] F λH Q E S hr h=>?_;obtain⟨a,ns,rfl,ha,qE,hne,hl,hb,k⟩:=h;refine⟨_,(ak (eT 1 S (pU lv hr (g7 (pv 0)))) (ak (eT 2 S (pU j8 hr (io (pv 1) (pU k_ hr (io (pv 1) (pU qP hr (g7 (pv 1)))))))) (aJ (bQ (og (lI rY (pL K T.len (pv 2)) aY) (OY FO (hr.mono ∅) BO (by rfl) TH (by rfl) MO (pU z_ hr (g7 (pv 2)))) (db lH)))))),?_⟩;ext;have zK:Bz 32 ns:=λx hx=>bS (hb x hx) ∅;have h0:aA ns≠0:=λe=>hne ((bP qE).mp e);obtain⟨c,hc,hcw,Zr,XS,XR,_⟩:=eh h0;have hwz:=K4 zK h0;have PP:(aV ns).length=ns.length:=by have:=jD ns;rwa[bH.mp XR,bH.mp qE]at this
 refine⟨a,ns,rfl,ha,qE,hne,oS qE hne zK ∅,bT ⋯,λH1 p1 s1 h1=>?_⟩;generalize aV ns=w at*;refine⟨p1,w,rfl,cu.of h1,⋯,trivial,λH2 p2 s2 h2=>?_⟩;have hd:=JL w;have hdt:=Uf XR;have hdz:=YU hwz ⋯;have hdl:((w.mapIdx λi c=>(i:Int)*c).drop 1).length<=w.length:=by rw[ei,fe];lia
 generalize (w.mapIdx λi c=>(i:Int)*c).drop 1=d at*;have hw0:w≠[]:=λe=>by rw[e]at PP;simp at PP;exact hne (dG.mp PP.symm)
 refine⟨p1,p2,w,d,rfl,cu.of (s2 _ _ h1),cu.of h2,⋯,⋯,XR,hdt,.inl hw0,hwz.mono ∅,hdz,λH3 p3 g s3 h3 gt G=>?_⟩;rw[hd]at G;have AA:g≠[]:=λe=>by apply G.prim.ne;rw[e];exact fB
 have Iv:g.length<=w.length:=by obtain⟨x,hx⟩:=G.dp;(have tm:x≠0:=by rintro rfl;apply Zr.ne;rw[hx];grind);have:=ag.bM G.prim.ne tm;rw[<-hx,bH.mp XR,bH.mp gt]at this;have:=ag.aS.mpr tm;lia
 have zJ:∀i,((aA ns).c i).natAbs<=2^31:=by intro i;rw[fb];by_cases hi:i<ns.length;(·simp only[aD,aa hi];exact hb _ (ba hi));simp[aD,aG (show ns.length<=i by lia)]
 have Kx:(aA ns).size<=17:=by rw[bH.mp qE];exact hl
 have OD:∀l,Dv (aA l) (aA ns)->Ek (aA l):=λl h=>wk Kx zJ h0 h;have hgw:Dv (aA g) (aA ns):=by rw[hcw];exact G.dp.mul_left _
 have hgz:Bz 8000 g:=λx hx=>bS (wl (OD g hgw) x hx) (dU ∅ ∅);refine⟨p1,p3,w,g,rfl,cu.of (s3 _ _ (s2 _ _ h1)),cu.of h3,⋯,⋯,hgz,hwz.mono ∅,gt,AA,λH4 p4 o s4 h4 e4 n4=>?_,λH4 s4 uE=>ap G.dp uE⟩;obtain⟨hot,hol⟩:=CQ XR gt hw0 e4 n4;obtain⟨Ip,iV⟩:=yZ Zr G e4;have hdo:Dv (aA o) (aA w):=⟨aA g,by rw[e4];grind⟩;have hop:=Zr.jt hdo;have X_:0<(aA o).aT:=by have h5:=XS;rw[e4,ag.df]at h5;exact Int.pos_of_mul_pos_right h5 G.aT
 have abV:∀f,f.kX->(Dv f (aA ns)↔Dv f (aA o)):=by intro f hf;constructor;(·intro h;refine iV f hf ?_;obtain⟨y,hy⟩:=h;rw[hcw]at hy;obtain⟨g',_,h6⟩:=ag.e9.et hf.prim hc hy;exact⟨g',h6⟩);intro h;rw[hcw];exact(h.trans hdo).mul_left _
 have s14:=s1.trans (s2.trans (s3.trans s4));refine⟨p4,rfl,_,cu.of h4,dA (λh1l=>?_) (λh1l=>?_)⟩;.rw[ab]at h1l;simp only[Ob];ext;refine⟨p4,o,rfl,h4,hot,⋯,OD o (by rw[hcw];exact hdo.mul_left _),Ip,hop,X_,λH5 q5 out s5 hL5 Dt pV ab8=>?_⟩;obtain⟨ps,k1,k2,k3⟩:=hL5;have hnd:=L7 pV (by rw[Dt];exact Ip);(have aif:out.length<=16:=by have:=(OT (l:=out.map aA) (λx hx=>by obtain⟨y,hy,rfl⟩:=ao.mp hx;exact(pV y hy).2.pos)).1;rw[Dt,bH.mp hot,ab]at this;lia);(have xI:∀x,x∈out->x.length<=17:=by intro x hx;obtain⟨y,hy⟩:=ag.gy (ao.mpr ⟨x,hx,rfl⟩:aA x∈out.map aA);rw[Dt]at hy;(have Mj:y≠0:=by rintro rfl;apply hop.ne;rw[hy];grind);have:=ag.bM (pV x hx).2.prim.ne Mj;rw[<-hy,bH.mp hot,bH.mp (pV x hx).1]at this;have:=ag.aS.mpr Mj;lia);refine⟨q5,rfl,ps.map V.ref,k1,by rw[ab];lia,out.map tj,by rw[ab,ab];lia,?_,?_,?_,?_⟩;(·exact List.Pairwise.map tj (λx y h e=>h (O_ e)) hnd);(·intro z hz;obtain⟨x,_,rfl⟩:=ao.mp hz;simp[tj]);(·intro i y z hy hz H6 Q' s6 k6;obtain⟨q,hi,rfl,hq⟩:=LL.at k2 (λi p l h h'=>s6 _ _ (k3 i p l h h')) hy;rw[aE,aa hi]at hz;cases hz;exact⟨q,out[i],rfl,cu.of hq,by have:=xI _ (ba hi);lia,λH7 q7 s7 h7=>k6 H7 q7 s7 h7⟩);intro D p H6 s6 hD ZQ hs;(have ZA:∀i,i∈p->i<out.length:=λi hi=>by have:=hs.lt i hi;rwa[ab]at this);(have gq:(p.map λi=>out.getD i []).Perm out:=by have h5:=hs.perm.map λi=>out.getD i [];rw[ab]at h5;have h6:(aX out.length).map (λi=>out.getD i [])=out:=wo [] out;rwa[h6]at h5);refine k H6 D (p.map λi=>out.getD i []) (s14.trans (s5.trans s6)) ⟨p.map λi=>ps.getD i 0,?_,by simp,?_⟩ ⟨λx hx=>pV x (gq.mem_iff.mp hx),?_,λf hf=>?_,by rw[gq.length_eq];exact ab8⟩;(·rw[ZQ,be];congr 2;refine cY λi hi=>?_;have:=ZA i hi;simp[aD,aE,aa (show i<ps.length by lia)]);(·intro i q l hq hl;rw[aE]at hq;obtain⟨c',T1,rfl⟩:=b9.mp hq;rw[aE,T1]at hl;have hl:=aZ hl;have hcl:=ZA c' (a_ T1);refine s6 _ _ (k3 c' _ l ?_ ?_);(·rw[aa ⋯];simp[aD,aa (show c'<ps.length by lia)]);rw[aa hcl,<-hl];simp[aD,aa hcl]);(·refine Nl.mpr ?_;refine hs.asc.imp_of_mem λ{i j} hi hj h=>?_;(have gi:(out.map tj).getD i []=tj (out.getD i []):=by simp[aD,aE,aa (ZA i hi)]);(have gj:(out.map tj).getD j []=tj (out.getD j []):=by simp[aD,aE,aa (ZA j hj)]);rwa[gi,gj]at h);rw[abV f hf,<-Dt];constructor;(·intro h;obtain⟨x,hx,e⟩:=FW hf pV h;exact⟨x,gq.mem_iff.mpr hx,e⟩);rintro⟨x,hx,rfl⟩;exact ag.gy (ao.mpr ⟨x,gq.mem_iff.mp hx,rfl⟩)
 rw[ab]at h1l;refine⟨∅,λq hq=>?_⟩;refine k _ q [] (s14.trans (aP hq)) ⟨[],am,rfl,by simp⟩ ⟨by simp,kJ,λf hf=>?_,by simp⟩;rw[abV f hf];constructor;.rintro⟨y,hy⟩;exfalso;(have Mj:y≠0:=by rintro rfl;apply hop.ne;rw[hy];grind);have:=ag.bM hf.prim.ne Mj;rw[<-hy,bH.mp hot]at this;have:=hf.pos;have:=ag.aS.mpr Mj;lia
 rintro⟨x,hx,_⟩;cases hx
inductive U8 (K:ai) (vs:List V) (H:Hp) (Q:VK) (E:XK):Prop|mk (a) (ns) (_:vs=[.ref a]) (_:TL H a ns) (_:fc ns) (_:ns≠[]) (_:ns.length<=17) (_:(∀x,x∈ns->x.natAbs<=2^31)) (_:∀H' out,bC H H'->yD ns out->Q (.bl (decide (out=[ns]))) H')
theorem Xh(F:Fn K "is_simple" 52 f fd)(T:Bt mg)(vK:ij P w K mg base "parts" 11 (yf K)):dm P w K mg base je 12 f fd ["f"] (U8 K):=by
 refine lJ ["f"] F λH Q E S hr h=>?_;obtain⟨a,ns,rfl,ha,qE,hne,hl,hb,k⟩:=h;refine⟨_,(aJ (bQ (yo (SO (FE hr)) (pU vK hr (g7 (pv 0))) (db (g7 (pv 0))) (zp _)))),?_⟩;ext;refine⟨a,ns,rfl,cu.of ha,qE,hne,hl,hb,λH1 q out s1 hL hP=>?_⟩;refine⟨∅,λr hr=>?_⟩;have s2:=aP (o:=HO.lst [V.ref a]) hr;obtain⟨ps,h1,h2,h3⟩:=hL;refine⟨q,r,ps,[a],out,[ns],rfl,rfl,s2 _ _ h1,am,h2,rfl,λi p l a1 a2=>s2 _ _ (h3 i p l a1 a2),λi p l a1 a2=>?_,k _ out (s1.trans s2) hP⟩;cases i with
  |zero=>rw[eI]at a1 a2;cases a1;cases a2;exact s2 _ _ (s1 _ _ ha)
  |succ i=>simp at a1
inductive U4 (K:ai) (vs:List V) (H:Hp) (Q:VK) (E:XK):Prop|mk (a) (ns) (x) (_:vs=[.ref a,.int x]) (_:IL K H a ns) (_:ns.length<=17) (_:(∀c,c∈ns->c.natAbs<=2^31)) (_:x.natAbs<=60) (_:∀H',bC H H'->Q (.int (jo ns x)) H')
theorem Xa(F:Fn K "value" 12 f fd)(T:Bt mg):dm P w K mg base je 1 f fd ["f","x"] (U4 K):=by
 refine lJ ["f","x","total","coefficient"] F λH Q E S hr h=>?_;obtain⟨a,ns,x,rfl,ha,hl,hb,hx,k⟩:=h;refine⟨_,(ak (eT 2 S aY) (ak (gM a9 rfl (Ax (K:=K) (OZ (K:=K) (pv 0) (ln jc aY))) (my 3 S) (aJ (eT 2 S (bW fq (bW ez (pv 2) (pv 1)) (pv 3))))) (aJ (bQ (pv 2))))),?_⟩;ext;rw[JO];simp only[V7];ext;refine⟨_,ha,λp hp=>?_⟩;have s1:=aP (o:=HO.lst (ns.map V.int).reverse) hp;rw[<-NP]at s1 ⊢;refine KI (cu.of am) (λj Z H'=>H'=cE H p (HO.lst (ns.reverse.map V.int))/\∃t v3,Z=[some (.ref a),some (.int x),some (.int t),v3]/\t=(ns.reverse.take j).foldl (λv c=>v*x+c) 0/\t.natAbs<2^(40+7*j)) ?_ (λi Z H' _ h=>by rw[h.1];exact cu.of am) ?_ ?_;.exact⟨rfl,0,_,rfl,rfl,∅⟩
 .rintro j y Z H2 hy ⟨rfl,t,v3,rfl,ht,hb2⟩ W hW;obtain⟨y,vV,rfl⟩:=wB hy;have hj:=(ax.mp vV).1;have hym:=jh.mp (a_ vV);have Zo:=hb y hym;(have hjl:j<17:=by rw[kM]at hj;lia);ext;have tD:(2:Nat)^(40+7*j)<=2^1000:=bg ∅ ⋯;have acw:(2:Nat)^1000<Bi:=pd ∅;refine⟨kz (bU (bh hb2 tD) acw) (bS hx (bh (show 60<2^6 by decide) (IZ ∅))),hW _ _ ⟨rfl,_,_,rfl,?_,?_⟩⟩;(·rw[aW hj,Nn,<-ht];(have:ns.reverse[j]=y:=by have:=aa hj;rw[vV]at this;exact(aZ this).symm);rw[this];rfl);have h1:(t*x+y).natAbs<=(t*x).natAbs+y.natAbs:=wW _ _;rw[cP]at h1;have h2:=dJ (bV hb2) hx;(have h3:(2:Nat)^(40+7*(j+1))=2^(40+7*j)*128:=by rw[show 40+7*(j+1)=40+7*j+7 by lia,iW]);have h4:(2:Nat)^31<=2^(40+7*j):=bg ∅ ⋯;lia
 rintro Z H2 ⟨rfl,t,v3,rfl,ht,hb2⟩;ext;have:t=jo ns x:=by rw[ht,ab,bR,List.foldl_reverse];unfold jo;congr 1;funext c v;rw[gX v x,Int.add_comm]
 rw[this];exact k _ s1
def xz(f g:ag Int)(n:Nat):Prop:=∃r,f=g^n*r/\¬Dv g r
inductive aal (K:ai) (vs:List V) (H:Hp) (Q:VK) (E:XK):Prop|mk (a b) (ns g) (_:vs=[.ref a,.ref b]) (_:IL K H a ns) (_:IL K H b g) (_:fc ns) (_:ns≠[]) (_:ns.length<=17) (_:(∀x,x∈ns->x.natAbs<=2^31)) (_:fc g) (_:(aA g).kX) (_:Dv (aA g) (aA ns)) (_:∀H' (n:Nat),bC H H'->xz (aA ns) (aA g) n->Q (.int n) H')
theorem abj(F:Fn K "how_often" 11 f fd)(T:Bt mg)(j8:ij P w K mg base "quotient" 1 (y8 K)):dm P w K mg base je 2 f fd ["f","g"] (aal K):=by
 refine lJ ["f","g","often","rest"] F λH Q E S hr h=>?_;obtain⟨a,b,ns,g,rfl,ha,My,qE,hne,hl,hb,gt,gs,gd,k⟩:=h;have h0:aA ns≠0:=λe=>hne ((bP qE).mp e);have zJ:∀i,((aA ns).c i).natAbs<=2^31:=by intro i;rw[fb];by_cases hi:i<ns.length;(·simp only[aD,aa hi];exact hb _ (ba hi));simp[aD,aG (show ns.length<=i by lia)]
 have Kx:(aA ns).size<=17:=by rw[bH.mp qE];exact hl
 have OD:∀l,Dv (aA l) (aA ns)->Bz 8000 l:=λl h x hx=>bS (wl (wk Kx zJ h0 h) x hx) (dU ∅ ∅);have hgz:=OD g gd;have AA:g≠[]:=λe=>by apply gs.ne;rw[e];exact fB
 have Iv:g.length<=17:=by rw[<-bH.mp gt];exact(wk Kx zJ h0 gd).size
 have ZF:2<=g.length:=by rw[<-bH.mp gt];exact gs.pos
 refine⟨_,(ak (eT 2 S aY) (ak (eT 3 S (pU j8 hr (io (pv 0) (pv 1)))) (ak (gp a9 (uf (yp (pv 3))) (ak (W5 2 S aY nc) (aJ (eT 3 S (pU j8 hr (io (pv 3) (pv 1))))))) (aJ (bQ (pv 2)))))),?_⟩;ext;have first:∀H1 r rs,IL K H1 r rs->IL K H1 b g->fc rs->rs≠[]->rs.length<=17->Dv (aA rs) (aA ns)->∀Q',(∀H' p l,bC H1 H'->TL H' p l->aA rs=aA g*aA l->fc l->l≠[]->l.length<rs.length->Q' (.ref p) H')->(∀H',bC H1 H'->¬Dv (aA g) (aA rs)->Q' .jk H')->y8 K [.ref r,.ref b] H1 Q' E0:=by intro H1 r rs h1 h2 h3 h4 h5 h6 Q' k1 k2;refine⟨r,b,rs,g,rfl,h1,h2,⋯,⋯,hgz,OD rs h6,gt,AA,λH' p l s1 hl1 e1 n1=>?_,λH' s1 uE=>k2 H' s1 uE⟩;obtain⟨t1,t2⟩:=CQ h3 gt h4 e1 n1;refine k1 H' p l s1 hl1 e1 t1 (λe=>?_) ⋯;(have hz:aA rs=0:=by rw[e1,e,fB];grind);exact h4 ((bP h3).mp hz)
 have loop:∀H1 ch,bC H H1->((ch=.jk/\xz (aA ns) (aA g) 0)\/∃r rs,ch=.ref r/\TL H1 r rs/\aA ns=aA g^(0+1)*aA rs/\fc rs/\rs≠[]/\rs.length<=17)->N_ (tB (Oc (tV 3))) (V6 (Z_ 2 (tC (V.int 1)) (Zl λi j=>i+j)) (Hz (EO (y8 K) [] E0 (pO (tV 3) (pO (tV 1) xG))) (jl 3))) {nx:=V8 (tV 2) {nx:=λx H'=>Q V.jk H',rt:=Q},rt:=Q} [some (V.ref a),some (V.ref b),some (V.int 0),some ch] H1:=by intro H1 ch s1 Cd;refine⟨λN Z H'=>bC H H'/\∃n ch,Z=[some (.ref a),some (.ref b),some (.int (n:Nat)),some ch]/\((ch=.jk/\N=0/\xz (aA ns) (aA g) n)\/∃r rs,ch=.ref r/\TL H' r rs/\aA ns=aA g^(n+1)*aA rs/\fc rs/\rs≠[]/\rs.length<=17/\N=rs.length),?_,?_⟩;(·rcases Cd with⟨rfl,ho⟩|⟨r,rs,rfl,h1,h2,h3,h4,h5⟩;(·exact⟨0,s1,0,_,rfl,.inl ⟨rfl,rfl,ho⟩⟩);exact⟨rs.length,s1,0,_,rfl,.inr ⟨r,rs,rfl,h1,h2,h3,h4,h5,rfl⟩⟩);rintro N Z H2 ⟨s2,n,ch,rfl,Cd⟩;ext;rcases Cd with⟨rfl,rfl,ho⟩|⟨r,rs,rfl,h1,h2,h3,h4,h5,rfl⟩;(·refine dA (λh=>ap h (by simp)) (λ_=>?_);exact k H2 n s2 ho);refine dA (λ_=>?_) (λh=>ap (by simp) h);refine⟨λZ' H'=>bC H H'/\∃ch,Z'=[some (.ref a),some (.ref b),some (.int ((n:Int)+1)),some ch]/\((ch=.jk/\xz (aA ns) (aA g) (n+1))\/∃r l,ch=.ref r/\TL H' r l/\aA ns=aA g^(n+1+1)*aA l/\fc l/\l≠[]/\l.length<rs.length),?_,?_⟩;(·rintro Z' H' ⟨s3,ch,rfl,h⟩;rcases h with⟨rfl,ho⟩|⟨r',l,rfl,a1,a2,a3,a4,a5⟩;(·exact⟨0,bL.mpr h4,s3,n+1,_,by rw[fT];rfl,.inl ⟨rfl,rfl,ho⟩⟩);exact⟨l.length,a5,s3,n+1,_,by rw[fT];rfl,.inr ⟨r',rfl,l,a1,a2,a3,a4,⋯,rfl⟩⟩);(refine first H2 r rs (cu.of h1) (s2.seq My) h3 h4 h5 ⟨aA g^(n+1),by rw[h2];grind⟩ _ (λH3 p l s3 hl3 e3 t3 n3 l3=>?_) (λH3 s3 uE=>?_));(·refine⟨s2.trans s3,_,rfl,.inr ⟨p,l,rfl,hl3,?_,t3,n3,l3⟩⟩;rw[h2,e3,dC];grind);exact⟨s2.trans s3,_,rfl,.inl ⟨rfl,_,h2,uE⟩⟩
 refine first H a ns ha My qE hne hl (Dv.refl _) _ (λH1 p l s1 hl1 e1 t1 n1 l1=>?_) (λH1 s1 uE=>?_)
 .refine loop H1 _ s1 (.inr ⟨p,l,rfl,hl1,?_,t1,n1,⋯⟩);rw[e1,dC,fN];grind
 exact ap gd uE
theorem xu(x y:List Int):∀d,d∣aB (x++y)↔d∣aB x/\d∣aB y:=by
 intro d;rw[gQ,gQ,gQ];constructor;.intro h;exact⟨λz hz=>h z (bq _ hz),λz hz=>h z (bF _ hz)⟩
 rintro⟨h1,h2⟩ z hz;rcases aO.mp hz with h|h;.exact h1 z h
 exact h2 z h
theorem Rq(h:n∣aB p):∃y,aA p=ag.C (n:Int)*y:=by
 have h1:=gQ.mp h;refine⟨aA (p.map λx=>x/(n:Int)),ag.ext λi=>?_⟩;rw[ag.cA,fb,fb];by_cases hi:i<p.length;.simp only[aD,aE,aa hi,xC,gT];exact(tK (h1 _ (ba hi))).symm
 simp[aD,aG (show p.length<=i by lia)]
theorem QV(h0:aA fs≠0\/aA gs≠0)(hc:aB (fs++gs)≠0)(G:Af (aA l) (aA fs) (aA gs)):M9 (aA fs) (aA gs) (ag.C ((aB (fs++gs):Nat):Int)*aA l):=by
 have hcd:=(xu fs gs (aB (fs++gs))).mp (gv _);have AX:(0:Int)<(aB (fs++gs):Nat):=⋯;have part:∀p,aB (fs++gs)∣aB p->Dv (aA l) (aA p)->Dv (ag.C ((aB (fs++gs):Nat):Int)*aA l) (aA p):=by rintro p h1 ⟨x,hx⟩;obtain⟨y,hy⟩:=Rq h1;obtain⟨g',e1,e2⟩:=ag.e9.et G.prim ⋯ (hy.symm.trans hx);exact⟨g',by rw[hy,e2];grind⟩
 refine⟨?_,part fs hcd.1 G.dp,part gs hcd.2 G.dq,?_⟩;.rw[ag.df,ag.j4];exact ku AX G.aT
 intro e h1 h2;have VB:e≠0:=by rintro rfl;rcases h0 with h|h;(·exact h (Dv.Di h1));exact h (Dv.Di h2)
 obtain⟨c,e0,xk,kd,rfl⟩:=ag.mL VB;have d1:c.natAbs∣aB (fs++gs):=by refine(xu fs gs _).mpr ⟨?_,?_⟩;(·obtain⟨x,hx⟩:=h1;exact j5 (x:=e0*x) (by rw[hx];grind));obtain⟨x,hx⟩:=h2;exact j5 (x:=e0*x) (by rw[hx];grind)
 have d2:Dv e0 (aA l):=by obtain⟨c',u,v,T1,e1⟩:=G.Ih;(have d3:Dv e0 (ag.C c'*aA l):=by rw[e1];have i1:=(Dv.right e0 (ag.C c)).trans h1;have i2:=(Dv.right e0 (ag.C c)).trans h2;exact(i1.mul_left u).add (i2.mul_left v));obtain⟨y,hy⟩:=d3;obtain⟨g',_,e2⟩:=ag.e9.et kd T1 hy;exact⟨g',e2⟩
 obtain⟨y,hy⟩:=d2;obtain⟨z,hz⟩:=d1;refine⟨ag.C (z:Int)*y,?_⟩;have:((aB (fs++gs):Nat):Int)=c*z:=by rw[hz,cg];congr 1;lia
 rw[this,ag.dw,hy];grind
inductive Ox (K:ai) (vs:List V) (H:Hp) (Q:VK) (E:XK):Prop|mk (a b) (fs gs) (_:vs=[.ref a,.ref b]) (_:TL H a fs) (_:TL H b gs) (_:fc fs) (_:fc gs) (_:(fs≠[]\/gs≠[])) (_:fs.length<=17) (_:gs.length<=17) (_:(∀x,x∈fs->x.natAbs<=2^31)) (_:(∀x,x∈gs->x.natAbs<=2^31)) (_:∀H' q r,bC H H'->TL H' q r->fc r->r.length<=17->M9 (aA fs) (aA gs) (aA r)->Q (.ref q) H')
theorem Xq(F:Fn K "common" 10 f fd)(T:Bt mg)(qg:ij P w K mg base "content" 2 (C2 K))(k_:ij P w K mg base "primitive_common" 4 (Wh K)):dm P w K mg base je 5 f fd ["f","g"] (Ox K):=by
 refine lJ ["f","g","number","coefficient"] F λH Q E S hr h=>?_;obtain⟨a,b,fs,gs,rfl,ha,hb,ht,hu,hne,hl,hm,Zq,vV,k⟩:=h;have hz1:Bz 36 fs:=λx hx=>bS (Zq x hx) ∅;have Eg:Bz 36 gs:=λx hx=>bS (vV x hx) ∅;refine⟨_,(ak (eT 2 S (jY vF (by rfl) T.abs RA (g7 (pU qg hr (g7 (bW fq (pv 0) (pv 1))))))) (aJ (bQ (O5 [("coefficient",3)] S (Ax (K:=K) (pU k_ hr (io (pv 0) (pv 1)))) (my 3 S) iH (bW ez (pv 2) (pv 3)))))),?_⟩;ext;have Yx:fs++gs≠[]:=by rcases hne with h|h<;>simp[h]
 have htg:fc (fs++gs):=by intro hh;by_cases hg:gs=[];(·subst hg;simp only[eN]at hh ⊢;exact ht hh);rw[List.getLast_append_of_ne_nil _ hg];exact hu hg
 have h0:aA fs≠0\/aA gs≠0:=by rcases hne with h|h;(·exact .inl λe=>h ((bP ht).mp e));exact .inr λe=>h ((bP hu).mp e)
 have Ys:aB (fs++gs)≠0:=by intro e;have:=gQ.mp (show 0∣aB (fs++gs) by rw[e];exact gv _) _ (cC Yx);exact htg Yx (GK.mp this)
 have ZI:aB (fs++gs)<2^36:=by have h1:=gQ.mp (gv (aB (fs++gs))) _ (cC Yx);have h2:=eQ (Bj.mpr (htg Yx)) (dc.mp h1);(have h3:((fs++gs).getLast Yx).natAbs<2^36:=by rcases aO.mp (cC Yx)with h|h;(·exact hz1 _ h);exact Eg _ h);lia
 refine⟨_,ha,_,hb,by rw[ab,ab];exact bV (bT ⋯),λp hp=>?_⟩;have s1:=aP (o:=HO.lst (fs.map V.int++gs.map V.int)) hp;have rD:TL (cE H p (HO.lst (fs.map V.int++gs.map V.int))) p (fs++gs):=by rw[TL,am,aF]
 generalize cE H p (HO.lst (fs.map V.int++gs.map V.int))=H1 at*;refine⟨p,fs++gs,rfl,cu.of rD,htg,Yx,λH2 s2=>⟨_,rfl,?_⟩⟩;have habs:(if sgn (fs++gs)<0 then-sgn (fs++gs)else sgn (fs++gs))=((aB (fs++gs):Nat):Int):=by rw[<-sG _ htg];split<;>lia
 rw[habs];have s12:=s1.trans s2;rw[Hy];ext;refine⟨a,b,fs,gs,rfl,cu.of (s12 _ _ ha),cu.of (s12 _ _ hb),hl,hm,ht,hu,hne,hz1,Eg,λH3 q l s3 h3 lt G=>?_⟩;have ags:=QV h0 Ys G;have RQ:l.length<=17:=by(have go:∀m,fc m->m.length<=17->aA m≠0->Dv (aA l) (aA m)->l.length<=17:=by rintro m mt ml m0 ⟨x,hx⟩;(have tm:x≠0:=by rintro rfl;apply m0;rw[hx];grind);have:=ag.bM G.prim.ne tm;rw[<-hx,bH.mp mt,bH.mp lt]at this;have:=ag.aS.mpr tm;lia);rcases h0 with h|h;(·exact go fs ht hl h G.dp);exact go gs hu hm h G.dq
 have TR:∀x,x∈l->x.natAbs<Bi:=by(have go:∀m,fc m->m.length<=17->(∀x,x∈m->x.natAbs<=2^31)->aA m≠0->Dv (aA l) (aA m)->Ek (aA l):=by intro m mt ml mb m0 hd;refine wk (by rw[bH.mp mt];exact ml) (λi=>?_) m0 hd;rw[fb];by_cases hi:i<m.length;(·simp only[aD,aa hi];exact mb _ (ba hi));simp[aD,aG (show m.length<=i by lia)]);(have hs:Ek (aA l):=by rcases h0 with h|h;(·exact go fs ht hl Zq h G.dp);exact go gs hu hm vV h G.dq);exact λx hx=>bS (wl hs x hx) (pd ∅)
 refine Ii (cu.of h3) (λD i H'=>bC H3 H'/\H' D=some (.lst (((l.take i).map λx=>((aB (fs++gs):Nat):Int)*x).map V.int))) (λD hD=>⟨aP hD,by rw[am];rfl⟩) (λD i H' h=>cu.of (h.1 _ _ h3)) ?_ ?_;.rintro D i z H4 hD hz ⟨s4,h4⟩;obtain⟨z,Eg,rfl⟩:=wB hz;have hi:=(ax.mp Eg).1;ext;refine⟨kz (by rw[il];exact bU ZI (pd ∅)) (TR z (a_ Eg)),_,h4,by rw[ab,ab,da];exact bT ⋯,dn s4 hD,?_⟩;rw[am,aW hi];(have:l[i]=z:=by have:=aa hi;rw[Eg]at this;exact(aZ this).symm);rw[this,aF,aF];rfl
 rintro D H4 hD ⟨s4,h4⟩;rw[ab,bR]at h4;have e1:=nH ((aB (fs++gs):Nat):Int) l;refine k H4 D _ (s12.trans (s3.trans s4)) h4 ?_ (by rw[ab];exact RQ) (by rw[e1];exact ags);intro hh;rw[xF];have Cb:l≠[]:=by simpa using hh
 exact cF ⋯ (lt Cb)
noncomputable def sg(x:Int):Int:=if 2^31<=x then x-2^32 else x
inductive aae (vs:List V) (H:Hp) (Q:VK) (E:XK):Prop|mk (x) (_:vs=[.int x]) (_:∀H',bC H H'->Q (.int (sg x)) H')
theorem abc(F:Fn K "signed" 69 f fd)(T:Bt mg):dm P w K mg base je 1 f fd ["number"] aae:=by
 refine lJ ["number"] F λH Q E S hr h=>?_;obtain⟨x,rfl,k⟩:=h;refine⟨_,(aJ (bQ (og (lI Ka (pv 0) (bW HS aY aY)) (bW f6 (pv 0) (bW HS aY aY)) (pv 0)))),?_⟩;ext;have e31:(2:Int)^RG 31=2^31:=rfl;have e32:(2:Int)^RG 32=2^32:=rfl;rw[e31,e32];have hk:=k H (bC.refl _);unfold sg at hk;refine⟨⟨∅,∅,∅⟩,dA (λh=>⟨⟨∅,∅,∅⟩,?_⟩) (λh=>?_)⟩;.rwa[aj h]at hk
 rwa[ah h]at hk
noncomputable def tw(l:List Int):List Int:=((l.length:Int)-1)::(l++aQ (17-l.length) 0)
inductive So (K:ai) (vs:List V) (H:Hp) (Q:VK) (E:XK):Prop|mk (a) (l) (_:vs=[.ref a]) (_:TL H a l) (_:l.length<=17) (_:∀H' q,bC H H'->H q=none->TL H' q (tw l)->Q (.ref q) H')
theorem aa_(c17:mg "MOST_COEFFICIENTS"=some (cH 17 aeb))(F:Fn K "told_whole" 70 f fd)(T:Bt mg):dm P w K mg base je 1 f fd ["f"] (So K):=by
 refine lJ ["f"] F λH Q E S hr h=>?_;obtain⟨a,l,rfl,ha,hl,k⟩:=h;refine⟨_,(aJ (bQ (bW fq (bW fq (db (g7 (bW f6 (pL K T.len (pv 0)) aY))) (pv 0)) (bW ez (db (g7 aY)) (bW f6 (uU 17) (pL K T.len (pv 0))))))),?_⟩;ext;refine⟨_,cu.of ha,?_⟩;rw[ab];refine⟨∅,λp hp=>?_⟩;have t1:=aP (o:=HO.lst [V.int ((l.length:Nat)-1)]) hp;refine⟨_,am,_,t1 _ _ ha,?_,λp1 rD=>?_⟩;.simp only[ab,a7,cV];exact bV (bT ⋯)
 have t2:=t1.trans (aP (o:=HO.lst ([V.int ((l.length:Nat)-1)]++l.map V.int)) rD);refine⟨∅,λp2 hp2=>?_⟩;have t3:=t2.trans (aP (o:=HO.lst [V.int 0]) hp2);refine⟨_,cu.of (t3 _ _ ha),_,am,?_⟩;rw[ab];have e17:((17:Int)-(l.length:Int)).toNat=17-l.length:=⋯;refine⟨⋯,⋯,?_,λp3 AY=>?_⟩;.rw[e17,ck,kt];exact bV (bT ⋯)
 rw[rep0,e17];have h12:=bB am hp2;have h13:=bB (by rw[aM h12];exact am) AY;refine⟨_,by rw[aM h13,aM h12];exact am,_,am,?_,λp4 Vt=>?_⟩;.simp only[ab,bw,a7,cV,fZ];exact bV (bT ⋯)
 refine k _ p4 ((t3.trans (aP AY)).trans (aP Vt)) ((t3.trans (aP AY)).free Vt) ?_;rw[TL,am,tw,aR,aF];simp
noncomputable def Uq(l:List Int)(p:Nat):Int:=if l.getD p 0=1 then 3+max (l.getD (p+2) 0) 0 else if l.getD p 0=5\/l.getD p 0=6\/l.getD p 0=9 then 2 else 1
inductive aap (K:ai) (vs:List V) (H:Hp) (Q:VK) (E:XK):Prop|mk (a) (l) (p) (_:vs=[.ref a,.int (p:Nat)]) (_:IL K H a l) (_:p<l.length) (_:(l.getD p 0=1->p+2<l.length)) (_:∀H',bC H H'->Q (.int (Uq l p)) H')
theorem abn(c1:mg "SET"=some (cH 1 t1))(c5:mg "PART"=some (cH 5 t5))(c6:mg "POWER"=some (cH 6 t6))(c9:mg "VALUE"=some (cH 9 t9))(F:Fn K "call_length" 72 f fd)(T:Bt mg):dm P w K mg base je 1 f fd ["calls","place"] (aap K):=by
 refine lJ ["calls","place","number"] F λH Q E S hr h=>?_;obtain⟨a,l,p,rfl,ha,hp,hp2,k⟩:=h;refine⟨_,(ak (eT 2 S (rd K (pv 0) (pv 1))) (ak (fO (lI iL (pv 2) (uU 1)) (aJ (bQ (bW fq aY (jY (sT rfl) (by rfl) T.max Rz (io (rd K (pv 0) (bW fq (pv 1) aY)) aY))))) dg) (ak (fO (yk (inL (K:=K)) (pv 2) (zk (cf (uU 5) (io (uU 6) (uU 9)))) rfl) (aJ (bQ aY)) dg) (aJ (bQ aY))))),?_⟩;ext;refine⟨_,ha,_,eJ hp,rfl,?_⟩;have hk:=k;unfold Uq at hk;refine dA (λh1=>?_) (λh1=>?_);·(have FQ:l.getD p 0=1:=by injection h1);have h2:=hp2 FQ;rw[aj FQ]at hk;refine⟨_,ha,.int (l.getD (p+2) 0),?_,_,0,⟨rfl,rfl⟩,?_⟩;(·have:=eJ (ns:=l) (i:=p+2) h2;rwa[fT]at this);have:=hk H (bC.refl _);(have e:(if(0:Int)>l.getD (p+2) 0 then 0 else l.getD (p+2) 0)=max (l.getD (p+2) 0) 0:=by split<;>lia);rw[e];exact this
 have FQ:¬l.getD p 0=1:=λe=>h1 (by rw[e]);rw[ah FQ]at hk;refine⟨∅,λq hq=>?_⟩;have sq:=aP (o:=HO.tup [V.int 5,V.int 6,V.int 9]) hq;refine⟨q,_,rfl,.inr (Ad.of am),rfl,rfl,_,rfl,?_⟩;have AZ:(if false=true then !Vn (V.int (l.getD p 0)) [V.int 5,V.int 6,V.int 9]else Vn (V.int (l.getD p 0)) [V.int 5,V.int 6,V.int 9])=true↔(l.getD p 0=5\/l.getD p 0=6\/l.getD p 0=9):=by simp only[d7,if_false];show((5==l.getD p 0)||((6==l.getD p 0)||((9==l.getD p 0)||false)))=true↔_;simp only[UR,eP,beq_iff_eq];lia
 refine dA (λh=>?_) (λh=>?_);.have:=hk _ sq;rwa[aj (AZ.mp h)]at this
 have:=hk _ sq;rwa[ah (λe=>h (AZ.mpr e))]at this
theorem OQ{X:Cx}{st:rm}:PS X st (λ_ _ _=>False):=λ_ _ _ _ _ _ h=>h.elim
noncomputable def bf(p o:aH):List (cJ×V):=o5 "other" (.ref o) (o5 "polynomial" (.ref p) [])
theorem xO(p o:aH):(bf p o).lookup ("polynomial":cJ)=some (.ref p):=by unfold bf;rw[j0,ah (by decide+kernel),j0,aj rfl]
theorem Ut(p o:aH):(bf p o).lookup ("other":cJ)=some (.ref o):=by unfold bf;rw[j0,aj rfl]
theorem QY(p o:aH){m:cJ}(h1:¬m="polynomial")(h2:¬m="other"):(bf p o).lookup m=none:=by unfold bf;rw[j0,ah h2,j0,ah h1];rfl
theorem K6(p o q:aH):o5 "polynomial" (.ref q) (bf p o)=bf q o:=by unfold bf;rfl
theorem K7(p o q:aH):o5 "other" (.ref q) (bf p o)=bf p q:=by unfold bf;rfl
structure Dk(C:aH)(H:Hp)(d:aH)(ps os:List Int):Prop where
 at':∃dx p o,H d=some (.ins C dx (bf p o))/\TL H p ps/\TL H o os
structure Txt(K:ai)(mg:cJ->Option aI)(C:aH):Prop where
 cl:NI K C
 nP:ph K C "polynomial"
 nO:ph K C "other"
 mg:mg "Desk"=some (.ref C)
def Oth(d:aH)(H H':Hp):Prop:=∀b o,b≠d->H b=some o->H' b=some o
def Zc(C:aH)(H:Hp)(d t:aH):Prop:=∀dx p o,H d=some (.ins C dx (bf p o))->p≠t/\o≠t
def Nt(C d:aH)(H H':Hp):Prop:=∀t,H t≠none->Zc C H d t->Zc C H' d t
theorem Y2(h:bf p o=bf p' o'):p=p'/\o=o':=by have h1:=aK (λl=>l.lookup ("polynomial":cJ)) h;have h2:=aK (λl=>l.lookup ("other":cJ)) h;simp only[xO,Ut]at h1 h2;exact⟨V.ref.inj (aZ h1),V.ref.inj (aZ h2)⟩
theorem uq(h:H d=some (.ins C dx (bf p o)))(h1:p≠t)(h2:o≠t):Zc C H d t:=by intro dx' p' o' e;rw[h]at e;have e:=aZ e;injection e with _ _ e;obtain⟨rfl,rfl⟩:=Y2 e;exact⟨h1,h2⟩
theorem sK{ps os:List Int}(hd:Dk C H d ps os)(s:bC H H'):Nt C d H H':=by obtain⟨dx,p,o,h1,_,_⟩:=hd;intro t _ hn;obtain⟨a,b⟩:=hn dx p o h1;exact uq (s _ _ h1) a b
inductive Ov (C:aH) (vs:List V) (H:Hp) (Q:VK) (E:XK):Prop|mk (d dx) (_:vs=[.ref d]) (_:H d=some (.ins C dx [])) (_:∀H',Dk C H' d [] []->Oth d H H'->(∀t,H' t=none->Zc C H' d t)->Q .jk H')
theorem S_(F:uF K "__init__" "Desk.__init__" (mB (top 71) 0) f fd)(D:Txt K mg C):dm P w K mg base je 1 f fd ["self"] (Ov C):=by
 refine lJ ["self"] F λH Q E S hr h=>?_;obtain⟨d,dx,rfl,hd,k⟩:=h;refine⟨_,(ak (wp (pv 0) (db lH) rfl) (aJ (wp (pv 0) (db lH) rfl))),?_⟩;ext;refine⟨∅,λp hp=>?_⟩;have Eh:=bB hd hp;refine⟨C,dx,[],by rw[aM Eh];exact hd,D.cl,D.nP,∅,by decide,λq hq=>?_⟩;have Az:=bB am hq;have Zy:=bB (by rw[aM Eh.symm];exact am) hq;refine⟨C,dx,_,by rw[aM Az];exact am,D.cl,D.nO,by show 1<1000;decide,k _ ⟨dx,p,q,am,?_,?_⟩ ?_ ?_⟩;.rw[TL,aM Eh.symm,aM Zy,aM Eh.symm];exact am
 .rw[TL,aM Az.symm];exact am
 rotate_left
 .intro t ht;refine uq (p:=p) (o:=q) am (λe=>?_) (λe=>?_);(·rw[<-e,aM Eh.symm,aM Zy,aM Eh.symm,am]at ht;cases ht);rw[<-e,aM Az.symm,am]at ht;cases ht
 intro b o hb h;have h1:=bB h hp;have h2:=bB (by rw[aM hb,aM h1];exact h) hq;rw[aM hb,aM h2,aM hb,aM h1];exact h
inductive JU (C:aH) (vs:List V) (H:Hp) (Q:VK) (E:XK):Prop|mk (d) (ps os) (_:vs=[.ref d]) (_:Dk C H d ps os) (_:∀H' q,Dk C H' d [] []->Oth d H H'->TL H' q [0]->H q=none->Nt C d H H'->Q (.ref q) H')
theorem Pd(F:uF K "begin" "Desk.begin" (mB (top 71) 1) f fd)(D:Txt K mg C):dm P w K mg base je 1 f fd ["self"] (JU C):=by
 refine lJ ["self"] F λH Q E S hr h=>?_;obtain⟨d,ps,os,rfl,⟨dx,p0,o0,hd,kd,Mq⟩,k⟩:=h;refine⟨_,(ak (wp (pv 0) (db lH) rfl) (ak (wp (pv 0) (db lH) rfl) (aJ (bQ (db (g7 aY)))))),?_⟩;ext;refine⟨∅,λp hp=>?_⟩;have Eh:=bB hd hp;refine⟨C,dx,_,by rw[aM Eh];exact hd,D.cl,D.nP,by show 2<1000;decide,∅,λq hq=>?_⟩;have Az:=bB am hq;have Zy:=bB (by rw[aM Eh.symm];exact am) hq;refine⟨C,dx,_,by rw[aM Az];exact am,D.cl,D.nO,by show 2<1000;decide,∅,λr hr=>?_⟩;rw[K6,K7]at*;have hrd:=bB am hr;have hrq:=bB (by rw[aM Az.symm];exact am) hr;have X1:=bB (by rw[aM Eh.symm,aM Zy,aM Eh.symm];exact am) hr;have O6:∀b o,b≠d->H b=some o->b≠r/\b≠q/\b≠p:=by intro b o hb h;have h1:=bB h hp;have h2:=bB (by rw[aM hb,aM h1];exact h) hq;exact⟨bB (by rw[aM hb,aM h2,aM hb,aM h1];exact h) hr,h2,h1⟩
 refine k _ r ⟨dx,p,q,by rw[aM hrd];exact am,?_,?_⟩ ?_ am ?_ ?_;.rw[TL,aM X1,aM Eh.symm,aM Zy,aM Eh.symm];exact am
 .rw[TL,aM hrq,aM Az.symm];exact am
 .intro b o hb h;obtain⟨h3,h2,h1⟩:=O6 b o hb h;rw[aM h3,aM hb,aM h2,aM hb,aM h1];exact h
 .cases e:H r with
   |none=>rfl
   |some o=>exact ap rfl (O6 r o hrd.symm e).1
 intro t ht _;have hpt:p≠t:=λe=>ht (by rw[<-e];exact hp);refine uq (p:=p) (o:=q) (dx:=dx) (by rw[aM hrd];exact am) hpt (λe=>?_);obtain⟨o,ho⟩:=Option.ne_none_iff_exists'.mp ht;exact(O6 t o (λe2=>Az (by rw[<-e2,e])) ho).2.1 e.symm
theorem Dk.same{ps os:List Int}(h:Dk C H d ps os)(s:bC H H'):Dk C H' d ps os:=by obtain⟨dx,p,o,h1,h2,h3⟩:=h;exact⟨dx,p,o,s _ _ h1,s _ _ h2,s _ _ h3⟩
theorem Dk.ne{ps os:List Int}(h:Dk C H d ps os){xs:List V}(ha:H a=some (.lst xs)):a≠d:=by obtain⟨dx,p,o,h1,_⟩:=h;exact zr ha h1 (by intro z;cases z)
def wJ(wh n:Int):Prop:=wh<0\/1<wh\/n<0\/17<n
inductive U6 (K:ai) (C:aH) (vs:List V) (H:Hp) (Q:VK) (E:XK):Prop|mk (d c) (ps os cs) (wh n) (_:vs=[.ref d,.int wh,.int n,.ref c]) (_:Dk C H d ps os) (_:IL K H c cs) (_:cs.length<=2000) (_:(wJ wh n->∀H' q,bC H H'->H q=none->TL H' q [-1]->Q (.ref q) H')) (_:(¬wJ wh n->∀H' q,Oth d H H'->Dk C H' d (if wh=0 then aN (cs.map sg)else ps) (if wh=0 then os else aN (cs.map sg))->H q=none->TL H' q [0]->Nt C d H H'->Q (.ref q) H'))
theorem Xe(c17:mg "MOST_COEFFICIENTS"=some (cH 17 aeb))(cm1:mg "OUT_OF_RANGE"=some (cH (-1) tkm))(F:uF K "put" "Desk.put" (mB (top 71) 2) f fd)(D:Txt K mg C)(T:Bt mg)(mn:ij P w K mg base "trimmed" 1 (JT K))(Ra:ij P w K mg base "signed" 1 aae):dm P w K mg base je 2 f fd ["self","which","length","coefficients"] (U6 K C):=by
 refine lJ ["self","which","length","coefficients","polynomial","coefficient"] F λH Q E S hr h=>?_;obtain⟨d,c,ps,os,cs,wh,n,rfl,hd,hc,hcl,k1,k2⟩:=h;refine⟨_,(ak (fO (PW.pt (ze (lI rX (pv 1) aY) (ze (lI rY (pv 1) aY) (ze (lI rX (pv 2) aY) (zd (lI rY (pv 2) (uU 17))))))) (aJ (bQ (db (g7 (uU (-1)))))) dg) (ak (eT 4 S (pU mn hr (g7 (O5 [("coefficient",5)] S (Ax (K:=K) (pv 3)) (my 5 S) iH (pU Ra hr (g7 (pv 5))))))) (ak (fO (lI iL (pv 1) aY) (aJ (wp (pv 0) (pv 4) rfl)) (aJ (wp (pv 0) (pv 4) rfl))) (aJ (bQ (db (g7 aY))))))),?_⟩;ext;have Y3:wJ wh n->1<=bn/\∀p,H p=none->Q (V.ref p) (cE H p (HO.lst [V.int (-1)])):=λhb=>⟨∅,λp hp=>k1 hb _ p (aP hp) hp am⟩;refine dA (λh=>Y3 (.inl h)) (λh1=>dA (λh=>Y3 (.inr (.inl h))) (λh2=>dA (λh=>Y3 (.inr (.inr (.inl h)))) (λh3=>dA (λh=>Y3 (.inr (.inr (.inr h)))) (λh4=>?_))));have fQ:¬wJ wh n:=by rintro(h|h|h|h);(·exact h1 h);(·exact h2 h);(·exact h3 h);exact h4 h
 refine nw rfl hc (by rw[ab];exact bT hcl) (L4 λy=>.int (sg y)) ?_ ?_;.intro z hz H2 Q' s2 k3;obtain⟨z,Eg,rfl⟩:=ao.mp hz;ext;exact⟨z,rfl,λH3 s3=>k3 H3 s3⟩
 intro H2 X0 s2 hX;have hXl:TL H2 X0 (cs.map sg):=by rw[TL,hX,be,be];congr 1
 refine⟨X0,cs.map sg,rfl,cu.of hXl,λH3 q s3 nS h3=>?_⟩;have hqn:=s2.free nS;have JX:=s2.trans s3;obtain⟨dx,p0,o0,oi,kd,Mq⟩:=hd;have NF:=JX _ _ oi;have Az:=zr h3 NF (by intro z;cases z);have Eh:=zr kd oi (by intro z;cases z);have hod:=zr Mq oi (by intro z;cases z);refine dA (λhw=>?_) (λhw=>?_);.refine⟨C,dx,_,NF,D.cl,D.nP,by show 2<1000;decide,∅,λr hr=>?_⟩;rw[K6]at*;have hrd:=bB am hr;have O6:∀b o,b≠d->H3 b=some o->b≠r:=λb o hb h=>bB (by rw[aM hb];exact h) hr;refine k2 fQ _ r (λb o hb h=>?_) ?_ ?_ am ?_;(·rw[aM (O6 b o hb (JX _ _ h)),aM hb];exact JX _ _ h);(·rw[aj hw,aj hw];refine⟨dx,q,o0,by rw[aM hrd];exact am,?_,?_⟩;(·rw[TL,aM (O6 q _ Az h3),aM Az];exact h3);rw[TL,aM (O6 o0 _ hod (JX _ _ Mq)),aM hod];exact JX _ _ Mq);(·refine JX.free ?_;rwa[aM hrd.symm]at hr);intro t ht hn;exact uq (p:=q) (o:=o0) (dx:=dx) (by rw[aM hrd];exact am) (λe=>ht (by rw[<-e];exact hqn)) (hn dx p0 o0 oi).2
 refine⟨C,dx,_,NF,D.cl,D.nO,by show 2<1000;decide,∅,λr hr=>?_⟩;rw[K7]at*;have hrd:=bB am hr;have O6:∀b o,b≠d->H3 b=some o->b≠r:=λb o hb h=>bB (by rw[aM hb];exact h) hr;refine k2 fQ _ r (λb o hb h=>?_) ?_ ?_ am ?_;.rw[aM (O6 b o hb (JX _ _ h)),aM hb];exact JX _ _ h
 .rw[ah hw,ah hw];refine⟨dx,p0,q,by rw[aM hrd];exact am,?_,?_⟩;(·rw[TL,aM (O6 p0 _ Eh (JX _ _ kd)),aM Eh];exact JX _ _ kd);rw[TL,aM (O6 q _ Az h3),aM Az];exact h3
 .refine JX.free ?_;rwa[aM hrd.symm]at hr
 intro t ht hn;exact uq (p:=p0) (o:=q) (dx:=dx) (by rw[aM hrd];exact am) (hn dx p0 o0 oi).1 (λe=>ht (by rw[<-e];exact hqn))
inductive U3 (C:aH) (vs:List V) (H:Hp) (Q:VK) (E:XK):Prop|mk (d) (ps os) (x) (_:vs=[.ref d,.int x]) (_:Dk C H d ps os) (_:ps.length<=17) (_:(∀c,c∈ps->c.natAbs<=2^31)) (_:∀H' q,bC H H'->H q=none->TL H' q (if x< -60\/60<x then[-1]else[0,jo ps x%2^64,jo ps x/2^64%2^64])->Q (.ref q) H')
theorem W_(c60:mg "FARTHEST_X"=some (cH 60 ajR))(cm1:mg "OUT_OF_RANGE"=some (cH (-1) tkm))(F:uF K "value_at" "Desk.value_at" (mB (top 71) 6) f fd)(D:Txt K mg C)(T:Bt mg)(Uy:ij P w K mg base "value" 1 (U4 K)):dm P w K mg base je 2 f fd ["self","x"] (U3 C):=by refine lJ ["self","x","word","total"] F λH Q E S hr h=>?_;obtain⟨d,ps,os,x,rfl,hd,hl,hb,k⟩:=h;refine⟨_,(ak (fO (PW.pt (ze (lI rX (pv 1) (ln jc (uU 60))) (zd (lI rY (pv 1) (uU 60))))) (aJ (bQ (db (g7 (uU (-1)))))) dg) (ak (eT 2 S (bW HS aY aY)) (ak (eT 3 S (pU Uy hr (io (m_ (pv 0) rfl) (pv 1)))) (aJ (bQ (db (cf aY (io (bW iK (pv 3) (pv 2)) (bW iK (bW uV (pv 3) (pv 2)) (pv 2)))))))))),?_⟩;ext;have Y3:(x< -60\/60<x)->1<=bn/\∀p,H p=none->Q (V.ref p) (cE H p (HO.lst [V.int (-1)])):=λhbd=>⟨∅,λp hp=>k _ p (aP hp) hp (by rw[aj hbd];exact am)⟩;refine dA (λh=>Y3 (.inl h)) (λh1=>dA (λh=>Y3 (.inr h)) (λh2=>?_));obtain⟨dx,p0,o0,oi,kd,Mq⟩:=hd;have e64:(2:Int)^RG 64=2^64:=rfl;rw[e64];refine⟨⟨∅,∅,∅⟩,C,dx,_,oi,D.cl,D.nP,_,xO p0 o0,p0,ps,x,rfl,cu.of kd,hl,hb,⋯,λH1 s1=>?_⟩;refine⟨_,rfl,∅,_,rfl,⟨∅,by decide+kernel⟩,∅,by decide,λp hp=>?_⟩;refine k _ p (s1.trans (aP hp)) (s1.free hp) ?_;rw[ah ⋯];rw[TL,am,dL _ ∅,dL _ ∅,Bk _ ∅];rfl
inductive Oz (C:aH) (vs:List V) (H:Hp) (Q:VK) (E:XK):Prop|mk (d) (ps os) (_:vs=[.ref d]) (_:Dk C H d ps os) (_:fc ps) (_:fc os) (_:ps.length<=17) (_:os.length<=17) (_:(∀c,c∈ps->c.natAbs<=2^31)) (_:(∀c,c∈os->c.natAbs<=2^31)) (_:∀H' q,bC H H'->H q=none->(TL H' q (if ps=[]/\os=[]then[-3]else tw (fG ps os)))->Q (.ref q) H')
theorem YY{ps os r:List Int}(hp:fc ps)(ho:fc os)(hl:ps.length<=17)(hm:os.length<=17)(h0:¬(ps=[]/\os=[]))(hr:fc r)(h:M9 (aA ps) (aA os) (aA r)):r=fG ps os:=by
 have h1:aA ps≠0\/aA os≠0:=by by_cases e:ps=[];(·right;intro e2;exact h0 ⟨e,(bP ho).mp e2⟩);left;intro e2;exact e ((bP hp).mp e2)
 obtain⟨t,c⟩:=mD hp ho (by rw[bH.mp hp];exact hl) (by rw[bH.mp ho];exact hm) h1;have e:=h.unique c;exact lF hr t e
theorem Td(c3:mg "POLYNOMIAL_IS_0"=some (cH (-3) tk3))(F:uF K "of_both" "Desk.of_both" (mB (top 71) 5) f fd)(D:Txt K mg C)(T:Bt mg)(qN:ij P w K mg base "told_whole" 1 (So K))(Re:ij P w K mg base "common" 5 (Ox K)):dm P w K mg base je 6 f fd ["self"] (Oz C):=by
 refine lJ ["self"] F λH Q E S hr h=>?_;obtain⟨d,ps,os,rfl,⟨dx,p0,o0,oi,kd,Mq⟩,tp,to,lp,lo,bp,bo,k⟩:=h;refine⟨_,(ak (fO (PW.pt (Db (lI iL (pL K T.len (m_ (pv 0) rfl)) aY) (yj (lI iL (pL K T.len (m_ (pv 0) rfl)) aY)))) (aJ (bQ (db (g7 (uU (-3)))))) dg) (aJ (bQ (pU qN hr (g7 (pU Re hr (io (m_ (pv 0) rfl) (m_ (pv 0) rfl)))))))),?_⟩;ext;have main:¬(ps=[]/\os=[])->Ox K [.ref p0,.ref o0] H (λx H1=>So K [x] H1 Q E0) E0:=by intro hne;refine⟨p0,o0,ps,os,rfl,kd,Mq,tp,to,?_,lp,lo,bp,bo,λH1 q r s1 h1 tr lr hc=>⟨q,r,rfl,h1,lr,λH2 q2 s2 hn h2=>?_⟩⟩;(·by_cases e:ps=[];(·exact .inr λe2=>hne ⟨e,e2⟩);exact .inl e);refine k H2 q2 (s1.trans s2) (s1.free hn) ?_;rw[ah hne,<-YY tp to lp lo hne tr hc];exact h2
 refine⟨C,dx,_,oi,D.cl,D.nP,_,xO p0 o0,p0,rfl,_,cu.of kd,?_⟩;rw[ab];refine dA (λh1=>?_) (λh1=>?_);.have e1:ps=[]:=dG.mp ⋯;refine⟨C,dx,_,oi,D.cl,D.nO,_,Ut p0 o0,o0,rfl,_,cu.of Mq,?_⟩;rw[ab];refine dA (λh2=>?_) (λh2=>?_);(·have e2:os=[]:=dG.mp ⋯;refine⟨∅,λp hp=>k _ p (aP hp) hp ?_⟩;rw[aj ⟨e1,e2⟩];exact am);exact⟨C,dx,_,oi,D.cl,D.nP,_,xO p0 o0,C,dx,_,oi,D.cl,D.nO,_,Ut p0 o0,main λh=>h2 (by rw[h.2];rfl)⟩
 exact⟨C,dx,_,oi,D.cl,D.nP,_,xO p0 o0,C,dx,_,oi,D.cl,D.nO,_,Ut p0 o0,main λh=>h1 (by rw[h.1];rfl)⟩
section
theorem FS:∀a b,eL a b=rF.uk a b
 |[],[]=>rfl
 |[],_::_=>rfl
 |_::_,[]=>rfl
 |x::a,y::b=>by show(decide (x<y)||(x==y&&eL a b))=if x=y then rF.uk a b else decide (x<y);rw[FS a b];by_cases h:x=y;(·subst h;simp);rw[ah h];simp[h]
theorem MQ(x y:List Int):dO x y=rF.uk (tj x) (tj y):=by
 show(decide (x.length<y.length)||(x.length==y.length&&eL x.reverse y.reverse))=if(x.length:Int)=(y.length:Int)then rF.uk x.reverse y.reverse else decide ((x.length:Int)<(y.length:Int));rw[FS];by_cases h:x.length=y.length;.rw[aj ⋯];simp[h]
 rw[ah ⋯];have:(x.length==y.length)=false:=by simpa using h
 rw[this];simp
section
variable {ns:List Int}(hS:cU ns)(hne:ns≠[])
include hS hne
theorem By:fc ns:=by have:=hS.1;rw[<-this];exact fU ns
theorem mN:∃c,c≠0/\aA ns=ag.C c*pp (cq ns)/\Parts (cq ns)/\c=(if 0<bm ns then(aB ns:Int)else-(aB ns:Int)):=by have h:=wK.mp (z8 ns hS hne);refine⟨_,?_,h.1,h.2,rfl⟩;intro e;apply hne;apply(bP (By hS hne)).mp;rw[h.1,e];show(0:ag Int)*_=0;grind
theorem zl(hP:yD ns out):out=(cq ns).map (·.1):=by
 obtain⟨c,hc,he,hl,_⟩:=mN hS hne;refine Bv (r:=λx y=>dO x y=true) (λx y h k=>by rw[qJ x y h]at k;cases k) ?_ ?_ ?_;.exact hP.asc.imp λ{x y} h=>by rw[MQ];exact h
 .exact Nl.mpr hl.order
 intro x;constructor;.intro hx;obtain⟨ht,hs⟩:=hP.sim x hx;have hd:=(hP.all _ hs).mpr ⟨x,hx,rfl⟩;rw[he]at hd;rcases ag.kX.prime hs hd with h|h;(·exact ap h (ag.kX.BS hs hc));obtain⟨a,ha,h⟩:=ag.kX.jX hs h;obtain⟨y,hy,rfl⟩:=ao.mp ha;have h:=ag.kX.sI hs h;have e:=ag.kX.eq hs (hl.sim y hy).2.1 h;exact ao.mpr ⟨y,hy,(lF ht (hl.sim y hy).1 e).symm⟩
 intro hx;obtain⟨y,hy,rfl⟩:=ao.mp hx;have hs:=hl.sim y hy;have hd:Dv (aA y.1) (aA ns):=by rw[he];obtain⟨b,hb,_⟩:=hl.val hy;rw[hb];obtain⟨m,hm⟩:∃m,y.2=m+1:=⟨y.2-1,by have:=hs.2.2;lia⟩;rw[hm,dC];exact⟨ag.C c*(aA y.1^m*b),by grind⟩
 obtain⟨x,hx,e⟩:=(hP.all _ hs.2.1).mp hd;rw[<-lF (hP.sim x hx).1 hs.1 e];exact hx
omit hS hne in
theorem BR(hg:g.kX)(h1:xz f g m)(h2:xz f g n):m=n:=by obtain⟨r,e1,d1⟩:=h1;obtain⟨t,e2,d2⟩:=h2;have a:=ag.kX.N1 hg (m:=m) (n:=n) d2 ⟨r,by rw[<-e2,e1]⟩;have b:=ag.kX.N1 hg (m:=n) (n:=m) d1 ⟨t,by rw[<-e1,e2]⟩;lia
theorem zn(hy:y∈cq ns):xz (aA ns) (aA y.1) y.2:=by
 obtain⟨c,hc,he,hl,_⟩:=mN hS hne;obtain⟨b,hb,hd⟩:=hl.val hy;refine⟨ag.C c*b,by rw[he,hb];grind,λh=>?_⟩;rcases ag.kX.prime (hl.sim y hy).2.1 h with h|h;.exact ag.kX.BS (hl.sim y hy).2.1 hc h
 exact hd h
theorem LP(hP:yD ns out):(out=[ns])↔(aB ns=1/\0<bm ns/\1<=dB ns/\(cq ns).map (λx=>x.2)=[1]):=by
 have he:=zl hS hne hP;have ht:=By hS hne;obtain⟨c,hc,hpp,hl,hcc⟩:=mN hS hne;constructor
 .intro h;have hs:=hP.sim ns (by rw[h];exact .head _);refine⟨oR.mpr hs.2.prim,by rw[dz];exact hs.2.aT,by rw[fj];have:=hs.2.pos;lia,?_⟩;rw[h]at he;cases hA:cq ns with
   |nil=>rw[hA]at he;cases he
   |cons y l=>
    cases l with
     |cons z l=>rw[hA]at he;cases he
     |nil=>rw[hA]at he;(have e1:ns=y.1:=by simpa using he);have h1:=zn hS hne (y:=y) (by rw[hA];exact .head _);rw[<-e1]at h1;have h2:xz (aA ns) (aA ns) 1:=⟨1,by rw[dC,fN];grind,λh=>ag.kX.BS hs.2 (c:=1) ∅ h⟩;rw[jr,BR hs.2 h1 h2]
 rintro⟨h1,h2,h3,h4⟩;cases hA:cq ns with
  |nil=>rw[hA]at h4;cases h4
  |cons y l=>
   cases l with
    |cons z l=>rw[hA]at h4;exact ap (aK fR h4) (by simp)
    |nil=>rw[hA]at h4 he hpp hl;(have e1:y.2=1:=by simpa using h4);rw[aj h2,h1]at hcc;(have e2:aA ns=aA y.1:=by rw[hpp,hcc];show ag.C ((1:Nat):Int)*(aA y.1^y.2*1)=_;rw[e1,dC,fN];have:ag.C ((1:Nat):Int)=1:=ag.eC;rw[this];grind);rw[he,jr,lF ht (hl.sim y (.head _)).1 e2]
end
end
theorem Small.facts(h:cU ns):fc ns/\ns.length<=17/\∀x,x∈ns->x.natAbs<=2^31:=by refine⟨by rw[<-h.1];exact fU ns,h.2.1,λx hx=>?_⟩;have:=h.2.2 x hx;lia
noncomputable def oM(ps:List Int)(num k:Int):List Int:=match iP (cq ps) k with
 |none=>[-1]
 |some x=>if num=5 then tw x.1 else[(x.2:Int)]
inductive aag (C:aH) (vs:List V) (H:Hp) (Q:VK) (E:XK):Prop|mk (d) (ps os) (num k) (_:vs=[.ref d,.int num,.int k]) (_:Dk C H d ps os) (_:cU ps) (_:ps≠[]) (_:∀H' q,bC H H'->H q=none->TL H' q (oM ps num k)->Q (.ref q) H')
theorem abd(cm1:mg "OUT_OF_RANGE"=some (cH (-1) tkm))(c5:mg "PART"=some (cH 5 tk5))(F:uF K "of_part" "Desk.of_part" (mB (top 71) 4) f fd)(D:Txt K mg C)(T:Bt mg)(vK:ij P w K mg base "parts" 11 (yf K))(qN:ij P w K mg base "told_whole" 1 (So K))(Gp:ij P w K mg base "how_often" 2 (aal K)):dm P w K mg base je 12 f fd ["self","number","k"] (aag C):=by
 refine lJ ["self","number","k","found"] F λH Q E S hr h=>?_;obtain⟨d,ps,os,num,kk,rfl,⟨dx,p0,o0,oi,kd,Mq⟩,hS,hne,k⟩:=h;obtain⟨ht,hl,hb⟩:=Small.facts hS;refine⟨_,(ak (eT 3 S (pU vK hr (g7 (m_ (pv 0) rfl)))) (ak (fO (PW.pt (ze (lI rX (pv 2) aY) (zd (lI Ka (pv 2) (pL K T.len (pv 3)))))) (aJ (bQ (db (g7 (uU (-1)))))) dg) (ak (fO (lI iL (pv 1) (uU 5)) (aJ (bQ (pU qN hr (g7 (rd K (pv 3) (pv 2)))))) dg) (aJ (bQ (db (g7 (pU Gp hr (io (m_ (pv 0) rfl) (rd K (pv 3) (pv 2))))))))))),?_⟩;ext;refine⟨C,dx,_,oi,D.cl,D.nP,_,xO p0 o0,p0,ps,rfl,cu.of kd,ht,hne,hl,hb,λH1 q1 out s1 hL hP=>?_⟩;have hout:=zl hS hne hP;obtain⟨qs,g1,g2,g3⟩:=hL;have hlen:qs.length=(cq ps).length:=by rw[g2,hout,ab]
 have Vk:iP (cq ps) kk=none->1<=bn/\∀p,H1 p=none->Q (V.ref p) (cE H1 p (HO.lst [V.int (-1)])):=by intro hn;refine⟨∅,λp hp=>k _ p (s1.trans (aP hp)) (s1.free hp) ?_⟩;unfold oM;rw[hn];exact am
 refine dA (λh=>Vk ?_) (λh0=>⟨q1,rfl,_,cu.of g1,?_⟩);.unfold iP;rw[aj h]
 rw[ab];refine dA (λh=>Vk ?_) (λh1=>?_);.unfold iP;rw[ah h0];exact aG ⋯
 obtain⟨j,rfl⟩:∃j:Nat,kk=j:=⟨kk.toNat,⋯⟩;have hj:j<(cq ps).length:=⋯;have ZB:iP (cq ps) (j:Int)=some (cq ps)[j]:=by unfold iP;rw[ah h0,dM,aa hj]
 have hmem:=ba hj;have hoj:out[j]?=some ((cq ps)[j]).1:=by rw[hout,aE,aa hj];rfl
 have hqj:j<qs.length:=⋯;have hat:DT (qs.map V.ref) (j:Int)=some (.ref qs[j]):=DR (by rw[aE,aa hqj];rfl);have hTL:=g3 j _ _ (aa hqj) hoj;have acx:oM ps num j=if num=5 then tw ((cq ps)[j]).1 else[(((cq ps)[j]).2:Int)]:=by unfold oM;rw[ZB]
 have hso:=zn hS hne hmem;have pV:=hP.sim _ (a_ hoj);generalize (cq ps)[j]=y at*;have tz:=(hP.all _ pV.2).mpr ⟨_,a_ hoj,rfl⟩;have Zm:y.1.length<=17:=by obtain⟨x,hx⟩:=tz;have h00:aA ps≠0:=λe=>hne ((bP ht).mp e);(have tm:x≠0:=by rintro rfl;apply h00;rw[hx];grind);have:=ag.bM pV.2.prim.ne tm;rw[<-hx,bH.mp ht,bH.mp pV.1]at this;have:=ag.aS.mpr tm;lia
 refine dA (λh5=>?_) (λh5=>?_);.refine⟨q1,rfl,_,cu.of g1,_,hat,qs[j],y.1,rfl,hTL,Zm,λH2 q2 s2 hn h2=>k H2 q2 (s1.trans s2) (s1.free hn) ?_⟩;rw[acx,aj h5];exact h2
 refine⟨C,dx,_,s1 _ _ oi,D.cl,D.nP,_,xO p0 o0,q1,rfl,_,cu.of g1,_,hat,p0,qs[j],ps,y.1,rfl,cu.of (s1 _ _ kd),cu.of hTL,ht,hne,hl,hb,pV.1,pV.2,tz,λH2 n s2 hn=>⟨∅,λp hp=>?_⟩⟩;have en:=BR pV.2 hn hso;refine k _ p (s1.trans (s2.trans (aP hp))) (s1.free (s2.free hp)) ?_;rw[acx,ah h5,<-en];exact am
theorem OE(ht:fc ps)(hne:ps≠[]):sgn ps=if 0<bm ps then(aB ps:Int)else-(aB ps:Int):=by
 unfold sgn;rw[gl ht];have:bm ps≠0:=by rw[dz];exact ag.fS λe=>hne ((bP ht).mp e)
 split<;>split<;>first|rfl|lia
open Classical in
noncomputable def gf(ps:List Int)(num k:Int):List Int:=if ps=[]then[-3]else if num=2 then[((ps.length:Nat):Int)-1]else if num=3 then[0,if 0<bm ps then(aB ps:Int)else-(aB ps:Int)]else if num=4 then[((cq ps).length:Nat)]else if num=7 then[if aB ps=1/\0<bm ps/\1<=dB ps/\(cq ps).map (λx=>x.2)=[1]then 1 else 0]else oM ps num k
inductive Op (K:ai) (C:aH) (vs:List V) (H:Hp) (Q:VK) (E:XK):Prop|mk (d c) (ps os cs) (_:vs=[.ref d,.ref c]) (_:Dk C H d ps os) (_:IL K H c cs) (_:1<=cs.length) (_:(cs.getD 0 0=5\/cs.getD 0 0=6->2<=cs.length)) (_:(cs.getD 0 0=2\/cs.getD 0 0=3\/cs.getD 0 0=4\/cs.getD 0 0=5\/cs.getD 0 0=6\/cs.getD 0 0=7)) (_:cU ps) (_:∀H' q,bC H H'->H q=none->TL H' q (gf ps (cs.getD 0 0) (cs.getD 1 0))->Q (.ref q) H')
theorem S0{f C f1:aH}{fd fd1:fY}{tk2 tk3 tk4 tk7 tkz:Tok}(cz:mg "POLYNOMIAL_IS_0"=some (cH (-3) tkz))(c2:mg "DEGREE"=some (cH 2 tk2))(c3:mg "CONTENT"=some (cH 3 tk3))(c4:mg "COUNT"=some (cH 4 tk4))(c7:mg "SIMPLE"=some (cH 7 tk7))(F:uF K "of_polynomial" "Desk.of_polynomial" (mB (top 71) 3) f fd)(D:Txt K mg C)(T:Bt mg)(vK:ij P w K mg base "parts" 11 (yf K))(qg:ij P w K mg base "content" 2 (C2 K))(Go:ij P w K mg base "is_simple" 12 (U8 K))(MZ:dm P w K mg base je 12 f1 fd1 ["self","number","k"] (aag C))(M_:gF K fd1 ["self","number","k"] [])(MW:Meth K C "of_part" f1):dm P w K mg base je 13 f fd ["self","call"] (Op K C):=by
 refine lJ ["self","call","number"] F λH Q E S hr h=>?_;obtain⟨d,c,ps,os,cs,rfl,⟨dx,p0,o0,oi,kd,Mq⟩,hc,hcl,hc2,hcn,hS,k⟩:=h;obtain⟨ht,hl,hb⟩:=Small.facts hS;refine⟨_,(ak (eT 2 S (rd K (pv 1) aY)) (ak (fO (lI iL (pL K T.len (m_ (pv 0) rfl)) aY) (aJ (bQ (db (g7 (uU (-3)))))) dg) (ak (fO (lI iL (pv 2) (uU 2)) (aJ (bQ (db (g7 (bW f6 (pL K T.len (m_ (pv 0) rfl)) aY))))) dg) (ak (fO (lI iL (pv 2) (uU 3)) (aJ (bQ (db (io aY (pU qg hr (g7 (m_ (pv 0) rfl))))))) dg) (ak (fO (lI iL (pv 2) (uU 4)) (aJ (bQ (db (g7 (pL K T.len (pU vK hr (g7 (m_ (pv 0) rfl)))))))) dg) (ak (fO (lI iL (pv 2) (uU 7)) (aJ (bQ (db (g7 (og (zf (pU Go hr (g7 (m_ (pv 0) rfl)))) aY aY))))) dg) (aJ (bQ (uS (pv 0) D.cl MW MZ (hr.mono ∅) M_ .nil uT (io (pv 2) (rd K (pv 1) aY))))))))))),?_⟩;ext;have hk:=k;unfold gf at hk;refine⟨_,hc,_,eJ (i:=0) hcl,C,dx,_,oi,D.cl,D.nP,_,xO p0 o0,p0,rfl,_,cu.of kd,?_⟩;rw[ab];refine dA (λh0=>?_) (λh0=>?_);.have e0:ps=[]:=dG.mp ⋯;refine⟨∅,λp hp=>hk _ p (aP hp) hp ?_⟩;rw[aj e0];exact am
 have hne:ps≠[]:=λe=>h0 (by rw[e];rfl);rw[ah hne]at hk;refine⟨rfl,dA (λh2=>?_) (λh2=>?_)⟩;·(have ZS:cs.getD 0 0=2:=by injection h2);rw[aj ZS]at hk;refine⟨C,dx,_,oi,D.cl,D.nP,_,xO p0 o0,p0,rfl,_,cu.of kd,∅,λp hp=>hk _ p (aP hp) hp ?_⟩;rw[TL,am,ab];rfl
 have ZS:¬cs.getD 0 0=2:=λe=>h2 (by rw[e]);rw[ah ZS]at hk;refine⟨rfl,dA (λh3=>?_) (λh3=>?_)⟩;·(have h3':cs.getD 0 0=3:=by injection h3);rw[aj h3',<-OE ht hne]at hk;exact⟨C,dx,_,oi,D.cl,D.nP,_,xO p0 o0,p0,ps,rfl,cu.of kd,ht,hne,λH1 s1=>⟨∅,λp hp=>hk _ p (s1.trans (aP hp)) (s1.free hp) am⟩⟩
 have h3':¬cs.getD 0 0=3:=λe=>h3 (by rw[e]);rw[ah h3']at hk;refine⟨rfl,dA (λh4=>?_) (λh4=>?_)⟩;·(have YC:cs.getD 0 0=4:=by injection h4);rw[aj YC]at hk;refine⟨C,dx,_,oi,D.cl,D.nP,_,xO p0 o0,p0,ps,rfl,cu.of kd,ht,hne,hl,hb,λH1 q out s1 hL hP=>?_⟩;obtain⟨qs,g1,g2,g3⟩:=hL;refine⟨q,rfl,_,cu.of g1,∅,λp hp=>hk _ p (s1.trans (aP hp)) (s1.free hp) ?_⟩;rw[TL,am,ab,g2,zl hS hne hP,ab];rfl
 have YC:¬cs.getD 0 0=4:=λe=>h4 (by rw[e]);rw[ah YC]at hk;refine⟨rfl,dA (λh7=>?_) (λh7=>?_)⟩;·(have h7':cs.getD 0 0=7:=by injection h7);rw[aj h7']at hk;refine⟨C,dx,_,oi,D.cl,D.nP,_,xO p0 o0,p0,ps,rfl,kd,ht,hne,hl,hb,λH1 out s1 hP=>⟨_,rfl,?_⟩⟩;have hse:=LP hS hne hP;refine dA (λhd=>?_) (λhd=>?_);(·refine⟨∅,λp hp=>hk _ p (s1.trans (aP hp)) (s1.free hp) ?_⟩;rw[aj (hse.mp (by simpa using hd))];exact am);refine⟨∅,λp hp=>hk _ p (s1.trans (aP hp)) (s1.free hp) ?_⟩;rw[ah (λe=>hd (by simpa using hse.mpr e))];exact am
 have h7':¬cs.getD 0 0=7:=λe=>h7 (by rw[e]);rw[ah h7']at hk;have h56:cs.getD 0 0=5\/cs.getD 0 0=6:=⋯;exact⟨dx,_,oi,QY p0 o0 (by decide+kernel) (by decide+kernel),_,hc,_,eJ (i:=1) ⋯,d,ps,os,_,_,rfl,⟨dx,p0,o0,oi,kd,Mq⟩,hS,hne,λH' q s1 hn h1=>hk H' q s1 hn h1⟩
noncomputable def AT(ps os cs:List Int):List Int×List Int×List Int:=if cs.getD 0 0=0 then([],[],[0])else if cs.getD 0 0=1 then(if cs.getD 1 0<0\/1<cs.getD 1 0\/cs.getD 2 0<0\/17<cs.getD 2 0 then(ps,os,[-1])else(if cs.getD 1 0=0 then aN ((cs.drop 3).map sg)else ps,if cs.getD 1 0=0 then os else aN ((cs.drop 3).map sg),[0]))else if cs.getD 0 0=8 then(ps,os,if ps=[]/\os=[]then[-3]else tw (fG ps os))else if cs.getD 0 0=9 then(ps,os,if cs.getD 1 0< -60\/60<cs.getD 1 0 then[-1]else[0,jo ps (cs.getD 1 0)%2^64,jo ps (cs.getD 1 0)/2^64%2^64])else(ps,os,gf ps (cs.getD 0 0) (cs.getD 1 0))
structure Cal(cs:List Int):Prop where
 one:1<=cs.length
 zc:0<=cs.getD 0 0/\cs.getD 0 0<=9
 set:cs.getD 0 0=1->3<=cs.length
 two:cs.getD 0 0=5\/cs.getD 0 0=6\/cs.getD 0 0=9->2<=cs.length
 len:cs.length<=100
inductive aar (K:ai) (C:aH) (vs:List V) (H:Hp) (Q:VK) (E:XK):Prop|mk (d c) (ps os cs) (_:vs=[.ref d,.ref c]) (_:Dk C H d ps os) (_:IL K H c cs) (_:Cal cs) (_:cU ps) (_:cU os) (_:∀H' q,Oth d H H'->Dk C H' d (AT ps os cs).1 (AT ps os cs).2.1->H q=none->TL H' q (AT ps os cs).2.2->Nt C d H H'->Q (.ref q) H')
theorem ahd(l:List Int):ur (l.map V.int) (some 3) none=(l.drop 3).map V.int:=by
 unfold ur;rw[HT.y_,ab];have e1:HT.AQ l.length 0 (some 3)=min 3 l.length:=HT.uN l.length 0 3;rw[e1,<-CJ];by_cases h:3<=l.length;.rw[lw h,lT (by rw[ab,ei];exact aw _)]
 rw[Nat.min_eq_right ⋯,Ew (aw _),Ew (show l.length<=3 by lia)];simp
theorem Dg(s:bC H H'):Oth d H H':=λb o _ h=>s b o h
theorem abq(c0:mg "BEGIN"=some (cH 0 t0))(c1:mg "SET"=some (cH 1 t1))(c2:mg "DEGREE"=some (cH 2 t2))(c3:mg "CONTENT"=some (cH 3 t3))(c4:mg "COUNT"=some (cH 4 t4))(c5:mg "PART"=some (cH 5 t5))(c6:mg "POWER"=some (cH 6 t6))(c7:mg "SIMPLE"=some (cH 7 t7))(c8:mg "COMMON"=some (cH 8 t8))(c9:mg "VALUE"=some (cH 9 t9))(F:uF K "answer" "Desk.answer" (mB (top 71) 7) f fd)(D:Txt K mg C)(T:Bt mg)(UD:dm P w K mg base je 1 f1 fd1 ["self"] (JU C))(UE:gF K fd1 ["self"] [])(UA:Meth K C "begin" f1)(ac8:dm P w K mg base je 2 f2 fd2 ["self","which","length","coefficients"] (U6 K C))(ac_:gF K fd2 ["self","which","length","coefficients"] [])(ac5:Meth K C "put" f2)(M8:dm P w K mg base je 6 f3 fd3 ["self"] (Oz C))(Na:gF K fd3 ["self"] [])(MX:Meth K C "of_both" f3)(Jh:dm P w K mg base je 2 f4 fd4 ["self","x"] (U3 C))(Jk:gF K fd4 ["self","x"] [])(Je:Meth K C "value_at" f4)(xT:dm P w K mg base je 13 f5 fd5 ["self","call"] (Op K C))(xW:gF K fd5 ["self","call"] [])(xS:Meth K C "of_polynomial" f5):dm P w K mg base je 14 f fd ["self","call"] (aar K C):=by
 refine lJ ["self","call","number"] F λH Q E S hr h=>?_;obtain⟨d,c,ps,os,cs,rfl,hd,hc,hW,Yz,ZK,k⟩:=h;refine⟨_,(ak (eT 2 S (rd K (pv 1) aY)) (ak (fO (lI iL (pv 2) (uU 0)) (aJ (bQ (E_ (pv 0) D.cl UA UD (hr.mono ∅) UE .nil uT))) dg) (ak (fO (lI iL (pv 2) (uU 1)) (aJ (bQ (uS (pv 0) D.cl ac5 ac8 (hr.mono ∅) ac_ .nil uT (cf (rd K (pv 1) aY) (io (rd K (pv 1) aY) (rW (slL (K:=K)) (pv 1) (sJ aY) yn)))))) dg) (ak (fO (lI iL (pv 2) (uU 8)) (aJ (bQ (E_ (pv 0) D.cl MX M8 (hr.mono ∅) Na .nil uT))) dg) (ak (fO (lI iL (pv 2) (uU 9)) (aJ (bQ (uS (pv 0) D.cl Je Jh (hr.mono ∅) Jk .nil uT (g7 (rd K (pv 1) aY))))) dg) (ak (fO (yk (inL (K:=K)) (pv 2) (zk (cf (uU 2) (cf (uU 3) (cf (uU 4) (cf (uU 5) (io (uU 6) (uU 7))))))) rfl) (aJ (bQ (uS (pv 0) D.cl xS xT (hr.mono ∅) xW .nil uT (g7 (pv 1))))) dg) (aJ OQ))))))),?_⟩;ext;obtain⟨dx,p0,o0,oi,kd,Mq⟩:=id hd;obtain⟨XU,hl1,rE⟩:=Small.facts Yz;obtain⟨XT,hl2,hb2⟩:=Small.facts ZK;have hk:=k;unfold AT at hk;have no:∀m:cJ,¬m="polynomial"->¬m="other"->(bf p0 o0).lookup m=none:=λm a b=>QY p0 o0 a b;refine⟨_,hc,_,eJ (i:=0) hW.one,rfl,?_⟩;refine dA (λh0=>?_) (λh0=>?_);·(have VG:cs.getD 0 0=0:=by injection h0);rw[aj VG]at hk;exact⟨dx,_,oi,no _ (by decide+kernel) (by decide+kernel),d,ps,os,rfl,hd,λH' q h1 h2 h3 h4 h5=>hk H' q h2 h1 h4 h3 h5⟩
 have VG:¬cs.getD 0 0=0:=λe=>h0 (by rw[e]);rw[ah VG]at hk;refine⟨rfl,dA (λh1=>?_) (λh1=>?_)⟩;·(have FQ:cs.getD 0 0=1:=by injection h1);rw[aj FQ]at hk;have h3l:=hW.set FQ;refine⟨dx,_,oi,no _ (by decide+kernel) (by decide+kernel),_,hc,_,eJ (i:=1) ⋯,_,hc,_,eJ (i:=2) ⋯,_,hc,λp hp=>?_⟩;rw[ahd];have s1:=aP (o:=HO.lst ((cs.drop 3).map V.int)) hp;refine⟨d,p,ps,os,cs.drop 3,_,_,rfl,hd.same s1,cu.of am,by rw[ei];have:=hW.len;lia,λhb H' q s2 hn h2=>?_,λhb H' q o2 d2 hn h2 n2=>?_⟩;(·unfold wJ at hb;rw[aj hb]at hk;exact hk H' q (Dg (s1.trans s2)) ((hd.same s1).same s2) (s1.free hn) h2 (sK hd (s1.trans s2)));unfold wJ at hb;rw[ah hb]at hk;refine hk H' q (λb o hb h=>o2 b o hb (s1 _ _ h)) d2 (s1.free hn) h2 λt ht TN=>n2 t (λe=>ht (s1.free e)) (sK hd s1 t ht TN)
 have FQ:¬cs.getD 0 0=1:=λe=>h1 (by rw[e]);rw[ah FQ]at hk;refine⟨rfl,dA (λh8=>?_) (λh8=>?_)⟩;·(have h8':cs.getD 0 0=8:=by injection h8);rw[aj h8']at hk;exact⟨dx,_,oi,no _ (by decide+kernel) (by decide+kernel),d,ps,os,rfl,hd,XU,XT,hl1,hl2,rE,hb2,λH' q s1 hn h=>hk H' q (Dg s1) (hd.same s1) hn h (sK hd s1)⟩
 have h8':¬cs.getD 0 0=8:=λe=>h8 (by rw[e]);rw[ah h8']at hk;refine⟨rfl,dA (λh9=>?_) (λh9=>?_)⟩;·(have h9':cs.getD 0 0=9:=by injection h9);rw[aj h9']at hk;have h2l:=hW.two (.inr (.inr h9'));exact⟨dx,_,oi,no _ (by decide+kernel) (by decide+kernel),_,hc,_,eJ (i:=1) ⋯,d,ps,os,_,rfl,hd,hl1,rE,λH' q s1 hn h=>hk H' q (Dg s1) (hd.same s1) hn h (sK hd s1)⟩
 have h9':¬cs.getD 0 0=9:=λe=>h9 (by rw[e]);rw[ah h9']at hk;have hr0:=hW.zc;have acr:cs.getD 0 0=2\/cs.getD 0 0=3\/cs.getD 0 0=4\/cs.getD 0 0=5\/cs.getD 0 0=6\/cs.getD 0 0=7:=⋯;refine⟨∅,λq hq=>?_⟩;have sq:=aP (o:=HO.tup [V.int 2,V.int 3,V.int 4,V.int 5,V.int 6,V.int 7]) hq;refine⟨q,_,rfl,.inr (Ad.of am),rfl,rfl,_,rfl,?_⟩;have hin:(if false=true then !Vn (V.int (cs.getD 0 0)) [V.int 2,V.int 3,V.int 4,V.int 5,V.int 6,V.int 7]else Vn (V.int (cs.getD 0 0)) [V.int 2,V.int 3,V.int 4,V.int 5,V.int 6,V.int 7])=true:=by simp only[d7,if_false];show((2==cs.getD 0 0)||((3==cs.getD 0 0)||((4==cs.getD 0 0)||((5==cs.getD 0 0)||((6==cs.getD 0 0)||((7==cs.getD 0 0)||false))))))=true;simp only[UR,eP,beq_iff_eq];lia
 refine dA (λ_=>?_) (λh=>ap hin h);exact⟨dx,_,sq _ _ oi,no _ (by decide+kernel) (by decide+kernel),d,c,ps,os,cs,rfl,hd.same sq,sq.seq hc,hW.one,λh=>hW.two ⋯,acr,Yz,λH' q' s1 hn h=>hk H' q' (Dg (sq.trans s1)) ((hd.same sq).same s1) (sq.free hn) h (sK hd (sq.trans s1))⟩
structure Wel(cs:List Int):Prop where
 cal:Cal cs
 len:(cs.length:Int)=if cs.getD 0 0=1 then 3+max (cs.getD 2 0) 0 else if cs.getD 0 0=5\/cs.getD 0 0=6\/cs.getD 0 0=9 then 2 else 1
 set:cs.getD 0 0=1->cs.length<=20/\∀x,x∈cs.drop 3->0<=x/\x<2^32
theorem HI{l:List Int}(h:l.length<=17)(hb:∀x,x∈l->0<=x/\x<2^32):cU (aN (l.map sg)):=by refine⟨gl (fU _),br (iD _) (by rw[ab];exact h),λc hc=>?_⟩;obtain⟨x,hx,rfl⟩:=ao.mp (Fo hc);have:=hb x hx;unfold sg;split<;>lia
theorem nJ:cU []:=⟨rfl,∅,by simp⟩
theorem BA{ps os cs:List Int}(hW:Wel cs)(h1:cU ps)(h2:cU os):cU (AT ps os cs).1/\cU (AT ps os cs).2.1:=by
 unfold AT;split;.exact⟨nJ,nJ⟩
 split;.rename_i _ hs;obtain⟨l1,l2⟩:=hW.set hs;have hsm:=HI (l:=cs.drop 3) (by rw[ei];lia) l2;split;(·exact⟨h1,h2⟩);constructor;(·show cU (if _ then _ else _);split;(·exact hsm);exact h1);show cU (if _ then _ else _);split;(·exact h2);exact hsm
 split;.exact⟨h1,h2⟩
 split;.exact⟨h1,h2⟩
 exact⟨h1,h2⟩
theorem N4(h:l.length<=17):(tw l).length<=20:=by unfold tw;simp;lia
theorem IJ(hl:fc l)(hm:fc m)(h0:m≠[])(hd:Dv (aA l) (aA m)):l.length<=m.length:=by
 obtain⟨x,hx⟩:=hd;have m0:aA m≠0:=λe=>h0 ((bP hm).mp e);have tm:x≠0:=by rintro rfl;apply m0;rw[hx];grind
 have Cb:aA l≠0:=by intro e;apply m0;rw[hx,e];grind
 have:=ag.bM Cb tm;rw[<-hx,bH.mp hl,bH.mp hm]at this;have:=ag.aS.mpr tm;lia
theorem Kd{ps os cs:List Int}(h1:cU ps)(h2:cU os):(AT ps os cs).2.2.length<=20:=by
 obtain⟨t1,l1,_⟩:=Small.facts h1;obtain⟨t2,l2,_⟩:=Small.facts h2;unfold AT;split;.show 1<=20;decide
 split;.split;(·show 1<=20;decide);show 1<=20;decide
 split;.show(if _ then _ else _:List Int).length<=20;split;(·decide);rename_i hne;refine N4 ?_;(have hn0:aA ps≠0\/aA os≠0:=by by_cases e:ps=[];(·exact .inr λe2=>hne ⟨e,(bP t2).mp e2⟩);exact .inl λe2=>e ((bP t1).mp e2));obtain⟨t,c⟩:=mD t1 t2 (by rw[bH.mp t1];exact l1) (by rw[bH.mp t2];exact l2) hn0;by_cases e:ps=[];(·have e2:os≠[]:=λe2=>hne ⟨e,e2⟩;exact br (IJ t t2 e2 c.dq) l2);exact br (IJ t t1 e c.dp) l1
 split;.show(if _ then _ else _:List Int).length<=20;split<;>simp
 show(gf _ _ _).length<=20;unfold gf;split;.decide
 rename_i hne;split;.simp
 split;.simp
 split;.simp
 split;.simp
 unfold oM;cases ZB:iP (cq ps) (cs.getD 1 0)with
  |none=>show 1<=20;decide
  |some x=>show(if _ then _ else _:List Int).length<=20;split;(·refine N4 ?_;(have hx:x∈cq ps:=by unfold iP at ZB;split at ZB;(·cases ZB);exact a_ ZB);obtain⟨c,hc,he,hl,_⟩:=mN h1 hne;obtain⟨b,hb,_⟩:=hl.val hx;have hs:=hl.sim x hx;refine br (IJ hs.1 t1 hne ?_) l1;rw[he,hb];obtain⟨m,hm⟩:∃m,x.2=m+1:=⟨x.2-1,by have:=hs.2.2;lia⟩;rw[hm,dC];exact⟨ag.C c*(aA x.1^m*b),by grind⟩);simp
noncomputable def runs:List Int->List Int->List (List Int)->List Int
 |_,_,[]=>[]
 |ps,os,cs::r=>((AT ps os cs).2.2.length:Int)::((AT ps os cs).2.2++runs (AT ps os cs).1 (AT ps os cs).2.1 r)
inductive OA (K:ai) (vs:List V) (H:Hp) (Q:VK) (E:XK):Prop|mk (a) (l) (Ei) (_:vs=[.ref a]) (_:IL K H a l) (_:l=Ei.flatten) (_:Ei.length<=40) (_:(∀cs,cs∈Ei->Wel cs)) (_:∀H' q,bC H H'->TL H' q (runs [] [] Ei)->Q (.ref q) H')
inductive IvO (C a x t:aH) (Ei:List (List Int)) (N:Nat) (Z:L2.St) (H':Hp):Prop|mk (v4 v5:Option V) (done rest:List (List Int)) (_:Z=[some (.ref a),some (.ref x),some (.ref t),some (.int ((done.flatten.length:Nat):Int)),v4,v5]) (ps os tl:List Int) (_:Ei=done++rest) (_:Dk C H' x ps os) (_:Zc C H' x t) (_:TL H' t tl) (_:cU ps) (_:cU os) (_:tl++runs ps os rest=runs [] [] Ei) (_:tl.length<=21*done.length) (_:N=rest.length)
theorem ok_all(F:Fn K "answers" 73 f fd)(D:Txt K mg C)(T:Bt mg)(MK:Mk K C fi)(GI:dm P w K mg base je 1 fi fdi ["self"] (Ov C))(BI:gF K fdi ["self"] [])(Rl:dm P w K mg base je 14 fa fda ["self","call"] (aar K C))(Ru:gF K fda ["self","call"] [])(Rh:Meth K C "answer" fa)(Bc:ij P w K mg base "call_length" 1 (aap K)):dm P w K mg base je 15 f fd ["calls"] (OA K):=by
 refine lJ ["calls","desk","told","place","behind","answer"] F λH Q E S hr h=>?_;obtain⟨a,l,Ei,rfl,ha,hl,h40,hW,k⟩:=h;refine⟨_,(ak (eT 1 S (O0 MK GI (hr.mono ∅) (by rfl) D.mg BI .nil uT)) (ak (eT 2 S (db lH)) (ak (eT 3 S aY) (ak (gp a9 (lI rX (pv 3) (pL K T.len (pv 0))) (ak (eT 4 S (bW fq (pv 3) (pU Bc hr (io (pv 0) (pv 3))))) (ak (eT 5 S (uS (pv 1) D.cl Rh Rl (hr.mono ∅) Ru .nil uT (g7 (rW (slL (K:=K)) (pv 0) (sJ (pv 3)) (sJ (pv 4)))))) (ak (oK (xa eE f8 f7 nN (pv 2) (g7 (pL K T.len (pv 5))))) (ak (oK (xa eE Ar Aq BV (pv 2) (g7 (pv 5)))) (aJ (eT 3 S (pv 4)))))))) (aJ (bQ (pv 2))))))),?_⟩;ext;intro x dx hx hdx hne;refine⟨x,dx,rfl,am,λH2 ZR hO2 hN2=>⟨rfl,∅,λt ht=>?_⟩⟩;have s2:bC H H2:=λb o h=>hO2 b o (bB h hx) (by rw[aM (bB h hx),aM (bB h hdx)];exact h);have htn:=s2.free ht;have s3:=aP (o:=HO.lst []) ht;have hN3:Zc C (cE H2 t (HO.lst [])) x t:=by obtain⟨dx',p,o,h1,_,_⟩:=id ZR;have:=hN2 t ht dx' p o h1;exact uq (s3 _ _ h1) this.1 this.2
 refine⟨λN Z H'=>bC H H'/\IvO C a x t Ei N Z H',⟨Ei.length,s2.trans s3,none,none,[],Ei,rfl,[],[],[],rfl,ZR.same s3,hN3,am,nJ,nJ,rfl,by simp,rfl⟩,?_⟩;rintro N Z H1 ⟨s1,v4,v5,done,rest,rfl,ps,os,tl,Mv,hD,hN,hT,Yz,ZK,Mn,TD,rfl⟩;have hlen:l.length=done.flatten.length+rest.flatten.length:=by rw[hl,Mv,nD,bw]
 ext;refine⟨_,s1.seq ha,?_⟩;rw[ab];cases rest with
  |nil=>rw[List.flatten_nil,cV]at hlen;refine dA (λh=>ap h ⋯) (λ_=>?_);refine k H1 t s1 ?_;rw[<-Mn,runs,eN];exact hT
  |cons cs r=>have ZJ:=hW cs (by rw[Mv];simp);have h1:=ZJ.cal.one;(have hfl:(cs::r).flatten.length=cs.length+r.flatten.length:=by rw[eY,bw]);(have Qa:∀i,i<cs.length->l.getD (done.flatten.length+i) 0=cs.getD i 0:=by intro i hi;simp only[aD];rw[hl,Mv,nD,eY,bK ⋯,cT,bA hi]);refine dA (λ_=>?_) (λh=>ap ⋯ h);(have hdl:done.length+(r.length+1)<=40:=by have:=aK fR Mv;rw[bw,a7]at this;lia);refine oQ λN hM=>?_;(have nx:∀z v4 v5 H',bC H H'->z=(((done++[cs]).flatten.length:Nat):Int)->Dk C H' x (AT ps os cs).1 (AT ps os cs).2.1->Zc C H' x t->TL H' t (tl++(((AT ps os cs).2.2.length:Nat):Int)::(AT ps os cs).2.2)->N [some (.ref a),some (.ref x),some (.ref t),some (.int z),v4,v5] H':=by rintro _ v4 v5 H' s4 rfl d4 n4 t4;obtain⟨sm1,sm2⟩:=BA ZJ Yz ZK;have hnl:=Kd (cs:=cs) Yz ZK;refine hM r.length _ _ (by simp) ⟨s4,v4,v5,done++[cs],r,rfl,_,_,_,by rw[Mv];simp,d4,n4,t4,sm1,sm2,?_,?_,rfl⟩;(·rw[<-Mn,runs];simp);simp only[bw,a7,cV];lia);(have hcl:Uq l done.flatten.length=(cs.length:Int):=by have e0:=Qa 0 ⋯;rw[lZ]at e0;rw[ZJ.len];unfold Uq;rw[e0];split;(·rename_i h;rw[Qa 2 (by have:=ZJ.cal.set h;lia)]);rfl);refine⟨a,l,done.flatten.length,rfl,s1.seq ha,⋯,λh=>?_,λH3 s4=>?_⟩;(·have e0:=Qa 0 ⋯;rw[lZ]at e0;have:=ZJ.cal.set (by rw[<-e0];exact h);lia);rw[hcl];obtain⟨dx',p0,o0,oi,kd,Mq⟩:=id (hD.same s4);refine⟨_,rfl,_,_,oi,QY p0 o0 (by decide+kernel) (by decide+kernel),_,(s1.trans s4).seq ha,λp hp=>?_⟩;(have agq:ur (l.map V.int) (some ((done.flatten.length:Nat):Int)) (some (((done.flatten.length:Nat):Int)+(cs.length:Int)))=cs.map V.int:=by unfold ur;have e1:HT.AQ (l.map V.int).length 0 (some ((done.flatten.length:Nat):Int))=min done.flatten.length (l.map V.int).length:=HT.uN _ 0 _;(have e2:HT.AQ (l.map V.int).length (l.map V.int).length (some (((done.flatten.length:Nat):Int)+(cs.length:Int)))=min (done.flatten.length+cs.length) (l.map V.int).length:=by rw[show((done.flatten.length:Nat):Int)+(cs.length:Int)=((done.flatten.length+cs.length:Nat):Int) by lia];exact HT.uN _ _ _);rw[e1,e2,ab,lw ⋯,lw ⋯,cT,<-CJ,<-uA];congr 1;rw[hl,Mv,nD,eY,List.drop_append_of_le_length (aw _),NR,gE,x9 (aw _),bR]);rw[agq];have s5:=aP (o:=HO.lst (cs.map V.int)) hp;have C7:=s4.trans s5;refine⟨x,p,ps,os,cs,rfl,hD.same C7,cu.of am,ZJ.cal,Yz,ZK,λH4 q o4 d4 hq h4 n4=>?_⟩;have hT5:=C7 _ _ hT;have htx:=(hD.same C7).ne hT5;have hT4:=o4 t _ htx hT5;have hqt:=(bB hT5 hq).symm;have hN4:=n4 t (by rw[hT5];exact λe=>by cases e) (sK hD C7 t (by rw[hT];exact λe=>by cases e) hN);have hnl:=Kd (cs:=cs) Yz ZK;have YC:cu K H4 q _:=cu.of h4;obtain⟨dx4,p4,q4,i1,i2,i3⟩:=id d4;obtain⟨ne1,ne2⟩:=hN4 dx4 p4 q4 i1;refine⟨.inl ⟨rfl,_,cu.of hT4⟩,q,rfl,_,YC,_,hT4,?_,.inl ⟨rfl,_,cu.of am⟩,q,rfl,_,am,_,by rw[aM hqt];exact h4,?_,nx _ _ _ _ ?_ ?_ ?_ ?_ ?_⟩;(·rw[ab];have:=bT (aw _);lia);(·simp only[bw,ab,a7,cV];have:=bT (aw _);lia);(·intro b o hb;have b1:=bB hb htn;have b2:=bB hb hx;rw[aM b1,aM b1];exact o4 b o b2 (C7 _ _ (s1 _ _ hb)));(·(have:((done++[cs]).flatten.length:Int)=(done.flatten.length:Int)+(cs.length:Int):=by rw[nD,bw];simp);rw[this]);(·exact⟨dx4,p4,q4,by rw[aM htx.symm,aM htx.symm];exact i1,by rw[TL,aM ne1,aM ne1];exact i2,by rw[TL,aM ne2,aM ne2];exact i3⟩);(·exact uq (by rw[aM htx.symm,aM htx.symm];exact i1) ne1 ne2);rw[TL,am];simp
noncomputable def qT:List (List Int)->List Int
 |[[1,x],r]=>1::x::(r.length:Int)::r
 |[c]=>c
 |_=>[]
theorem Wm(h:G_ l=some (x,t)):l=(x.length:Int)::(x++t):=by
 cases l with
  |nil=>cases h
  |cons n r=>simp only[G_]at h;split at h;(·rename_i hn;injection h with h;injection h with h1 h2;subst h1 h2;rw[jM,da,lw hn.2];congr 1;lia);cases h
def Gd(c:List (List Int)):Prop:=(∃p,c=[[p]]/\(p=0\/p=2\/p=3\/p=4\/p=7\/p=8))\/(∃p x,c=[[p,x]]/\(p=5\/p=6\/p=9))\/∃x r,c=[[1,x],r]
theorem Us(h:Es gK l=some (c,t)):l=qT c++t/\Gd c:=by
 cases l with
  |nil=>cases h
  |cons p r=>
   simp only[Es]at h;by_cases h1:p=1
   .subst h1;(have hs:gK 1=some (1,1):=by decide);rw[hs]at h;simp only at h;split at h;(·cases h);rename_i hl;cases r with
     |nil=>simp at hl
     |cons x r=>
      simp only[Jz,oA,Er]at h;cases hr:G_ r with
       |none=>rw[hr]at h;cases h
       |some y=>obtain⟨y1,y2⟩:=y;rw[hr]at h;simp only[gb,jq]at h;obtain⟨rfl,rfl⟩:=h;have e:=Wm hr;refine⟨?_,.inr (.inr ⟨x,y1,rfl⟩)⟩;show 1::x::r=(1::x::(y1.length:Int)::y1)++_;rw[e];rfl
   by_cases h2:p=5\/p=6\/p=9
   ·(have hs:gK p=some (1,0):=by rcases h2 with rfl|rfl|rfl<;>decide);rw[hs]at h;simp only at h;split at h;(·cases h);rename_i hl;cases r with
     |nil=>simp at hl
     |cons x r=>simp only[Jz,oA,Er,gb,jq]at h;obtain⟨rfl,rfl⟩:=h;exact⟨by rcases h2 with rfl|rfl|rfl<;>rfl,.inr (.inl ⟨p,x,rfl,h2⟩)⟩
   by_cases h3:p=0\/p=2\/p=3\/p=4\/p=7\/p=8;(·(have hs:gK p=some (0,0):=by rcases h3 with rfl|rfl|rfl|rfl|rfl|rfl<;>decide);rw[hs]at h;simp only[Nat.not_lt_zero,if_false,oA,Er,gb,jq]at h;obtain⟨rfl,rfl⟩:=h;exact⟨by rcases h3 with rfl|rfl|rfl|rfl|rfl|rfl<;>rfl,.inl ⟨p,rfl,h3⟩⟩);(have hs:gK p=none:=by unfold gK;repeat (rw[ah ⋯]));rw[hs]at h;cases h
theorem NY{c:List (List Int)}(hg:Gd c)(hA:rp (qo c)=true):Wel (qT c):=by
 rcases hg with⟨p,rfl,h⟩|⟨p,x,rfl,h⟩|⟨x,r,rfl⟩;·(have e:qT [[p]]=[p]:=by rcases h with rfl|rfl|rfl|rfl|rfl|rfl<;>rfl);rw[e];have h1:¬p=1:=⋯;have h2:¬(p=5\/p=6\/p=9):=⋯;exact⟨⟨aw _,by show 0<=p/\p<=9;lia,λh=>ap h h1,λh=>ap h h2,by show 1<=100;decide⟩,by show(1:Int)=if p=1 then _ else if p=5\/p=6\/p=9 then 2 else 1;rw[ah h1,ah h2],λh=>ap h h1⟩
 ·(have e:qT [[p,x]]=[p,x]:=by rcases h with rfl|rfl|rfl<;>rfl);rw[e];have h1:¬p=1:=⋯;exact⟨⟨by show 1<=2;decide,by show 0<=p/\p<=9;lia,λh=>ap h h1,λh=>aw _,by show 2<=100;decide⟩,by show(2:Int)=if p=1 then _ else if _ then 2 else 1;rw[ah h1];exact(aj h).symm,λh=>ap h h1⟩
 have hA':(AB x&&((decide ((r.length:Int)=D5 (r.length:Int) 0 17)&&r.all λ(z:Int)=>AD z 32)&&(AB (r.length:Int))))=true:=hA;simp only[cR,decide_eq_true_eq,fu,AD,D5]at hA';obtain⟨_,⟨hl,hr⟩,_⟩:=hA';have hl2:r.length<=17:=by by_cases h:r.length<=17;(·exact h);have hl:=of_decide_eq_true hl;rw[ah ⋯]at hl;lia
 have e:qT [[1,x],r]=1::x::(r.length:Int)::r:=rfl;have el:(1::x::(r.length:Int)::r).length=r.length+3:=rfl;rw[e];refine⟨⟨⋯,by show(0:Int)<=1/\(1:Int)<=9;decide,λ_=>by lia,λ_=>by lia,⋯⟩,?_,λ_=>⟨⋯,λz hz=>hr z hz⟩⟩;show((1::x::(r.length:Int)::r).length:Int)=3+max (r.length:Int) 0;rw[el];lia
theorem UT(ht:fc l)(h:l≠[]):tw l=((dB l:Nat):Int)::px l:=by have:=bL.mpr h;unfold tw px Rc37.MOST;rw[fj,bH.mp ht];congr 1;lia
theorem aat:g_ 32 x=sg x:=by unfold g_ sg;split<;>split<;>lia
theorem YX{ps os:List Int}(h1:cU ps)(h2:cU os)(hne:¬(ps=[]/\os=[])):tw (fG ps os)=((dB (fG ps os):Nat):Int)::px (fG ps os):=by
 obtain⟨t1,l1,_⟩:=Small.facts h1;obtain⟨t2,l2,_⟩:=Small.facts h2;have hn0:aA ps≠0\/aA os≠0:=by by_cases e:ps=[];(·exact .inr λe2=>hne ⟨e,(bP t2).mp e2⟩);exact .inl λe2=>e ((bP t1).mp e2)
 obtain⟨t,c⟩:=mD t1 t2 (by rw[bH.mp t1];exact l1) (by rw[bH.mp t2];exact l2) hn0;refine UT t λe=>?_;have z:=(bP t).mpr e;rcases hn0 with h|h;.obtain⟨x,hx⟩:=c.dp;apply h;rw[hx,z];grind
 obtain⟨x,hx⟩:=c.dq;apply h;rw[hx,z];grind
theorem SM(h1:cU ps)(hne:ps≠[])(h:iP (cq ps) k=some x):tw x.1=((dB x.1:Nat):Int)::px x.1:=by
 have hx:x∈cq ps:=by unfold iP at h;split at h;(·cases h);exact a_ h
 obtain⟨c,hc,he,hl,_⟩:=mN h1 hne;have hs:=hl.sim x hx;refine UT hs.1 λe=>?_;have z:=(bP hs.1).mpr e;have:=hs.2.1.pos;rw[z,ag.ff]at this;lia
theorem step_eq{ps os:List Int}{c:List (List Int)}(hg:Gd c)(h1:cU ps)(h2:cU os):D6 ⟨ps,os⟩ (qo c)=(⟨(AT ps os (qT c)).1,(AT ps os (qT c)).2.1⟩,(AT ps os (qT c)).2.2):=by
 have A2:ps≠[]->((dB ps:Nat):Int)=(ps.length:Int)-1:=by intro h;have:=bL.mpr h;obtain⟨t1,l1,_⟩:=Small.facts h1;rw[fj,bH.mp t1];lia
 rcases hg with⟨p,rfl,h⟩|⟨p,x,rfl,h⟩|⟨x,r,rfl⟩;.rcases h with rfl|rfl|rfl|rfl|rfl|rfl;(·rfl);(·by_cases hp:ps=[];(·subst hp;rfl);(have e:cx ⟨ps,os⟩ .degree=(⟨ps,os⟩,{value:=(dB ps:Nat)}):=by show(if ps=[]then _ else _)=_;rw[ah hp]);show((cx ⟨ps,os⟩ .degree).1,(cx ⟨ps,os⟩ .degree).2.value::(cx ⟨ps,os⟩ .degree).2.numbers)=(⟨ps,os⟩,gf ps 2 0);(have ep:gf ps 2 0=[((ps.length:Nat):Int)-1]:=by unfold gf;rw[ah hp,aj rfl]);rw[e,ep,<-A2 hp]);(·by_cases hp:ps=[];(·subst hp;rfl);(have e:cx ⟨ps,os⟩ .content=(⟨ps,os⟩,{value:=0,numbers:=[if 0<bm ps then(aB ps:Int)else-(aB ps:Int)]}):=by show(if ps=[]then _ else _)=_;rw[ah hp]);show((cx ⟨ps,os⟩ .content).1,(cx ⟨ps,os⟩ .content).2.value::(cx ⟨ps,os⟩ .content).2.numbers)=(⟨ps,os⟩,gf ps 3 0);(have ep:gf ps 3 0=[0,if 0<bm ps then(aB ps:Int)else-(aB ps:Int)]:=by unfold gf;rw[ah hp,ah ∅,aj rfl]);rw[e,ep]);(·by_cases hp:ps=[];(·subst hp;rfl);(have e:cx ⟨ps,os⟩ .count=(⟨ps,os⟩,{value:=((cq ps).length:Nat)}):=by show(if ps=[]then _ else _)=_;rw[ah hp]);show((cx ⟨ps,os⟩ .count).1,(cx ⟨ps,os⟩ .count).2.value::(cx ⟨ps,os⟩ .count).2.numbers)=(⟨ps,os⟩,gf ps 4 0);(have ep:gf ps 4 0=[(((cq ps).length:Nat):Int)]:=by unfold gf;rw[ah hp,ah ∅,ah ∅,aj rfl]);rw[e,ep]);(·by_cases hp:ps=[];(·subst hp;rfl);(have e:cx ⟨ps,os⟩ .simple=(⟨ps,os⟩,{value:=if aB ps=1/\0<bm ps/\1<=dB ps/\(cq ps).map (λx=>x.2)=[1]then 1 else 0}):=by show(if ps=[]then _ else _)=_;rw[ah hp]);show((cx ⟨ps,os⟩ .simple).1,(cx ⟨ps,os⟩ .simple).2.value::(cx ⟨ps,os⟩ .simple).2.numbers)=(⟨ps,os⟩,gf ps 7 0);(have ep:gf ps 7 0=[if aB ps=1/\0<bm ps/\1<=dB ps/\(cq ps).map (λx=>x.2)=[1]then 1 else 0]:=by unfold gf;rw[ah hp,ah ∅,ah ∅,ah ∅,aj rfl]);rw[e,ep]);show((cx ⟨ps,os⟩ .common).1,(cx ⟨ps,os⟩ .common).2.value::(cx ⟨ps,os⟩ .common).2.numbers)=(⟨ps,os⟩,if ps=[]/\os=[]then[-3]else tw (fG ps os));by_cases hp:ps=[]/\os=[];(·obtain⟨rfl,rfl⟩:=hp;rfl);(have e:cx ⟨ps,os⟩ .common=(⟨ps,os⟩,{value:=(dB (fG ps os):Nat),numbers:=px (fG ps os)}):=by show(_,if ps=[]/\os=[]then _ else _)=_;rw[ah hp]);rw[e,ah hp,YX h1 h2 hp]
 .rcases h with rfl|rfl|rfl
  .by_cases hp:ps=[];(·subst hp;rfl);(have e:cx ⟨ps,os⟩ (.part x)=(⟨ps,os⟩,match iP (cq ps) x with|none=>v_|some y=>{value:=(dB y.1:Nat),numbers:=px y.1}):=by show(if ps=[]then _ else _)=_;rw[ah hp];rfl);show((cx ⟨ps,os⟩ (.part x)).1,(cx ⟨ps,os⟩ (.part x)).2.value::(cx ⟨ps,os⟩ (.part x)).2.numbers)=(⟨ps,os⟩,gf ps 5 x);rw[e];unfold gf oM;rw[ah hp,ah ∅,ah ∅,ah ∅,ah ∅];cases hk:iP (cq ps) x with
    |none=>rfl
    |some y=>show _=((⟨ps,os⟩:Rc37.Abs),if(5:Int)=5 then tw y.1 else[(y.2:Int)]);rw[aj rfl,SM h1 hp hk]
  .by_cases hp:ps=[];(·subst hp;rfl);(have e:cx ⟨ps,os⟩ (.power x)=(⟨ps,os⟩,match iP (cq ps) x with|none=>v_|some y=>{value:=(y.2:Nat)}):=by show(if ps=[]then _ else _)=_;rw[ah hp];rfl);show((cx ⟨ps,os⟩ (.power x)).1,(cx ⟨ps,os⟩ (.power x)).2.value::(cx ⟨ps,os⟩ (.power x)).2.numbers)=(⟨ps,os⟩,gf ps 6 x);rw[e];unfold gf oM;rw[ah hp,ah ∅,ah ∅,ah ∅,ah ∅];cases hk:iP (cq ps) x with
    |none=>rfl
    |some y=>show _=((⟨ps,os⟩:Rc37.Abs),if(6:Int)=5 then tw y.1 else[(y.2:Int)]);rw[ah ∅]
  show((cx ⟨ps,os⟩ (.value x)).1,(cx ⟨ps,os⟩ (.value x)).2.value::((cx ⟨ps,os⟩ (.value x)).2.numbers.map λz=>z%2^64))=(⟨ps,os⟩,if x< -60\/60<x then[-1]else[0,jo ps x%2^64,jo ps x/2^64%2^64]);by_cases hx:x< -60\/60<x;(·(have e:cx ⟨ps,os⟩ (.value x)=(⟨ps,os⟩,v_):=by show(_,if x< -60\/60<x then _ else _)=_;rw[aj hx]);rw[e,aj hx];rfl);(have e:cx ⟨ps,os⟩ (.value x)=(⟨ps,os⟩,{value:=0,numbers:=[(jo ps x)%2^64,(jo ps x)/2^64]}):=by show(_,if x< -60\/60<x then _ else _)=_;rw[ah hx]);rw[e,ah hx];simp only[aR,cK,Int.emod_emod_of_dvd _ (GQ _)]
 have es:(r.map λ(z:Int)=>g_ 32 z)=r.map sg:=cY λz _=>aat;show((cx ⟨ps,os⟩ (.set x (r.map λz=>g_ 32 z) (r.length:Int))).1,(cx ⟨ps,os⟩ (.set x (r.map λz=>g_ 32 z) (r.length:Int))).2.value::(cx ⟨ps,os⟩ (.set x (r.map λz=>g_ 32 z) (r.length:Int))).2.numbers)=_;rw[es];have en:AT ps os (qT [[1,x],r])=if x<0\/1<x\/(r.length:Int)<0\/17<(r.length:Int)then(ps,os,[-1])else(if x=0 then aN (r.map sg)else ps,if x=0 then os else aN (r.map sg),[0]):=rfl;have ed:cx ⟨ps,os⟩ (.set x (r.map sg) (r.length:Int))=if x<0\/1<x\/(r.length:Int)<0\/17<(r.length:Int)then(⟨ps,os⟩,v_)else(if x=0 then⟨aN (r.map sg),os⟩else⟨ps,aN (r.map sg)⟩,{value:=0}):=rfl;rw[en,ed];split;.rfl
 by_cases hx:x=0;.rw[aj hx,aj hx,aj hx]
 rw[ah hx,ah hx,ah hx]
theorem JY:∀(cs:List (List (List Int))),(∀c,c∈cs->Gd c/\rp (qo c)=true)->∀ps os,cU ps->cU os->runs ps os (cs.map qT)=UM (RC D6 ⟨ps,os⟩ (cs.map qo))
 |[],_,_,_,_,_=>rfl
 |c::cs,h,ps,os,h1,h2=>by obtain⟨hg,hA⟩:=h c (.head _);obtain⟨s1,s2⟩:=BA (NY hg hA) h1 h2;rw[aR,aR,runs,RC,step_eq hg h1 h2,JY cs (λc hc=>h c (.tail _ hc)) _ _ s1 s2];simp only[UM,pB,kF]
theorem Gf:∀n l cs,nq gK n l=some cs->l=(cs.map qT).flatten/\∀c,c∈cs->Gd c
 |n,[],cs,h=>by(have e:nq gK n []=some []:=by unfold nq;rfl);rw[e]at h;injection h with h;subst h;exact⟨rfl,by simp⟩
 |0,_::_,_,h=>by cases h
 |n+1,p::r,cs,h=>by
  rw[nq]at h;cases hc:Es gK (p::r)with
   |none=>rw[hc]at h;cases h
   |some y=>
    obtain⟨c,t⟩:=y;rw[hc]at h;obtain⟨e,g⟩:=Us hc;simp only at h;cases hr:nq gK n t with
     |none=>rw[hr]at h;cases h
     |some cs'=>rw[hr]at h;simp only[gb]at h;subst h;obtain⟨e2,g2⟩:=Gf n t cs' hr;refine⟨by rw[aR,eY,<-e2];exact e,λx hx=>?_⟩;rcases bi.mp hx with rfl|hx;(·exact g);exact g2 x hx
theorem Q4(h:Ep l=true):∃Ei:List (List Int),l=Ei.flatten/\Ei.length<=40/\(∀cs,cs∈Ei->Wel cs)/\runs [] [] Ei=NL l:=by
 unfold Ep R7 at h;unfold NL R7;cases hc:nq gK l.length l with
  |none=>rw[hc]at h;cases h
  |some cs=>rw[hc]at h;simp only[cR,Rc37Neutral.asked,PyFlat.atMost,decide_eq_true_eq,fu,ab]at h;obtain⟨h40,iV,_⟩:=h;obtain⟨e,g⟩:=Gf _ _ _ hc;have Qo:∀c,c∈cs->Gd c/\rp (qo c)=true:=λc hm=>⟨g c hm,iV _ (ao.mpr ⟨c,hm,rfl⟩)⟩;refine⟨cs.map qT,e,by rw[ab];exact h40,λx hx=>?_,JY cs Qo [] [] nJ nJ⟩;obtain⟨c,hm,rfl⟩:=ao.mp hx;exact NY (Qo c hm).1 (Qo c hm).2
theorem abB{α:Type}:∀{l:List α},l.length=1->∃a,l=[a]
 |[a],_=>⟨a,rfl⟩
theorem abA{α:Type}:∀{l:List α},l.length=2->∃a b,l=[a,b]
 |[a,b],_=>⟨a,b,rfl⟩
theorem abz{α:Type}:∀{l:List α},l.length=3->∃a b c,l=[a,b,c]
 |[a,b,c],_=>⟨a,b,c,rfl⟩
theorem PB{α:Type}:∀{l:List α},l.length=4->∃a b c d,l=[a,b,c,d]
 |[a,b,c,d],_=>⟨a,b,c,d,rfl⟩
local macro_rules|`(tactic| walk_at"b1")=>`(tactic| exact λF=>F.binds λ_ _ _ _ _ _ us hl=>by obtain⟨_,e⟩:=abB hl;subst e;rfl)
local macro_rules|`(tactic| walk_at"b2")=>`(tactic| exact λF=>F.binds λ_ _ _ _ _ _ us hl=>by obtain⟨_,_,e⟩:=abA hl;subst e;rfl)
local macro_rules|`(tactic| walk_at"b3")=>`(tactic| exact λF=>F.binds λ_ _ _ _ _ _ us hl=>by obtain⟨_,_,_,e⟩:=abz hl;subst e;rfl)
local macro_rules|`(tactic| walk_at"b4")=>`(tactic| exact λF=>F.binds λ_ _ _ _ _ _ us hl=>by obtain⟨_,_,_,_,e⟩:=PB hl;subst e;rfl)
theorem Qy{K:ai}{x q:cJ}{st:rm}{v:Option (Option aI)}(e:fv K q v=fx x q st):∃f d,v=some (some (.ref f))/\uF K x q st f d/\uy K (.ref f)=true:=by
 unfold fv at e;split at e;.rename_i a;split at e;(·rename_i oc od d RK hl;cases d;simp only[fx,gb,jq,cR]at e;obtain⟨rfl,rfl,rfl,rfl,rfl,rfl,rfl,rfl,rfl,⟨c,k⟩,i⟩:=e;exact⟨a,_,rfl,YE hl c k,i⟩);cases e
 cases e
theorem Do{α β:Type}{f g:α->β}{l:List α}(e:l.map f=l.map g){i:Nat}{x:α}(h:l[i]?=some x):f x=g x:=List.map_inj_left.mp e x (a_ h)
theorem all_mk{P:cI}{w:eU}{K:ai}{h:f9}{mg:cJ->Option aI}{fa:aH}(X:K.In h)(G:h.Ns fF mg)(hfa:mg "answers"=some (.ref fa))(e:ob K=good):∃fd:fY,(∀(s:aU) (us:List aI),us.length=(["calls"]:List cJ).length->Nv s fd ⟨us,[]⟩ ((["calls"]:List cJ).zip us))/\∀base:f9,K.In base->base.Ns fF mg->dm P w K mg base je 15 fa fd ["calls"] (OA K):=by
 unfold ob at e;split at e;case h_2=>cases e
 rename_i C aC;simp only[good,gb,jq,cR]at e;obtain⟨e1,e2,e3,e4,e5,e6,e7,⟨⟨⟨k1,k2⟩,k3⟩,k4⟩,k5⟩:=e;have fn:∀{i:Nat} {x:cJ} {j:Nat},fns[i]?=some (x,j)->∃f d,mg x=some (.ref f)/\uF K x x (top j) f d:=λhi=>by obtain⟨f,d,a,F,_⟩:=Qy (Do e1 hi);exact⟨f,d,Ap X G a,F⟩
 have mt:∀{i:Nat} {x q:cJ} {j:Nat},mts[i]?=some (x,q,j)->∃f d,uF K x q (mB (top 71) j) f d/\Meth K C x f:=λhi=>by obtain⟨f,d,a,F,b⟩:=Qy (Do e2 hi);exact⟨f,d,F,a,b,F.kp⟩
 have ct:∀{i:Nat} {x:cJ} {j:Int},cns[i]?=some (x,j)->∃t,mg x=some (cH j t):=λ{_ x _} hi=>by have a:=Do e3 hi;dsimp only at a;split at a;(·rename_i v t b;cases a;exact⟨t,Ap X G b⟩);cases a
 have nn:∀{i:Nat} {x:cJ},nns[i]?=some x->mg x=none:=λhi=>PySem.W.mg_none_of X G (Do e4 hi);have T:Bt mg:=⟨nn (i:=0) rfl,nn (i:=1) rfl,nn (i:=2) rfl,nn (i:=3) rfl,nn (i:=4) rfl,nn (i:=5) rfl,nn (i:=6) rfl,nn (i:=7) rfl,nn (i:=8) rfl⟩;have D:Txt K mg C:=⟨⟨k1,k2,k3,e5⟩,e6,e7,Ap X G aC⟩;obtain⟨f,d,hf,F⟩:=fn (i:=50) rfl;cases hfa.symm.trans hf;refine⟨d,λs us hu=>?_,λbase _ _=>?_⟩;.obtain⟨oc,od,kV,IK,pm,an,tO,ct,RK,rfl,_,_⟩:=F.ex;exact match us,hu with|[_],_=>.of_eq rfl
 obtain⟨_,c0⟩:=ct (i:=0) rfl;obtain⟨_,c1⟩:=ct (i:=1) rfl;obtain⟨_,c2⟩:=ct (i:=2) rfl;obtain⟨_,c3⟩:=ct (i:=3) rfl;obtain⟨_,c4⟩:=ct (i:=4) rfl;obtain⟨_,c5⟩:=ct (i:=5) rfl;obtain⟨_,c6⟩:=ct (i:=6) rfl;obtain⟨_,c7⟩:=ct (i:=7) rfl;obtain⟨_,c8⟩:=ct (i:=8) rfl;obtain⟨_,c9⟩:=ct (i:=9) rfl;obtain⟨_,c10⟩:=ct (i:=10) rfl;obtain⟨_,c11⟩:=ct (i:=11) rfl;obtain⟨_,c12⟩:=ct (i:=12) rfl;obtain⟨_,c13⟩:=ct (i:=13) rfl;obtain⟨_,c14⟩:=ct (i:=14) rfl;have mu:∀{x:cJ} {j:Nat} {ps:List cJ} {k:Nat} {sp:Sp} (i:Nat) (g:∀{f:aH} {d:fY},uF K x x (top j) f d->dm P w K mg base je k f d ps sp),fns[i]?=some (x,j)->(∀{f:aH} {d:fY},uF K x x (top j) f d->gF K d ps [])->ij P w K mg base x k sp:=λ_ g hi hb=>by obtain⟨f,d,a,F⟩:=fn hi;exact V1 F a (g F) (hb F)
 have u0F:=mu 0 (λF=>Fd F T) rfl (by walk_at"b1");have u0:=mu 0 (λF=>SS F T) rfl (by walk_at"b1");have u1:=mu 1 (λF=>Xk F T) rfl (by walk_at"b2");have u2:=mu 2 (λF=>Tb F T u1) rfl (by walk_at"b1");have u3:=mu 3 (λF=>SY F T u2) rfl (by walk_at"b1");have u4:=mu 4 (λF=>Xo F T) rfl (by walk_at"b1");have u5:=mu 5 (λF=>SX F T) rfl (by walk_at"b2");have u6:=mu 6 (λF=>Xc F T u0) rfl (by walk_at"b2");have u7:=mu 7 (λF=>SU F T u6) rfl (by walk_at"b3");have u8:=mu 8 (λF=>Xs F T u6) rfl (by walk_at"b3");have u9:=mu 9 (λF=>Ta F T u8) rfl (by walk_at"b3");have u10:=mu 10 (λF=>Xn F T u0 u6) rfl (by walk_at"b3");have Z2:=mu 11 (λF=>SW F T u10) rfl (by walk_at"b3");have u12:=mu 12 (λF=>Pa F T Z2 u5) rfl (by walk_at"b4");have u13:=mu 13 (λF=>S5 F T) rfl (by walk_at"b2");have u14:=mu 14 (λF=>Pc F T u7 u13) rfl (by walk_at"b2");have u15:=mu 15 (λF=>S7 F T u14 Z2) rfl (by walk_at"b3");have u16:=mu 16 (λF=>Xj F T Z2 u13 u7 u10 u9 u5) rfl (by walk_at"b3");have u17:=mu 17 (λF=>Xf F T) rfl (by walk_at"b2");have u18:=mu 18 (λF=>S8 F T u16 u10 u6 u8 u12 u9) rfl (by walk_at"b4");have u19:=mu 19 (λF=>Xd F T) rfl (by walk_at"b2");have u20:=mu 20 (λF=>aba F T u0) rfl (by walk_at"b2");have u21:=mu 21 (λF=>abe F T u20 u3) rfl (by walk_at"b2");have u22:=mu 22 (λF=>Xi F T) rfl (by walk_at"b1");have u23:=mu 23 (λF=>S6 F T) rfl (by walk_at"b2");have u24:=mu 24 (λF=>Tc F T) rfl (by walk_at"b1");have u25:=mu 25 (λF=>S9 F T u15 u6 u4) rfl (by walk_at"b2");have u26:=mu 26 (λF=>SV F T Z2 u12) rfl (by walk_at"b2");have u27:=mu 27 (λF=>aa9 F T) rfl (by walk_at"b4");have u28:=mu 28 (λF=>abl F T) rfl (by walk_at"b1");have u29:=mu 29 (λF=>Xl F T u26) rfl (by walk_at"b2");have u30:=mu 30 (λF=>Xb F T u27 u28 u13) rfl (by walk_at"b2");have u31:=mu 31 (λF=>abm F T u29 u30) rfl (by walk_at"b2");have u32:=mu 32 (λF=>abf F T u15 u9 u10) rfl (by walk_at"b3");have u33:=mu 33 (λF=>abg F T u32 Z2) rfl (by walk_at"b3");have u34:=mu 34 (λF=>abp c0 F T u22 u25 u31 u14) rfl (by walk_at"b1");have u35:=mu 35 (λF=>abo F T) rfl (by walk_at"b2");have u36:=mu 36 (λF=>abh F T u23) rfl (by walk_at"b3");have u37:=mu 37 (λF=>abi F T u23 u5 u6 u3) rfl (by walk_at"b3");have u38:=mu 38 (λF=>abk F T u36 u37 u19 u35) rfl (by walk_at"b4");have u39:=mu 39 (λF=>aa8 F T u38 u19) rfl (by walk_at"b3");have u40:=mu 40 (λF=>abb F T u34 u17 u24 u14 u18 u33 u39) rfl (by walk_at"b1");have u41:acZ P w K mg base "order" 1 ["f"] (Oq K):=(fn (i:=41) rfl).elim λf y=>y.elim λd z=>⟨f,d,Xg z.2 T,(show uF K _ _ _ _ _->_ by walk_at"b1") z.2,z.1,z.2.kp⟩;have u42:=mu 42 (λF=>Pb (nn (i:=9) rfl) F T u41 u40 u3 u19 u21 u4) rfl (by walk_at"b1");have u43:=mu 43 (λF=>Xh F T u42) rfl (by walk_at"b1");have u44:=mu 44 (λF=>Xa F T) rfl (by walk_at"b2");have u45:=mu 45 (λF=>abj F T u19) rfl (by walk_at"b2");have u46:=mu 46 (λF=>Xq F T u2 u21) rfl (by walk_at"b2");have u47:=mu 47 (λF=>abc F T) rfl (by walk_at"b1");have u48:=mu 48 (λF=>aa_ c1 F T) rfl (by walk_at"b1");have u49:=mu 49 (λF=>abn c2 c3 c4 c5 F T) rfl (by walk_at"b2");obtain⟨_,_,F0,M0⟩:=mt (i:=0) rfl;have G0:=S_ (P:=P) (w:=w) (base:=base) F0 D;have B0:gF K _ ["self"] []:=(show uF K _ _ _ _ _->_ by walk_at"b1") F0;obtain⟨_,_,F1,M1⟩:=mt (i:=1) rfl;have G1:=Pd (P:=P) (w:=w) (base:=base) F1 D;have B1:gF K _ ["self"] []:=(show uF K _ _ _ _ _->_ by walk_at"b1") F1;obtain⟨_,_,F2,M2⟩:=mt (i:=2) rfl;have G2:=Xe (P:=P) (w:=w) (base:=base) c1 c6 F2 D T u0F u47;have B2:gF K _ ["self","which","length","coefficients"] []:=(show uF K _ _ _ _ _->_ by walk_at"b4") F2;obtain⟨_,_,F3,M3⟩:=mt (i:=3) rfl;have G3:=W_ (P:=P) (w:=w) (base:=base) c7 c6 F3 D T u44;have B3:gF K _ ["self","x"] []:=(show uF K _ _ _ _ _->_ by walk_at"b2") F3;obtain⟨_,_,F4,M4⟩:=mt (i:=4) rfl;have G4:=Td (P:=P) (w:=w) (base:=base) c8 F4 D T u48 u46;have B4:gF K _ ["self"] []:=(show uF K _ _ _ _ _->_ by walk_at"b1") F4;obtain⟨_,_,F5,M5⟩:=mt (i:=5) rfl;have G5:=abd (P:=P) (w:=w) (base:=base) c6 c3 F5 D T u42 u48 u45;have B5:gF K _ ["self","number","k"] []:=(show uF K _ _ _ _ _->_ by walk_at"b3") F5;obtain⟨_,_,F6,M6⟩:=mt (i:=6) rfl;have G6:=S0 (P:=P) (w:=w) (base:=base) c8 c9 c10 c11 c12 F6 D T u42 u2 u43 G5 B5 M5;have B6:gF K _ ["self","call"] []:=(show uF K _ _ _ _ _->_ by walk_at"b2") F6;obtain⟨_,_,F7,M7⟩:=mt (i:=7) rfl;have G7:=abq (P:=P) (w:=w) (base:=base) c13 c2 c9 c10 c11 c3 c4 c12 c14 c5 F7 D T G1 B1 M1 G2 B2 M2 G4 B4 M4 G3 B3 M3 G6 B6 M6;have B7:gF K _ ["self","call"] []:=(show uF K _ _ _ _ _->_ by walk_at"b2") F7;exact ok_all F D T ⟨k4,M0.1,M0.2,k5⟩ G0 B0 G7 B7 M7 u49
end Pt
section
section
namespace L2
open PySem PySem.Spec PyProof.Rows
open PySem.W (WData Codec OpenSpec Well WellAll ReadsW ReadsAllW)
mutual
inductive Dw (K:ai) (H:Hp):V->tX->Prop|jk:Dw K H .jk .none|bl (b:Bool):Dw K H (.bl b) (.bool b)|int (i:Int):Dw K H (.int i) (.int i)|str (x:cJ):Dw K H (.str x) (.str x)|Gg (b:Array UInt8):Dw K H (.Gg b) (.bytes b.toList)|lst {a:aH} {xs:List V} {ds:List tX}:cu K H a xs->sy K H xs ds->Dw K H (.ref a) (.list ds)|tup {a:aH} {xs:List V} {ds:List tX}:Ad K H a xs->sy K H xs ds->Dw K H (.ref a) (.tuple ds)
inductive sy (K:ai) (H:Hp):List V->List tX->Prop|nil:sy K H [] []|cons {v:V} {vs:List V} {d:tX} {ds:List tX}:Dw K H v d->sy K H vs ds->sy K H (v::vs) (d::ds)
end
theorem KO{K:ai}{H:Hp}:∀ns:List Int,sy K H (ns.map V.int) (ns.map tX.int)
 |[]=>.nil
 |n::r=>.cons (.int n) (KO r)
theorem Kr{K:ai}{H:Hp}:∀(ns:List Int) (xs:List V),sy K H xs (ns.map tX.int)->xs=ns.map V.int
 |[],xs,h=>by cases h;rfl
 |n::r,xs,h=>by
  cases h with
   |cons h1 h2=>cases h1;rw[Kr r _ h2]<;>rfl
section
variable {P:cI}{w:eU}{K:ai}{H:Hp}{h:f9}{R:Js}{cl:cJ->Option aH}
theorem Wg{xs:List V}(fQ:sx P w H h)(KX:K.In h)(q:cu K H a xs):∃its o n,dk xs its/\h.get? a=some o/\o.cls=.type "list"/\o.data=.seq its.toArray n:=by
 rcases q with q|⟨o,its,n,e,hc,_,hd,_,hv⟩;.obtain⟨_,its,n,hv,e⟩:=(show iq P w H h a (.lst xs)from q.ok fQ);exact⟨its,_,n,hv,e,rfl,rfl⟩
 exact⟨its.toList,o,n,hv,KX _ _ e,hc,by simp[hd]⟩
theorem Wf{xs:List V}(fQ:sx P w H h)(KX:K.In h)(q:Ad K H a xs):∃its o n,dk xs its/\h.get? a=some o/\o.cls=.type "tuple"/\o.data=.seq its.toArray n:=by
 rcases q with q|⟨o,its,n,e,hc,hd,_,hv⟩;.obtain⟨_,its,hv,o,e,hc,n,hd⟩:=(show iq P w H h a (.tup xs)from q.ok fQ);exact⟨its,o,n,hv,e,hc,hd⟩
 exact⟨its.toList,o,n,hv,KX _ _ e,hc,by simp[hd]⟩
mutual
theorem Dw.reads(fQ:sx P w H h)(KX:K.In h):∀d v u,Dw K H v d->eM v u->∃as,ReadsW R cl h u d as
 |.none,_,_,x,r=>by cases x;cases r;exact⟨_,ReadsW.none⟩
 |.bool b,_,_,x,r=>by cases x;cases r;exact⟨_,ReadsW.bool b⟩
 |.int i,_,_,x,r=>by cases x;obtain⟨t,rfl⟩:=r;exact⟨_,ReadsW.int i t⟩
 |.str s,_,_,x,r=>by cases x;obtain⟨t,rfl⟩:=r;exact⟨_,ReadsW.str s t⟩
 |.bytes b,_,_,x,r=>by cases x;obtain⟨t,rfl⟩:=r;exact⟨_,ReadsW.bytes _ t⟩
 |.list ds,_,_,x,r=>by
  cases x with
   |lst hs ha=>cases r;obtain⟨its,o,n,rv,ho,hc,hd⟩:=Wg fQ KX hs;obtain⟨as,hr⟩:=Dw.readsAll fQ KX ds _ its ha rv;exact⟨_,ReadsW.list ho hc hd hr⟩
 |.tuple ds,_,_,x,r=>by
  cases x with
   |tup hs ha=>cases r;obtain⟨its,o,n,rv,ho,hc,hd⟩:=Wf fQ KX hs;obtain⟨as,hr⟩:=Dw.readsAll fQ KX ds _ its ha rv;exact⟨_,ReadsW.tuple ho hc hd hr⟩
 |.float _,_,_,x,_=>by cases x
 |.dict _,_,_,x,_=>by cases x
 |.bytearray _,_,_,x,_=>by cases x
 |.set _,_,_,x,_=>by cases x
 |.frozenset _,_,_,x,_=>by cases x
 |.obj _ _,_,_,x,_=>by cases x
theorem Dw.readsAll(fQ:sx P w H h)(KX:K.In h):∀ds vs us,sy K H vs ds->dk vs us->∃as,ReadsAllW R cl h us ds as
 |[],_,_,x,r=>by cases x;cases r;exact⟨_,ReadsAllW.nil⟩
 |d::ds,_,_,x,r=>by
  cases x with
   |cons h1 h2=>
    cases r with
     |cons r1 r2=>obtain⟨as,q1⟩:=Dw.reads fQ KX d _ _ h1 r1;obtain⟨bs,q2⟩:=Dw.readsAll fQ KX ds _ _ h2 r2;exact⟨_,ReadsAllW.cons q1 q2⟩
end
end
mutual
noncomputable def Ny:tX->Bool
 |.none=>true
 |.bool _=>true
 |.int _=>true
 |.str _=>true
 |.bytes _=>true
 |.list xs=>AR xs
 |.tuple xs=>AR xs
 |_=>false
noncomputable def AR:List tX->Bool
 |[]=>true
 |x::r=>Ny x&&AR r
end
theorem E8{α:Type}{f:α->tX}(h:∀a,Ny (f a)=true):∀l:List α,AR (l.map f)=true
 |[]=>rfl
 |x::r=>by show(Ny (f x)&&AR (r.map f))=true;rw[h x,E8 h r]<;>rfl
theorem rV:∀(c:Codec) (a:c.denote),Ny (c.enc a)=true
 |.unit,_=>rfl
 |.bool,_=>rfl
 |.int _ _,_=>rfl
 |.nat _ _,_=>rfl
 |.u8,_=>rfl
 |.bytes _ _,_=>rfl
 |.text _ _ _ _,_=>rfl
 |.list _ _ c,a=>E8 (λx=>rV c x) a
 |.pair c d,a=>by show(Ny (c.enc a.1)&&(Ny (d.enc a.2)&&true))=true;rw[rV c a.1,rV d a.2]<;>rfl
 |.triple c d e,a=>by show(Ny (c.enc a.1)&&(Ny (d.enc a.2.1)&&(Ny (e.enc a.2.2)&&true)))=true;rw[rV c a.1,rV d a.2.1,rV e a.2.2]<;>rfl
 |.option c,none=>rfl
 |.option c,some x=>rV c x
theorem BM:∀cs (a:NU cs),AR (qR cs a)=true
 |[],_=>rfl
 |c::cs,a=>by show(Ny (c.enc a.1)&&AR (qR cs a.2))=true;rw[rV c a.1,BM cs a.2]<;>rfl
theorem uc:∀{xs:List tX} {d:tX},d∈xs->d.weight<=NK xs
 |[],d,h=>ap h (by simp)
 |x::r,d,h=>by show d.weight<=x.weight+1+NK r;rcases bi.mp h with e|m;(·rw[e];omega);have z:=uc m;omega
noncomputable def toV:aI->V
 |.none=>.jk
 |.bool b=>.bl b
 |.int i _=>.int i
 |.str x _=>.str x
 |.bytes b _=>.Gg b
 |.ref a=>.ref a
 |_=>.jk
noncomputable def MV(A:List aH):aI->Prop
 |.none=>True
 |.bool _=>True
 |.int _ _=>True
 |.str _ _=>True
 |.bytes _ _=>True
 |.ref a=>a∈A
 |_=>False
theorem MV.mono(h:∀a∈A,a∈B):∀{u:aI},MV A u->MV B u:=λ{u} x=>by
 cases u with
  |ref a=>exact h a x
  |none=>trivial
  |bool b=>trivial
  |int i t=>trivial
  |str s t=>trivial
  |bytes b t=>trivial
  |_=>exact dY x
theorem OJ(x:MV A u):eM (toV u) u:=by
 cases u with
  |ref a=>rfl
  |none=>rfl
  |bool b=>rfl
  |int i t=>exact⟨t,rfl⟩
  |str s t=>exact⟨t,rfl⟩
  |bytes b t=>exact⟨t,rfl⟩
  |_=>exact dY x
theorem pJ:∀{vs:List aI},(∀u∈vs,MV A u)->dk (vs.map toV) vs
 |[],_=>.nil
 |u::r,h=>.cons (OJ (h u (aq ..))) (pJ λx hx=>h x (al _ hx))
def qW(h:f9)(A:List aH)(a:aH):Prop:=∃vs:List aI,vs.length<=bn/\(∀u∈vs,MV A u)/\(h.get? a=some {cls:=.type "list",data:=.seq vs.toArray}\/h.get? a=some {cls:=.type "tuple",data:=.seq vs.toArray})
theorem qW.mono(k:∀a∈A,a∈B)(x:qW h A a):qW h B a:=by obtain⟨vs,h1,h2,h3⟩:=x;exact⟨vs,h1,λu hu=>(h2 u hu).mono k,h3⟩
theorem oH:∀{vs:List aI} {ds:List tX},vY P h vs ds->vs.length=ds.length
 |_,_,.nil=>rfl
 |_,_,.cons _ b=>by show _+1=_+1;rw[oH b]
theorem Bm(x:Well P h v (.list ds)):∃a vs,v=.ref a/\h.get? a=some {cls:=.type "list",data:=.seq vs.toArray}/\vY P h vs ds:=by
 cases x with
  |list ho iV=>exact⟨_,_,rfl,ho,iV⟩
theorem yN(x:Well P h v (.tuple ds)):∃a vs,v=.ref a/\h.get? a=some {cls:=.type "tuple",data:=.seq vs.toArray}/\vY P h vs ds:=by
 cases x with
  |tuple ho iV=>exact⟨_,_,rfl,ho,iV⟩
theorem Bn(x:vY P h us (d::ds)):∃v vs,us=v::vs/\Well P h v d/\vY P h vs ds:=by
 cases x with
  |cons a b=>exact⟨_,_,rfl,a,b⟩
theorem Kj(h:n<=1048576):n<=bn:=br h ∅
section
variable {P:Params}{h:f9}
mutual
theorem Q7:∀d v,Well P h v d->Ny d=true->d.weight<=1048576->∃A,MV A v/\∀a∈A,qW h A a
 |.none,_,x,_,_=>by cases x;exact⟨[],trivial,λa m=>ap m (by simp)⟩
 |.bool b,_,x,_,_=>by cases x;exact⟨[],trivial,λa m=>ap m (by simp)⟩
 |.int i,_,x,_,_=>by cases x;exact⟨[],trivial,λa m=>ap m (by simp)⟩
 |.str s,_,x,_,_=>by cases x;exact⟨[],trivial,λa m=>ap m (by simp)⟩
 |.bytes b,_,x,_,_=>by cases x;exact⟨[],trivial,λa m=>ap m (by simp)⟩
 |.list ds,_,x,p,z=>by obtain⟨a,vs,rfl,ho,iV⟩:=Bm x;have z2:=z;obtain⟨A,h1,h2⟩:=vI ds _ iV p λd hd=>br (uc hd) z2;have k:∀b∈A,b∈a::A:=λb hb=>al _ hb;refine⟨a::A,aq ..,λb hb=>?_⟩;rcases bi.mp hb with e|m;(·rw[e];exact⟨vs,Kj (by rw[oH iV];exact br (wQ ds) z2),λu hu=>(h1 u hu).mono k,.inl ho⟩);exact(h2 b m).mono k
 |.tuple ds,_,x,p,z=>by obtain⟨a,vs,rfl,ho,iV⟩:=yN x;have z2:=z;obtain⟨A,h1,h2⟩:=vI ds _ iV p λd hd=>br (uc hd) z2;have k:∀b∈A,b∈a::A:=λb hb=>al _ hb;refine⟨a::A,aq ..,λb hb=>?_⟩;rcases bi.mp hb with e|m;(·rw[e];exact⟨vs,Kj (by rw[oH iV];exact br (wQ ds) z2),λu hu=>(h1 u hu).mono k,.inr ho⟩);exact(h2 b m).mono k
 |.float _,_,_,p,_=>dI (show false=true from p)
 |.dict _,_,_,p,_=>dI (show false=true from p)
 |.bytearray _,_,_,p,_=>dI (show false=true from p)
 |.set _,_,_,p,_=>dI (show false=true from p)
 |.frozenset _,_,_,p,_=>dI (show false=true from p)
 |.obj _ _,_,_,p,_=>dI (show false=true from p)
theorem vI:∀ds vs,vY P h vs ds->AR ds=true->(∀d∈ds,d.weight<=1048576)->∃A,(∀u∈vs,MV A u)/\∀a∈A,qW h A a
 |[],_,x,_,_=>by cases x;exact⟨[],λu m=>ap m (by simp),λa m=>ap m (by simp)⟩
 |d::ds,_,x,p,z=>by obtain⟨v,vs,rfl,x1,x2⟩:=Bn x;have q:=Hl.mp p;obtain⟨A,a1,a2⟩:=Q7 d v x1 q.1 (z d (aq ..));obtain⟨B,b1,b2⟩:=vI ds vs x2 q.2 λe he=>z e (al _ he);have kA:∀b∈A,b∈A++B:=λb hb=>aO.mpr (.inl hb);have kB:∀b∈B,b∈A++B:=λb hb=>aO.mpr (.inr hb);refine⟨A++B,λu hu=>?_,λb hb=>?_⟩;(·rcases bi.mp hu with e|m;(·rw[e];exact a1.mono kA);exact(b1 u m).mono kB);rcases aO.mp hb with m|m;(·exact(a2 b m).mono kA);exact(b2 b m).mono kB
end
end
noncomputable def TM(o:kY):Option HO:=match o.data with
 |.seq vs _=>if(o.cls==oo "list")=true then some (.lQ o (.lst (vs.toList.map toV)))else some (.lQ o (.tup (vs.toList.map toV)))
 |_=>none
noncomputable def qM(K:ai)(h:f9)(A:List aH):Hp:=λb=>if b∈A then(if(K.lookup b).isNone=true then(h.get? b).bind TM else none)else none
def La(H:Hp):Prop:=∀b,H b=none\/∃o u,H b=some (.lQ o u)
theorem FG(vs:List aI):TM {cls:=.type "list",data:=.seq vs.toArray}=some (.lQ {cls:=.type "list",data:=.seq vs.toArray} (.lst (vs.map toV))):=by show(if(oo "list"==oo "list")=true then some (HO.lQ {cls:=.type "list",data:=.seq vs.toArray} (.lst (vs.toArray.toList.map toV)))else some (HO.lQ {cls:=.type "list",data:=.seq vs.toArray} (.tup (vs.toArray.toList.map toV))))=_;rw[aj (beq_self_eq_true _)]
theorem FF(vs:List aI):TM {cls:=.type "tuple",data:=.seq vs.toArray}=some (.lQ {cls:=.type "tuple",data:=.seq vs.toArray} (.tup (vs.map toV))):=by show(if(oo "tuple"==oo "list")=true then some (HO.lQ {cls:=.type "tuple",data:=.seq vs.toArray} (.lst (vs.toArray.toList.map toV)))else some (HO.lQ {cls:=.type "tuple",data:=.seq vs.toArray} (.tup (vs.toArray.toList.map toV))))=_;rw[ah ∅]
section
variable {P:cI}{w:eU}{K:ai}{h:f9}{A:List aH}
theorem yB(hb:b∈A)(hk:K.lookup b=none)(e:h.get? b=some o):qM K h A b=TM o:=by unfold qM;rw[aj hb,hk,aj (show(none:Option kY).isNone=true from rfl),e]<;>rfl
theorem Tf(q:qM K h A b=some u):b∈A/\K.lookup b=none:=by
 unfold qM at q;by_cases hb:b∈A
 .rw[aj hb]at q;cases hk:K.lookup b with
   |none=>exact⟨hb,rfl⟩
   |some o=>rw[hk,ah (by simp)]at q;cases q
 rw[ah hb]at q;cases q
theorem yA(ar:∀a∈A,qW h A a)(q:qM K h A b=some u):K.lookup b=none/\∃vs:List aI,vs.length<=bn/\(∀u∈vs,MV A u)/\((h.get? b=some {cls:=.type "list",data:=.seq vs.toArray}/\u=.lQ {cls:=.type "list",data:=.seq vs.toArray} (.lst (vs.map toV)))\/(h.get? b=some {cls:=.type "tuple",data:=.seq vs.toArray}/\u=.lQ {cls:=.type "tuple",data:=.seq vs.toArray} (.tup (vs.map toV)))):=by
 obtain⟨hb,hk⟩:=Tf q;obtain⟨vs,h1,h2,h3⟩:=ar b hb;refine⟨hk,vs,h1,h2,?_⟩;rcases h3 with e|e;.rw[yB hb hk e,FG]at q;exact .inl ⟨e,(aZ q).symm⟩
 rw[yB hb hk e,FF]at q;exact .inr ⟨e,(aZ q).symm⟩
theorem MS(ar:∀a∈A,qW h A a):La (qM K h A):=λb=>by
 cases q:qM K h A b with
  |none=>exact .inl rfl
  |some u=>obtain⟨_,vs,_,_,⟨_,e⟩|⟨_,e⟩⟩:=yA ar q;(·exact .inr ⟨_,_,by rw[e]⟩);exact .inr ⟨_,_,by rw[e]⟩
theorem Uw(ar:∀a∈A,qW h A a):sx P w (qM K h A) h:=λb u q=>by
 obtain⟨_,vs,h1,h2,⟨e,rfl⟩|⟨e,rfl⟩⟩:=yA ar q;.exact⟨e,by rw[ab];exact h1,vs,_,pJ h2,e⟩
 exact⟨e,by rw[ab];exact h1,vs,pJ h2,_,e,rfl,_,rfl⟩
theorem yh{vs us:List aI}(e:(some {cls:=c,data:=.seq vs.toArray}:Option kY)=some {cls:=c',data:=.seq us.toArray}):c=c'/\vs=us:=by have e1:=aZ e;have e2:=aK kY.cls e1;have e3:=aK kY.data e1;injection e3 with e4;refine⟨e2,?_⟩;have e5:=aK US e4;simpa using e5
theorem ahh(KX:K.In h)(ar:∀a∈A,qW h A a){vs:List aI}(ha:a∈A)(e:h.get? a=some {cls:=.type "list",data:=.seq vs.toArray}):(∀u∈vs,MV A u)/\cu K (qM K h A) a (vs.map toV):=by
 obtain⟨us,h1,h2,h3⟩:=ar a ha;have hu:us=vs:=by rcases h3 with q|q;(·rw[e]at q;exact(yh q).2.symm);rw[e]at q;exact ap (GY (yh q).1) ∅
 subst hu;refine⟨h2,?_⟩;cases hk:K.lookup a with
  |none=>exact .inl (.inr ⟨_,by rw[yB ha hk e,FG]⟩)
  |some o=>have e2:=KX a o hk;rw[e]at e2;obtain rfl:=aZ e2;exact .inr ⟨_,us.toArray,_,hk,rfl,rfl,rfl,by rw[bc];exact h1,by simpa using pJ h2⟩
theorem ahg(KX:K.In h)(ar:∀a∈A,qW h A a){vs:List aI}(ha:a∈A)(e:h.get? a=some {cls:=.type "tuple",data:=.seq vs.toArray}):(∀u∈vs,MV A u)/\Ad K (qM K h A) a (vs.map toV):=by
 obtain⟨us,h1,h2,h3⟩:=ar a ha;have hu:us=vs:=by rcases h3 with q|q;(·rw[e]at q;exact ap (GY (yh q).1) ∅);rw[e]at q;exact(yh q).2.symm
 subst hu;refine⟨h2,?_⟩;cases hk:K.lookup a with
  |none=>exact .inl (.inr ⟨_,by rw[yB ha hk e,FF]⟩)
  |some o=>have e2:=KX a o hk;rw[e]at e2;obtain rfl:=aZ e2;exact .inr ⟨_,us.toArray,_,hk,rfl,rfl,by rw[bc];exact h1,by simpa using pJ h2⟩
mutual
theorem YO(KX:K.In h)(ar:∀a∈A,qW h A a):∀d v,Well Pm h v d->Ny d=true->MV A v->Dw K (qM K h A) (toV v) d
 |.none,_,x,_,_=>by cases x;exact .jk
 |.bool b,_,x,_,_=>by cases x;exact .bl b
 |.int i,_,x,_,_=>by cases x;exact .int i
 |.str s,_,x,_,_=>by cases x;exact .str s
 |.bytes b,_,x,_,_=>by cases x;have z:=Dw.Gg (K:=K) (H:=qM K h A) b.toArray;exact z
 |.list ds,_,x,p,hu=>by obtain⟨a,vs,rfl,ho,iV⟩:=Bm x;obtain⟨h2,hs⟩:=ahh KX ar hu ho;exact .lst hs (DE KX ar ds _ iV p h2)
 |.tuple ds,_,x,p,hu=>by obtain⟨a,vs,rfl,ho,iV⟩:=yN x;obtain⟨h2,hs⟩:=ahg KX ar hu ho;exact .tup hs (DE KX ar ds _ iV p h2)
 |.float _,_,_,p,_=>dI (show false=true from p)
 |.dict _,_,_,p,_=>dI (show false=true from p)
 |.bytearray _,_,_,p,_=>dI (show false=true from p)
 |.set _,_,_,p,_=>dI (show false=true from p)
 |.frozenset _,_,_,p,_=>dI (show false=true from p)
 |.obj _ _,_,_,p,_=>dI (show false=true from p)
theorem DE(KX:K.In h)(ar:∀a∈A,qW h A a):∀ds vs,vY Pm h vs ds->AR ds=true->(∀u∈vs,MV A u)->sy K (qM K h A) (vs.map toV) ds
 |[],_,x,_,_=>by cases x;exact .nil
 |d::ds,_,x,p,hu=>by obtain⟨v,vs,rfl,x1,x2⟩:=Bn x;have q:=Hl.mp p;exact .cons (YO KX ar d v x1 q.1 (hu _ (aq ..))) (DE KX ar ds vs x2 q.2 λu m=>hu u (al _ m))
end
end
theorem LJ{P:cI}{w:eU}{K:ai}{mg mb:cJ->Option aI}{CX:Rt}{k:Nat}{fa:aH}{fd:fY}{ps:List cJ}{sp:Sp}{s₁:aU}{AJ:List aI}{ds:List tX}{R:Js}{cl:cJ->Option aH}{d0:tX}(KX:K.In s₁.heap)(NC:s₁.heap.Ns fF mg)(hb:s₁.heap.Ns Gv mb)(My:∀x:cJ,x≠"__name__"->mb x=pk x)(afS:s₁.heap.NoLimit)(hg:s₁.gens=#[])(XS:vY w.params s₁.heap AJ ds)(hpl:AR ds=true)(XR:∀d∈ds,d.weight<=1048576)(hr:j_ k Ng)(F:∀base:f9,K.In base->base.Ns fF mg->dm P w K mg base CX k fa fd ps sp)(acv:∀(s:aU) (us:List aI),us.length=ps.length->Nv s fd ⟨us,[]⟩ (ps.zip us))(hlen:ds.length=ps.length)(zG:∀(H:Hp) (xs:List V),La H->sy K H xs ds->sp xs H (λv H'=>Dw K H' v d0) λ_ _ _=>False)(hCX:∀H e s',CX [] H s₁ (λ_ _ _=>False) e s'->False):codeAny (b7 P w) Ng (.call (.ref fa) ⟨AJ,[]⟩) (λr s'=>∃u as,r=.ok (.ret u)/\ReadsW R cl s'.heap u d0 as/\OldK s₁.heap s'.heap/\s'.os=s₁.os/\Aw s'.gens) s₁:=by
 obtain⟨A,ho,ar⟩:=vI ds AJ XS hpl XR;have hO:La (qM K s₁.heap A):=MS ar;have fQ:sx P w (qM K s₁.heap A) s₁.heap:=Uw ar;have hS:=DE KX ar ds AJ XS hpl ho;have hV:=pJ ho;have hK:∀b u,qM K s₁.heap A b=some u->K.lookup b=none:=λb u q=>(yA ar q).1;have Zj:∀{b:aH} {o:kY} {es:Array DictEntry} {ep:Nat},s₁.heap.get? b=some o->o.data=.dict es ep->qM K s₁.heap A b=none:=λ{b o es ep} e d=>by
  cases q:qM K s₁.heap A b with
   |none=>rfl
   |some u=>obtain⟨_,vs,_,_,⟨e2,_⟩|⟨e2,_⟩⟩:=yA ar q;(·rw[e2]at e;cases e;have d':Data.seq vs.toArray _=Data.dict es ep:=d;cases d');rw[e2]at e;cases e;have d':Data.seq vs.toArray _=Data.dict es ep:=d;cases d'
 generalize qM K s₁.heap A=H at hO fQ hS hK Zj;have K8:∀{b:aH} {o:kY},s₁.heap.get? b=some o->H b=none->(Du s₁.heap H).get? b=some o:=λe n=>P_ e n;have nsK:∀{b:aH} {m:cJ->Option aI},s₁.heap.Ns b m->(Du s₁.heap H).Ns b m:=λ{b m} ⟨o,es,ep,e,d,r⟩=>⟨o,es,ep,K8 e (Zj e d),d,r⟩;have nK:∀b o,K.lookup b=some o->H b=none:=λb o e=>by
  cases q:H b with
   |none=>rfl
   |some u=>rw[hK b u q]at e;cases e
 have hKb:K.In (Du s₁.heap H):=λb o e=>K8 (KX b o e) (nK b o e);have hM:Mod K mg (Du s₁.heap H):=⟨hKb,nsK NC,⟨mb,nsK hb,My⟩,let ⟨mc,h1,h2⟩:=afS;⟨mc,nsK h1,h2⟩⟩;have e0:Be P w K mg (Du s₁.heap H) Ng [] s₁ H:=⟨rfl,hM,λb o e=>Te e,wT (Mt _ _),trivial,λb hb=>ap (show b∈([]:List aH)from hb) (by simp),fQ,.of_eq hg⟩;have hl:AJ.length=ps.length:=by rw[oH XS];exact hlen
 refine tG ((F _ hKb (nsK NC)).run Ng [] s₁ H ⟨AJ,[]⟩ AJ (AJ.map toV) _ _ hr e0 (acv s₁ AJ hl) hV (zG H _ hO hS)) λr s' x=>?_;cases r with
  |error e=>exact(hCX H e s' x).elim
  |ok fl=>
   cases fl with
    |next=>exact dY x
    |brk=>exact dY x
    |cont=>exact dY x
    |ret u=>
     obtain⟨v,H',os,bare,un,abU,r',q⟩:=x;have kept:∀b o,s₁.heap.get? b=some o->s'.heap.get? b=some o:=λb o e=>by
      cases q2:H b with
       |none=>exact un.keep b o e q2 (by intro z;exact ap (show b∈([]:List aH)from z) (by simp)) (by simp)
       |some u2=>rcases hO b with z|⟨ob,u3,z⟩;(·rw[q2]at z;cases z);have z2:=un.zN b ob _ z;obtain⟨e1,_⟩:=fQ b _ z;obtain⟨e2,_⟩:=abU b _ z2;rw[e]at e1;cases e1;exact e2
     have KX':K.In s'.heap:=λb o e=>kept b o (KX b o e);obtain⟨as,hrd⟩:=Dw.reads (R:=R) (cl:=cl) abU KX' d0 v u q r';exact⟨u,as,rfl,hrd,OldK.of_keep kept,os,bare⟩
theorem zD(h:tX.layableAll ds=true):∀d∈ds,d.weight<=1048576:=λd hd=>(PySem.W.layableW_iff.mp (fu.mp h d hd)).2.2
theorem zT:∀cs a,(qR cs a).length=cs.length
 |[],_=>rfl
 |c::cs,a=>by show(qR cs a.2).length+1=cs.length+1;rw[zT cs a.2]
end L2
end
end
section
namespace L2
open PySem PySem.Spec PyProof.Rows
open PySem.W (WData Codec OpenSpec)
theorem Ho{r:OpenSpec}{k:Nat}{q:cI}{loose:List cJ}{XP:(cJ->Option aI)->f9->Prop}{YP:eU->f9->Prop}{d:DefRec}{CX:Rt}{ps:List cJ}{sp:ai->Sp}(abH:r.wellSaid=true)(hlen:r.args.length=ps.length)(hr:j_ k Ng)(F:∀(w:eU) (mg:cJ->Option aI) (fa:aH) (h:f9),YP w h->h.Ns fF mg->mg d.name=some (.ref fa)->∃K:ai,K.In h/\∃fd:fY,(∀(s:aU) (us:List aI),us.length=ps.length->Nv s fd ⟨us,[]⟩ (ps.zip us))/\∀base:f9,K.In base->base.Ns fF mg->dm r.prog w K mg base CX k fa fd ps (sp K))(zG:∀(K:ai) (H:Hp) (xs:List V) (a:NU r.args),La H->Codec.withinAll r.args a=true->Nu r.args r.asked a=true->sy K H xs (qR r.args a)->sp K xs H (λv H'=>Dw K H' v (r.ret.enc (Nu r.args r.f a))) λ_ _ _=>False)(hCX:∀(H:Hp) (s:aU) (e:aI) (s':aU),CX [] H s (λ_ _ _=>False) e s'->False):PySem.W.WalkOS q loose XP YP r d [] (λf vs=>PySem.call f vs):=by intro w BE s₁ mg mb G Y fa o pm cd IK dV kV ho hd hcd hD hmg hg args AJ as afv afT hrd XS hlo;obtain⟨a,e1,e2⟩:=PySem.W.os_pre_some afv;obtain⟨e3,hwi⟩:=Codec.encAll_of_decAll r.args args a e1;subst e3;obtain⟨K,KX,fd,hb,hF⟩:=F w mg fa _ Y G.T.g hmg;refine PySem.W.enter_call (tG (LJ (R:=[]) (cl:=classAt BE.heap) (d0:=r.ret.enc (Nu r.args r.f a)) KX G.T.g G.T.b G.T.builtins G.T.nolimit hg XS (BM _ _) (zD afT) hr hF hb (by rw[zT];exact hlen) (λH xs hO hS=>zG K H xs a hO hwi e2 hS) λH e s'=>hCX H s₁ e s') λr' s' hq=>?_);obtain⟨u,as',rfl,h1,h2,h3,h4⟩:=hq;exact⟨.inl ⟨u,_,as',rfl,λ_=>rfl,h1,(OpenSpec.post_iff abH hwi _ _).mpr rfl,λz=>dI (show false=true from z)⟩,h2,h3,h4⟩
end L2
open PySem PySem.W PyProof.Rows
set_option maxHeartbeats 0 in
theorem X:nV.Holds:=by
 refine holds_os (q:=Hd.vw) (loose:=Hd.los) (Xt:=λs=>recOk [] s) (XP:=λ_ _=>True) (Yf:=(Hd.hk Hd.Y6).obs) (Ya:=(Hd.hk Hd.Y6).val) (YP:=(Hd.hk Hd.Y6).says) (N:=2410) Hd.wv (Hd.hk Hd.Y6).of (Hd.hk Hd.Y6).keeps (λ_ _=>trivial) (λ_ _ _ _ _=>trivial) (by rfl) (by rfl) (by rfl) (λ_ e=>recFacts_of e) os_shapes (by decide+kernel) (by decide+kernel) ⟨rfl,rfl,rfl,rfl,rfl,by decide+kernel⟩ ⟨[.list [.int 0]],by decide+kernel,by decide+kernel⟩ ?_;refine L2.Ho (r:=nV) (k:=15) (CX:=L2.je) (ps:=["calls"]) (sp:=Pt.OA) (by decide+kernel) rfl ⟨rfl,∅,∅⟩ (λw mg fa h Y G hm=>Y.elim λK y=>⟨K,y.1,Pt.all_mk y.1 G hm y.2⟩) ?_ (λ_ _ _ _ z=>z);intro K H xs a hO hwi agE hx;cases hx with
  |cons h1 h2=>
   cases h2;cases h1 with
    |lst hs ha=>have e:=L2.Kr a.1 _ ha;subst e;obtain⟨Ei,e1,e2,e3,e4⟩:=Pt.Q4 (l:=a.1) agE;refine⟨_,a.1,Ei,rfl,hs,e1,e2,e3,λH' p _ hp=>?_⟩;rw[e4]at hp;exact .lst (L2.cu.of hp) (L2.KO _)
end
theorem PySem.Challenge.cw_takenapart_s01_answers_holds : PySem.Challenge.rw_takenapart_s01_answers.Holds := by
  exact X
