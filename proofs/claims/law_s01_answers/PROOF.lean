import PyProof.Rows.All
import Wide.All
import OpenK.AllK
import KE.KSortKeySt
import Open.SpecLaws
import KE.OsHead
import KE.OsGo
import PySem.Challenge.RW_formorder_s01_answers
set_option Elab.async false
set_option linter.all false
set_option maxRecDepth 100000
set_option maxHeartbeats 0
set_option bootstrap.genMatcherCode false
def FO.autoRfl:Lean.Syntax:=Lean.Unhygienic.run `(tacticSeq|rfl)
def FO.autoDec:Lean.Syntax:=Lean.Unhygienic.run `(tacticSeq|decide)
local macro_rules|`(~~~$x)=>`(autoParam $x FO.autoRfl)|`($x⁻¹)=>`(autoParam $x FO.autoDec)
def FO.st(x:Lean.Syntax):=x.rewriteBottomUp fun|.node _ k a=>.node .none k a|.atom _ v=>.atom .none v|.ident _ r n p=>.ident .none r n p|x=>x
local macro_rules
|`(def $i $s $v:declVal)=>return FO.st (←if s.raw[1].isNone then `(noncomputable def $i $s $v:declVal)else `(theorem $i $(⟨.node .none `Lean.Parser.Command.declSig #[s.raw[0],s.raw[1][0]]⟩) $v:declVal))
|`(abbrev $i $s $v:declVal)=>return FO.st (←`(noncomputable def $i $s $v:declVal))
|`(@[reducible]def $i $s $v:declVal)=>return FO.st (←`(@[reducible]noncomputable def $i $s $v:declVal))
|`(universe $x*)=>return FO.st (Lean.mkNullNode (←(x.toList.flatMap fun x=>match x.getId with|.str .anonymous s=>(s.toList.zipIdx.flatMap fun (c,j)=>(List.range 4).filterMap fun i=>if (c.toNat-65).testBit i then some (.str `FO.hd s!"o_{4*j+i}")else none)|n=>[n]).toArray.mapM fun n=>`(theorem $(Lean.mkIdent (.mkSimple s!"tw{n.hash}")):ident:True:=⟨⟩)))
def aT{G:Prop}(h:∀C:Prop,(G->C)->C):G:=h G id
def aA{A G:Prop}(k:A->G)(a:A):G:=k a
def e1{A:Sort a}{p:A->Prop}{G:Prop}(k:∀x,p x->G)(h:Exists p):G:=h.elim k
def e2{A:Sort a}{B:Sort b}{p:A->B->Prop}{G:Prop}(k:∀x y,p x y->G)(h:∃x y,p x y):G:=e1 (λx=>e1 (k x)) h
def e3{A:Sort a}{B:Sort b}{C:Sort c}{p:A->B->C->Prop}{G:Prop}(k:∀x y z,p x y z->G)(h:∃x y z,p x y z):G:=e1 (λx=>e2 (k x)) h
def e4{A:Sort a}{B:Sort b}{C:Sort c}{D:Sort d}{p:A->B->C->D->Prop}{G:Prop}(k:∀x y z u,p x y z u->G)(h:∃x y z u,p x y z u):G:=e1 (λx=>e3 (k x)) h
def e5{A:Sort a}{B:Sort b}{C:Sort c}{D:Sort d}{E:Sort e}{p:A->B->C->D->E->Prop}{G:Prop}(k:∀x y z u v,p x y z u v->G)(h:∃x y z u v,p x y z u v):G:=e1 (λx=>e4 (k x)) h
def e6{A:Sort a}{B:Sort b}{C:Sort c}{D:Sort d}{E:Sort e}{F:Sort f}{p:A->B->C->D->E->F->Prop}{G:Prop}(k:∀x y z u v w,p x y z u v w->G)(h:∃x y z u v w,p x y z u v w):G:=e1 (λx=>e5 (k x)) h
def a2{A B G:Prop}(k:A->B->G)(h:A/\B):G:=k h.1 h.2
def a3{A B C G:Prop}(k:A->B->C->G)(h:A/\B/\C):G:=a2 (λx=>a2 (k x)) h
def a4{A B C D G:Prop}(k:A->B->C->D->G)(h:A/\B/\C/\D):G:=a2 (λx=>a3 (k x)) h
def a5{A B C D E G:Prop}(k:A->B->C->D->E->G)(h:A/\B/\C/\D/\E):G:=a2 (λx=>a4 (k x)) h
def a6{A B C D E F G:Prop}(k:A->B->C->D->E->F->G)(h:A/\B/\C/\D/\E/\F):G:=a2 (λx=>a5 (k x)) h
def a7{A B C D E F H G:Prop}(k:A->B->C->D->E->F->H->G)(h:A/\B/\C/\D/\E/\F/\H):G:=a2 (λx=>a6 (k x)) h
def a8{A B C D E F H I G:Prop}(k:A->B->C->D->E->F->H->I->G)(h:A/\B/\C/\D/\E/\F/\H/\I):G:=a2 (λx=>a7 (k x)) h
def i2{A:Sort a}{B:Sort b}{p:A->B->Prop}(x y)(h:p x y):∃x y,p x y:=⟨x,y,h⟩
def i3{A:Sort a}{B:Sort b}{C:Sort c}{p:A->B->C->Prop}(x y z)(h:p x y z):∃x y z,p x y z:=⟨x,y,z,h⟩
def i4{A:Sort a}{B:Sort b}{C:Sort c}{D:Sort d}{p:A->B->C->D->Prop}(x y z u)(h:p x y z u):∃x y z u,p x y z u:=⟨x,y,z,u,h⟩
def i5{A:Sort a}{B:Sort b}{C:Sort c}{D:Sort d}{E:Sort e}{p:A->B->C->D->E->Prop}(x y z u v)(h:p x y z u v):∃x y z u v,p x y z u v:=⟨x,y,z,u,v,h⟩
def i6{A:Sort a}{B:Sort b}{C:Sort c}{D:Sort d}{E:Sort e}{F:Sort f}{p:A->B->C->D->E->F->Prop}(x y z u v w)(h:p x y z u v w):∃x y z u v w,p x y z u v w:=⟨x,y,z,u,v,w,h⟩
local macro_rules
|`(tactic|obtain ⟨$ps,*⟩ := $e)=>do
 let mut q:=#[]
 let mut w←`(tactic|skip)
 for p in ps.getElems do
  let b:=match p with
  |`(Lean.Parser.Tactic.rcasesPatLo|$x:ident)=>x.getId != `rfl
  |`(Lean.Parser.Tactic.rcasesPatLo|_)=>true
  |`(Lean.Parser.Tactic.rcasesPatLo|-)=>true
  |_=>false
  if b then q:=q.push (←`(tactic|rintro ($p:rcasesPatLo)))
  else
   let x:=Lean.mkIdent (←Lean.Macro.addMacroScope (.mkSimple s!"x{q.size}"))
   q:=q.push (←`(tactic|intro $x:ident))
   w←`(tactic|(($w:tactic)<;>rcases $x:ident with $p:rcasesPatLo))
 let n:=q.size
 let f:=#[``e1,``e2,``e3,``e4,``e5,``e6,``a2,``a3,``a4,``a5,``a6,``a7,``a8]
 let mut t:=q.back!
 for i in [1:n] do
  let p:=q[n-1-i]!
  t←`(tactic|first|(refine e1 ?_;($p:tactic);($t:tactic))|(refine a2 ?_;($p:tactic);($t:tactic)))
 for a in [0:n] do
  let mut s←`(tactic|skip)
  for j in [0:n] do
   if j<a then
    if j%6==0 then s←`(tactic|(($s:tactic);refine $(Lean.mkCIdent f[min 5 (a-j-1)]!) ?_))
   else
    if j+1<n&&(j-a)%7==0 then s←`(tactic|(($s:tactic);refine $(Lean.mkCIdent f[min 12 (4+n-j)]!) ?_))
   s←`(tactic|(($s:tactic);($(q[j]!):tactic)))
  t←`(tactic|first|($s:tactic)|($t:tactic))
 let c←if e.raw.isIdent then `(tactic|try clear $e) else `(tactic|skip)
 `(tactic|first|(refine aA ?_ $e;($c:tactic);($t:tactic);($w:tactic))|rcases $e:term with ⟨$ps,*⟩)
|`(tactic|obtain ⟨$ps,*⟩ : $t := $e)=>`(tactic|obtain ⟨$ps,*⟩ := ($e : $t))
|`(tactic|exact ⟨$as,*⟩)=>do
 let q:=as.getElems
 let n:=q.size
 let mut t←`(tactic|fail)
 for i in [2:min n 7] do
  let r:Lean.Syntax.TSepArray `term ",":=.ofElems (q.extract i n)
  let z←if i+1==n then pure q[i]! else `(⟨$r,*⟩)
  t←`(tactic|first|exact $(Lean.mkCIdent #[``i2,``i3,``i4,``i5,``i6][i-2]!) $(q.extract 0 i)* $z|($t:tactic))
 pure t
|`(tactic|refine ⟨$as,*⟩)=>do
 let q:=as.getElems
 let n:=q.size
 let mut t←`(tactic|fail)
 for i in [2:min n 7] do
  let r:Lean.Syntax.TSepArray `term ",":=.ofElems (q.extract i n)
  let z←if i+1==n then pure q[i]! else `(⟨$r,*⟩)
  t←`(tactic|first|refine $(Lean.mkCIdent #[``i2,``i3,``i4,``i5,``i6][i-2]!) $(q.extract 0 i)* $z|($t:tactic))
 pure t
|`(tactic|lia)=>`(tactic|lia -abstractProof)
|`(tactic|cases $e:ident)=>`(tactic|first|(have x:=Option.some.inj $e;clear $e;subst x)|exact absurd $e Bool.false_ne_true|cases ($e))
namespace PySem.W.Fast
universe AIJIOEHKDNJOMJOEPFJNHCLLDCLLEGHHGGHJMOPIMOLIMEPPHEGKPHDCDNPLBJJOPNIMEPPGEGOEPPCHOEHKHEHKHKDNJOEHKDHOMJOBHKDNJOEHKDNJOEHKDNDCDNPLEHKDNJOEPIOAEIIIMEPPGEGKDNJOEHOPFKHEHKDNJOEHKDNJDHOMJDPIOEGKPHDCDHKDNPLEHKDNDOMJDNJOFHOEPIMEPPCNJOEHKDNDKDNJOEHKDNJOEHKDNJOEPIO FO.hd.heap_1020 FO.hd.tree_1019 FO.hd.tree_1010 FO.hd.tree_924 FO.hd.heap_1 FO.hd.tree_866 FO.hd.tree_816 FO.hd.tree_760 FO.hd.tree_730 FO.hd.tree_649 FO.hd.tree_593 FO.hd.tree_568 FO.hd.view_1 FO.hd.tree_546 PySem.Challenge.pw_formorder_s01_answers FO.hd.tree_488 FO.hd.tree_411 FO.hd.tree_337 FO.hd.tree_285 FO.hd.tree_262 FO.hd.tree_239 FO.hd.tree_216 FO.hd.tree_193 FO.hd.tree_170 FO.hd.tree_153 FO.hd.tree_124 FO.hd.tree_95 FO.hd.tree_66 FO.hd.heap_8 FO.hd.tree_9 PySem.Challenge.rw_formorder_s01_answers PySem.Challenge.nm_formorder_s01_answers
end PySem.W.Fast
open PySem renaming Addr->af,Str->ag,Value->aj,Shared->ar,starEach->aB,model->aF,wpAny->aH,wpAny_bind->aJ,eval->aP,Heap->aZ,sizeLine->bj,Expr->bp,Obj->bu,Program->bA,World->bB,backTo->bF,wpAny_pure->ce,Pos->cj,Around->cG,Stmt->dm,cLine->dU,Sem->d4,compEnvC->ec,FuncData->eQ,Scope->fe,compareOp->fg,wpAny_mono->fw,swapsWith->fJ,cellsFrom->gJ,rawInt->gW,backToKw->ii,keywordEach->ij,mainGlobals->iB,behindInMarks->iD,attributeBase->jl,NameKind->jm,holding->jP,mem_of_lookup->jR,wpAny_field->km,IsZip->kY,wpAny_Call_Name_kw->lV,IsEnum->lX,wpAny_loadPart'->lY,wpAny_truthy_bool->mM,standAt->mN,assignEach->mP,sysModules->nU,foldedSetIterable->nW,codeAny->nX,Keyword->n0,Env->n6,getMethod->pE,callWith->pF,wpAny_setField_rec->pJ,Arguments->rn,builtinsNs->rH,assign->rK,wpAny_holding->rL,bindL->rN,bindC->rO,PyData->rP,pushCells->rQ,atKey->rR,bootBuiltins->ut,wpAny_passesOwn->uu,pyNext->uv,binaryOp->ux,codeAny_mono->uz,Meets->uC,ItemsOf->uE,Paired->xI,lastMarks->xJ,sizeLine_eq->xM,wpAny_call->xO,typeLookup->xP,getItem->xQ,notedBy->xS,valueAt->xU,wpAny_callSpecial?_slot->xW,wpAny_call_entry->xX,wpAny_seqItems->xY,callerA->AS,tupleKind->A1,wpAny_Name->A5,wpAny_execs_nil->A7,PassesOwn->A8,bindArgs->Ba,sliceBounds->Bd,wpAny_attempt->Bi,codeAny_builtin->Bm,codeAmong->Bp,wpAny_standAt->Gp,subscripted->Gw,pushCells_keeps->GD,tupleKind_room_in1->GG,wpAny_pyIter_enum->GH,wpAny_rule->GN,wpAny_letGo->GO,plainId_quiet->GQ,IsEnumOut->GU,recursionLimit->Qs,Within->QO,wpAny_loadName_local->QR,letOwnedTupleGo->QT,wpAny_pyIter_list->QU,seqIndex_of->Q2,seqIndex_neg->Q3,wpAny_newObj_type->Rb,wpAny_specialOf->Re,boot_len->Rh,ExceptHandler->Rl,wpAny_newTuple->Rn,wpAny_of_eq->Ry,wpAny_isInstance->Rz,checkTypeCall->RB,checkBuiltinCall->RC,wpAny_typeOf->RF,wpAny_loadName_cell->abH,wpAny_loadName_free->abI,wpAny_isTrue_Compare1->abL,wpAny_pyNext_range_end->abN,wpAny_pyIter_rangeiter->abO,wpAny_letOwnedTupleGo_enum->ab0,codeAny_call_builtin->acp
open Fo renaming Tab->aN,classOf->aY,form->cC,rowOf->cH,keyOf->cR,hasKind->dX,between->em,apartOne->eB,isSyllable->fW,wrong->gu,nonzero->gU,lastSafe->ig,Dec->jg,Key->jh,isPoint->jr,recOf->jL,joint->jM,stretch->jN,before->kc,tripleOf->ke,codesOf->kf,Pair->kT,tooMuch->kU,safe->lS,ordered->nN,firstNot->nO,ROW->nP,elementsFrom->nQ,Cls->rq,isL->rA,isV->rB,pOf->rC,touches->rW,NOKEY->rY,apart->uo,findText->uq,settled->uF,clsRight->xr,NOCLS->xu,decRight->xy,pairRight->xz,keyRight->xA,weightRight->xB,partsOf->xC,isK->xD,putOne->xE,putOut->xF,keyAt->xG,NODEC->x8,Text->x9,implied->AU,compareTexts->Bw,orderTexts->Bx,insertMark->Gj,orderedBack->Gk,together->Gm,poolRight->G4,rowRight->G5,NOPAIR->G6,compose->QD,elements->QL,inOrder->RR,insertText->RX
open PySem.W renaming Frag->br,sub->gh,keepIn->jJ,findIn->kS,fnOf->rp,instObj->rG,isFn->xp,emptyDict->xK,plainGet->AR,plainGet_of->A9,mg_of->BB,codeIn->Gc,hasDictIn->Ge,makesIn->Gf,exmOne->Gg,lookIn->Gq,callWith_K->Gs,CodeHd->G8,plainOver->Qt,specialIn->Qu,takesIn->Qv,hideAll->QP,takerIn->QW,methodCall_KW->QY,callWith_K0->Q0,TopRead->R3,hideAll_get->abF,of_hideAll->abG,handedIn->abT,cellsFrom_some->abU,kas_swaps_map->acb,WRecords->acJ
open FoFormSeed renaming nats->bt,State->cJ,within->dF,points->gZ,TEXT->iE,step->iF,shaped->jS,long->ko,nums->kq,cut->mS,tabOf->n8,recordsIn->pK,SOUGHT->pL,weightOf->rX,levels->rZ,decOf->xZ,pairOf->Bs,clsOf->Bt,keyIn->Bu,sum->Bv,COME->R0
open Bool renaming false_ne_true->bE,and_eq_true->d0,eq_iff_iff->kh,false_eq_true->xT,or_false->AZ,noConfusion->Bz,or_assoc->G0,false_or->Rc,not_false->RJ,and_true->RL,and_assoc->abB,and_false->abK
open Ne renaming symm->bK
open PySem.Heap renaming get?_push_of_some->bL,lt_size->cu,get?_push_size->dL,size_push->gX,SameBut->jO,get?_update_self->Gy,get?_update_other->Q4,FlyingW->Rk,ExtBut->Rw,MadeExcOf->ab7,get?_update_ne->ab8
open Or renaming inr->bM,inl->cy
open Nat renaming le_refl->bR,ne_of_lt->ea,zero_le->fK,lt_of_lt_of_le->gf,le_trans->gI,ne_of_gt->lT,le_of_eq->lU,lt_irrefl->mL,min_eq_left->rD,le_add_right->uD,add_le_add_left->Bg,lt_or_ge->Gi,le_of_lt->Go,add_mul->G2,lt_succ_self->QX,le_of_succ_le->Q8,lt_succ_of_lt->Ra,lt_of_le_of_lt->Rf,zero_add->Rp,div_add_mod->RI,sub_self->RY,succ_ne_self->ab1,min_eq_right->acz
open List renaming range->bU,length_map->bZ,getElem?_eq_getElem->cI,mem_cons->ff,getElem?_set_ne->fu,mem_of_getElem?->fY,map_map->fZ,getElem?_eq_some_iff->gg,map_cons->gv,getD_eq_getElem?_getD->jf,all_eq_true->ji,length_cons->jj,mem_cons_of_mem->jk,replicate->jn,getElem?_map->jp,mem_append_right->jQ,length_append->kg,length->ki,nodup_cons->kW,mem_range->lQ,drop_eq_getElem_cons->lR,size_toArray->lW,map_append->lZ,drop_of_length_le->l4,take_of_length_le->mJ,mem_map->mK,lookup_cons->mQ,set->mR,pairwise_cons->nM,any_cons->nR,append_nil->nY,all_cons->nZ,getElem?_set_self->pD,mem_cons_self->pG,filter_cons->rE,find?_cons->um,lookup->uy,map_congr_left->uA,find?_eq_none->xq,getElem?_eq_none->xt,cons_append->xw,reverse_cons->xx,mem_append->xH,getElem?_of_mem->AT,take_append_drop->AV,range_succ->AW,getElem?_append_left->AX,any_eq_true->AY,mem_append_left->A3,length_take->Bb,drop_length->Bh,length_range->Bk,map_drop->Bq,of_mem_zip->Gu,range_succ_eq_map->GA,any_map->GB,zip_cons_cons->GI,getElem?_range->GP,not_mem_nil->GX,take_add_one->GZ,map_take->G1,all_nil->G3,take_length->G7,nil_append->Qy,mem_of_find?_eq_some->Qz,foldl_cons->QB,findSome?_cons->QE,length_pos_iff->QF,length_eq_zero_iff->QG,take_take->QI,any_nil->QJ,mem_filter->QK,filterMap_cons->QQ,mem_filterMap->QV,all_map->Q7,ext_getElem?->Rg,toList_toArray->Ro,map->Rt,getElem?_append_right->RG,length_drop->RH,map_reverse->RN,find?_map->RP,append_assoc->RT,drop_zero->RU,range'->RW,find?_some->abx,drop_take->aby,length_singleton->abz,reverse_append->abA,take_sublist->abW,nodup_nil->abZ,filter_map->ace,getElem_mem->acf,pairwise_iff_getElem->acg,mapM_toArray->acv,drop_drop->acA,length_filter_le->acB,not_any_eq_all_not->acD,map_inj_right->acE,getElem?_zipIdx->acK
open Sum renaming inl->dW,inr->A0
open PySem.Value renaming ref->d9,int->pB,bool->pC,type->rF,str->Gn,none->QM,isStrOf->abC
open PyProof.Rows renaming SortSt->eF,Keyed->fh,seqObj->fy,IsTupIter->gi,IsTup->gV,envOfC->gY,IntsAre->kj,oneType'->kX,arrOf->pH,AllBare->rJ,callWith_type1->uw,failedOf->xV,iter_tuple->Bo,Subscript_->Gv,sortRuns'->GK,listUpdate_at->GL,slot_tupleiter_next->GS,Constant_none->QS,get?_update_seq->Rm,iadd_int->abM,lt_int->abR,subscriptTail_builtinR->abY,boot_list->ab3,entry_tupleiter_next->ack,args_tupleiter_next->acl,callWith_kw->acx
open Option.some renaming inj->eR
open Prod renaming fst->fL,snd->gj
open PySem.Obj renaming mapSeq->jo,data_mapFields->acm
open PyWqadbc renaming shape->js,answers->r8,answers_asked->Ha,whole->acG,calls->acI
open PySem.PassesOwn renaming never->jT
open False renaming elim->mO
open FormNeutral renaming step->mT,asked1->G9,start->acH
open PySem.Str renaming ofString->n4
open PyFlat renaming rows->n9,calls->pM,told->uG,played->uH,call->ya
open Array renaming toList_map->pI,getElem?_toList->Bl,ext'->Rq,back?->Rs,mem_toList_iff->abS,size_map->aca,length_toList->acu,toList_append->acF
open PySem.Builtin.Range renaming rangeSize->rM,small->Bf
open PyProof.Rows.SortSt renaming mk'->rS
open Int renaming toNat_natCast->rT,toNat_of_nonneg->RZ,natCast_ediv->acC
open Iff renaming rfl->rV
open PySem.PyData renaming int->uB,eqvAll->Rj,canLayAll0->ab4,depthAll->ab5
open True renaming intro->xN
open PySem.NameKind renaming free->xR,cell->Q9
open Option renaming isSome_map->Be,map_eq_some_iff->Gz,map_some->QC,some_or->QH,map_map->RQ,isSome_iff_exists->abV
open PySem.Ctx renaming of->Bj
open List.cons renaming inj->By
open PySem.W.WData renaming int->BA
open PySem.Challenge renaming rw_formorder_s01_answers->Gh
open PySem.SeqAt renaming shaped->GC,EqAt->Q1
open ForInStep renaming yield->GF
open PySem.F renaming plainAttrs_list->GJ,slot_enumerate_next->GV,slot_zip_next->GY,slot_list_append->Q6,slot_list_extend->Ri,slot_list_lt->Ru,called_enumerate->RD,type_list_append->ab6,entry_list_lt->aci,args_list_lt_2->acj,entry_enumerate_next->acn,args_enumerate_next_1->aco,args_zip_next_1->acq,plain_list_iadd->acw,type_list_extend->acy
open PySem.Builtin.SmallTypes renaming nextOf->GR,ownedTupleIsFree->aeJ,ownedTupleHandOut->aeK
open PySem.Shared renaming heap->GW
open List.Pairwise renaming nil->Qw,cons->Qx
open Fo.Out renaming all->QA
open PySem.Paired renaming length->QN
open PySem.Calls renaming spliced_cons->QZ,Name_function_global->abJ
open PySem.Builtin.List renaming listTooLong->Q5,listExtendWith->acr,listSameRef->acs,listItems->act
open PySem.Heap.SameBut renaming update->Rv
open PySem.SeqAt.EqAt renaming int_str->abD,str_int->abE,int_int->abX
open PySem.IsRange renaming new->abP
open PyProof renaming noPylong_small->abQ
open Sum.inl renaming inj->ab2
open StateT renaming run_bind->ab9
open List.Perm renaming refl->acd
open PySem.Around renaming under_plainId->ach
open Std.Legacy.Range renaming forIn_eq_forIn_range'->aeI
def ax:=@if_pos
def ay:=@if_neg
def bw:=@absurd
def bz:=@congrArg
def eE:=@beq_iff_eq
def gT:=@decide_eq_true
def iC:=@decide_eq_false
def jq:=@decide_eq_decide
def jK:=@decide_eq_true_eq
def xL:=@beq_eq_false_iff_ne
section
namespace L2
open PySem PySem.Spec PyProof.Rows
structure bO(k:Nat)(A:cG):Prop where
 hd:A.handled=none
 dp:A.depth+3*k+5<Qs
 un:A.units+16*k+200<dU
abbrev inClass(s:dm)(j:Nat):dm:=match s with|.ClassDef _ _ _ a _ _ _ _ _ _ _=>a.getD j (.Pass ⟨0,0,0,0⟩)|_=>.Pass ⟨0,0,0,0⟩
abbrev r9(s:dm):rn:=match s with|.FunctionDef _ a _ _ _ _ _ _ _ _=>a|_=>{posonlyargs:=[],args:=[],vararg:=none,kwonlyargs:=[],kw_defaults:=[],kwarg:=none,defaults:=[]}
abbrev g7(s:dm):List dm:=match s with|.FunctionDef _ _ b _ _ _ _ _ _ _=>b|_=>[]
abbrev bx(s:dm):fe:=match s with|.FunctionDef _ _ _ _ _ _ sc _ _ _=>sc|_=>{kind:=.function,names:=[],isGenerator:=false,isCoroutine:=false}
end L2
namespace FO
open PySem PySem.Spec PyProof.Rows L2
open PySem.W(Frag nsIn)
abbrev top(i:Nat):dm:=PySem.Challenge.pw_formorder_s01_answers.main.body.getD i (.Pass ⟨0,0,0,0⟩)
abbrev BC:List ag:=["len","any","all","range","list","sorted","zip","enumerate","min","sum","reversed","tuple"]
abbrev cO(s:ag)(n:Int):ag×Int:=(s,n)
abbrev bq(s:ag)(n:Nat):ag×Nat:=(s,n)
abbrev BD:List (ag×Int):=[cO "LAST_CODE_POINT" 1114111,cO "FIRST_SURROGATE" 55296,cO "LAST_SURROGATE" 57343,cO "FIRST_SYLLABLE" 44032,cO "LAST_SYLLABLE" 55203,cO "FIRST_LEAD" 4352,cO "LAST_LEAD" 4370,cO "FIRST_VOWEL" 4449,cO "LAST_VOWEL" 4469,cO "FIRST_TAIL" 4520,cO "LAST_TAIL" 4546,cO "VOWELS" 21,cO "TAILS" 28,cO "NO_TAIL" 4519,cO "STRICT" 0,cO "LOOSE" 1,cO "MOST_IN_TEXT" 100,cO "MOST_LENGTHS" 100,cO "MOST_IN_SEARCH" 30,cO "MOST_RECORDS" 128,cO "MOST_STANDING" 16,cO "MOST_COME" 200,cO "CALL_TABLES" 1,cO "CALL_FORM" 2,cO "CALL_IS" 3,cO "CALL_SAME" 4,cO "CALL_JOIN" 5,cO "CALL_OPEN" 6,cO "CALL_PUT" 7,cO "CALL_END" 8,cO "CALL_KEY" 9,cO "CALL_CMP" 10,cO "CALL_ORDER" 11,cO "LONGEST_KEY" 3,cO "LEVEL_SIGN" 1,cO "FIRST_UNKEYED" 64320,cO "UNKEYED_BLOCK" 32768,cO "UNKEYED_SECOND" 32,cO "UNKEYED_THIRD" 2,cO "BEFORE" 1,cO "ALIKE" 2,cO "BEHIND" 3]
abbrev BE:List (ag×Nat×List Int):=[("RECORD_SIZES",160,[1,4,3,3,6,3]),("GREATEST_NUMBERS",330,[4294967295,4294967295,4294967295,4294967295,4294967295,65535])]
abbrev oa:List ag:=["Dec","Pair","Marks","Key","Weight","Tables","Pieces","Call","Reader","Desk","Step","Trail"]
abbrev oh:List (List ag):=[["code","kind","at","n","row","rank"],["a","b","c","rank"],["first","last","cls"],["n","at","count","codes","rank"],["p","s","u"],["pool","decs","pairs","marks","weighed","weights","strict","loose","wholes","seconds","weights_by_codes"],["form","come","settled","told","too_much","ended"],["number","arguments","rows"],["numbers","place"],["tables","pieces"],["length","weights"],["tables","codes","steps"]]
abbrev yb:List ag:=["WrongArgument","NoPieces","WrongCodePoint","TooMuchStands","NothingToFind","EndHasCome","TooManyCome"]
abbrev pN:List (ag×Nat):=[bq "is_code_point" 15,bq "is_syllable" 16,bq "is_lead" 17,bq "is_vowel" 18,bq "is_tail" 19,bq "touches_syllables" 20,bq "syllable_parts" 21,bq "syllable_of" 22,bq "empty_tables" 41,bq "records_of" 42,bq "rows_of_kind" 43,bq "wholes_by_parts" 44,bq "seconds_of_pairs" 45,bq "weights_by_keys" 46,bq "check_form" 53,bq "check_apart_form" 54,bq "check_level" 55,bq "check_back" 56,bq "check_texts" 57,bq "check_sizes" 58,bq "check_codes" 59,bq "check_lengths" 60,bq "check_search" 61,bq "check_rows" 62,bq "is_loose_form" 64,bq "is_together_form" 65,bq "form_of" 66,bq "apart" 67,bq "parts_of" 68,bq "first_part" 69,bq "put_in_order" 70,bq "together" 71,bq "reaches_base" 72,bq "whole_of" 73,bq "check_going_on" 78,bq "put_piece" 79,bq "end_pieces" 80,bq "take_code" 81,bq "put_out" 82,bq "is_safe" 83,bq "first_broken" 100,bq "first_wrong" 101,bq "is_plain_code" 102,bq "rises" 103,bq "pool_holds" 104,bq "marks_hold" 105,bq "dec_holds" 106,bq "dec_row_holds" 107,bq "strict_row_holds" 108,bq "loose_row_holds" 109,bq "classes_agree" 110,bq "is_in_order" 111,bq "pair_holds" 112,bq "key_holds" 113,bq "weight_holds" 114,bq "step_from" 124,bq "unkeyed_weights" 125,bq "key_of" 126,bq "key_of_weights" 127,bq "weighs_nothing" 128,bq "find_stretch" 130,bq "is_joint" 131,bq "starts_in_trail" 132,bq "compare" 137,bq "numbers_by_key" 138,bq "cut_text" 139,bq "answers" 142,bq "answer_call" 143,bq "answer_taken" 144,bq "answer_of_forms" 145,bq "answer_of_pieces" 146,bq "answer_of_keys" 147,bq "answer_tables" 148,bq "answer_form" 149,bq "answer_is" 150,bq "answer_same" 151,bq "answer_join" 152,bq "answer_open" 153,bq "answer_put" 154,bq "answer_end" 155,bq "answer_key" 156,bq "answer_cmp" 157,bq "answer_order" 158,bq "answer_find" 159]
abbrev mU:List (Nat×ag×ag×Nat×Nat):=[(0,"__init__","Dec.__init__",35,0),(1,"__init__","Pair.__init__",36,0),(2,"__init__","Marks.__init__",37,0),(3,"__init__","Key.__init__",38,0),(4,"__init__","Weight.__init__",39,0),(5,"__init__","Tables.__init__",40,0),(5,"class_of","Tables.class_of",40,1),(6,"__init__","Pieces.__init__",77,0),(7,"__init__","Call.__init__",97,0),(8,"__init__","Reader.__init__",98,0),(8,"has_more","Reader.has_more",98,1),(8,"take_number","Reader.take_number",98,2),(8,"take_row","Reader.take_row",98,3),(8,"take_call","Reader.take_call",98,4),(10,"__init__","Step.__init__",122,0),(11,"__init__","Trail.__init__",123,0),(11,"step_within","Trail.step_within",123,1),(11,"weights_between","Trail.weights_between",123,2),(9,"__init__","Desk.__init__",141,0)]
abbrev fT:List (ag×ag×dm):=pN.map (λe=>(e.1,e.1,top e.2))++mU.map λe=>(e.2.1,e.2.2.1,inClass (top e.2.2.2.1) e.2.2.2.2)
abbrev yc(K:Frag)(f:af):bu:=(K.lookup f).getD ⟨.none,none,.plain,#[]⟩
abbrev pO(K:Frag)(f:af):eQ:=match(yc K f).data with|.func a=>a|_=>default
abbrev Hb(K:Frag)(f:af)(e:ag×ag×dm):bu:=⟨(yc K f).cls,(yc K f).dict,.func (rp e.1 e.2.1 (r9 e.2.2) (g7 e.2.2) (bx e.2.2) .none (pO K f).kwdefaults (pO K f).doc (pO K f).pyModule (pO K f).annotations (pO K f).code (pO K f).closureTuple),(yc K f).slots⟩
abbrev BF(K:Frag)(f:af)(q:ag):Bool:=Gc K (pO K f).code q&&(jJ K (.ref f)&&xp K (.ref f))
abbrev yd(K:Frag)(C:af):Bool:=AR K C Str.empty&&(Ge K C&&(Qt K C&&(kS K (.ref C) "__setattr__"==some (some (.builtin "object.__setattr__"))&&(Gf K C&&jJ K (.ref C)))))
abbrev BG(K:Frag)(C:af)(m:ag)(f:af):Bool:=kS K (.ref C) m==some (some (.ref f))
abbrev uI(c:Nat):af:=([177,198,219,240,261,287,479,555,602,839,716,749]:List Nat).getD c 0
abbrev kr(t:Nat):af:=if t=900 then 812 else([21,28,35,42,49,54,61,68,296,301,308,315,322,329,337,344,351,358,365,370,375,380,387,392,399,406,413,420,427,434,441,448,455,462,490,497,504,511,518,525,613,620,627,634,641,648,655,662,667,672,677,682,687,692,699,760,767,774,779,784,789,796,803,810,815,822,850,857,864,871,878,885,892,899,906,913,920,927,934,941,948,955,962,969,174,195,216,237,258,277,284,476,552,573,580,587,594,599,713,732,739,746,836]:List Nat).getD t 0
abbrev Hd:List Nat:=[78,91,104,117,130,143,156]
abbrev sd(c:Nat):aj:=.ref (Hd.getD c 0)
abbrev l5(K:Frag):Frag:=K.filter λp=>p.1!=526
abbrev ye:List aj->List Int->Bool|[],[]=>true|.int i _::r,j::s=>i==j&&ye r s|_,_=>false
abbrev yf(K:Frag)(a:af)(l:List Int):Bool:=match K.lookup a with|some o=>(o.cls==.type "tuple")&&(match o.data with|.seq its _=>ye its.toList l|_=>false)|none=>false
abbrev BH(K:Frag)(x:ag)(i:Int):Bool:=match nsIn K iB x with|some (some (.int j _))=>j==i|_=>false
abbrev se:List (Int×Nat×Nat×Nat):=[(1,527,0,6),(2,528,1,1),(3,529,1,1),(4,530,1,2),(5,531,1,2),(6,532,1,0),(7,533,0,1),(8,534,0,0),(9,535,2,1),(10,536,2,2),(11,537,2,2),(12,538,1,2)]
structure Facts(K:Frag):Prop where
 ck:(fT.zipIdx.all λe=>BF K (kr e.2) e.1.2.1)=true
 lk:(fT.zipIdx.map λe=>K.lookup (kr e.2))=fT.zipIdx.map λe=>some (Hb K (kr e.2) e.1)
 ns:(pN.zipIdx.all λe=>nsIn K iB e.1.1==some (some (.ref (kr e.2))))=true
 cn:(oa.zipIdx.all λe=>nsIn K iB e.1==some (some (.ref (uI e.2)))&&yd K (uI e.2))=true
 mt:(mU.zipIdx.all λe=>BG K (uI e.1.1) e.1.2.1 (kr (e.2+84)))=true
 bn:(BC.all λx=>nsIn K iB x==some none)=true
 co:(BD.all λe=>BH K e.1 e.2)=true
 tu:(BE.all λe=>nsIn K iB e.1==some (some (.ref e.2.1))&&(yf K e.2.1 e.2.2&&decide (e.2.2.length<=1000)))=true
 na:(oh.zipIdx.all λe=>e.1.all λf=>kS K (.ref (uI e.2)) f==some none)=true
 xc:(yb.zipIdx.all λe=>nsIn K iB e.1==some (some (sd e.2))&&PySem.W.excIn K (Hd.getD e.2 0) [.type "Exception",.type "BaseException",.type "object"] "Exception.__new__")=true
 xm:((bU 7).all λi=>(bU 7).all λj=>Gg K (sd i) (sd j)==some (decide (i=j)))=true
 bm:(Qu K (.ref (kr 90)) "__get__"==some (some (.builtin "function.__get__"))&&Qv K (.ref (kr 90))==some false)=true
 sh:(se.all λe=>yf K e.2.1 [(e.2.2.1:Int),(e.2.2.2:Int)])=true
 sn:nsIn K iB "CALL_SHAPES"=some (some (.ref 526))
 ls:(K.all λp=>p.2.cls !=.type "list"&&(p.1!=526&&(p.1!=812)))=true
abbrev BI(e:DictEntry)(s:Int×Nat×Nat×Nat):Bool:=match e.key,e.val with|.int i _,.ref a=>i==s.1&&(a==s.2.1&&e.hash==hashInt i)|_,_=>false
abbrev yg:List DictEntry->List (Int×Nat×Nat×Nat)->Bool|[],[]=>true|e::a,s::ss=>BI e s&&yg a ss|_,_=>false
abbrev uJ(o:bu):Bool:=o.cls==.type "dict"&&(o.dict==none&&(o.slots.size==0&&(match o.data with|.dict a _=>yg a.toList se|_=>false)))
abbrev WT:Prop:=∀{q:bA} {a:List ag} {c:(ag->Option aj)->aZ->Prop} {b:bB->aZ->Prop} {d:DefRec} {K:Params->br},d.name="answers"->bO 14 AS->Gh.wellSaid=true->(∀(w:bB) (h:aZ),b w h->(K w.params).In h)->((recsOf q).find? λe=>e.name==("numbers_by_key":ag)).isSome=true->(∀p,PySem.W.tabIn (K p) "numbers_by_key"=some (814,812))->(∀p,((K p).lookup 526).any uJ=true)->(∀p,Facts (l5 (K p)))->PySem.W.WalkOS q a c b Gh d [] (λf vs=>PySem.call f vs)
end FO
end
section
open PySem PySem.W PyProof.Rows
theorem FO.hd(H:FO.WT):Gh.Holds:=by
 refine' And.right ⟨?hc,?m⟩;case m=>w_on;k_headS;exact⟨[.list [.int 8]],by decide+kernel,by decide+kernel⟩
 refine H rfl ⟨rfl,by decide,by decide⟩ (by decide+kernel) (λw h Y=>PySem.W.kIn_of Y) (by kernel_rfl) (λp=>by kernel_rfl) (λp=>by kernel_rfl) λp=>?_;constructor;all_goals kernel_rfl
end
namespace FO
abbrev pP(l:List rq):Prop:=l.Pairwise (λa b=>a.last<b.first)/\∀r∈l,r.first<=r.last/\1<=r.cls/\r.cls<=254
abbrev clsIn(l:List rq)(c:Nat):Nat:=match l.find? λ(r:rq)=>em r.first r.last c with|some r=>r.cls|none=>0
def R4(t:aN)(c:Nat):aY t c=clsIn t.cls c:=rfl
def He:∀(l:List rq)(c lo:Nat),pP l->(∀j r,j<lo->l[j]?=some r->r.last<c)->(∀r,l[lo]?=some r->c<=r.last)->clsIn l c=match l[lo]?with|some r=>if r.first<=c then r.cls else 0|none=>0
 |[],c,lo,_,_,_=>by rfl
 |r::l,c,0,a,_,b=>by
  haveI f:=b r (by rfl);haveI h:=nM.mp a.1;by_cases hf:r.first<=c;·simp[clsIn,em,hf,f]
  ·haveI i:l.find? (λr=>em r.first r.last c)=none:=by rw[xq];intro s d;haveI:=h.1 s d;simp[em];omega
   simp[clsIn,em,hf,f];rw[xq.mpr (by simpa[em]using i)]
 |r::l,c,lo+1,a,g,b=>by
  haveI m:=g 0 r (by lia) (by rfl);haveI n:=He l c lo ⟨(nM.mp a.1).2,λs d=>a.2 s (by simp[d])⟩ (λj s o e=>g (j+1) s (by omega) (by simp_all)) (λs e=>b s (by simp_all));haveI:clsIn (r::l) c=clsIn l c:=by
   haveI k:em r.first r.last c=false:=by simp[em];omega
   simp only[clsIn,um,k]
  simp_all
def uK{e:Type}(R:e->e->Prop)(g:∀a b c,R a b->R b c->R a c):∀l:List e,(∀i a b,l[i]?=some a->l[i+1]?=some b->R a b)->l.Pairwise R
 |[],_=>Qw|[a],_=>by grind
 |a::b::l,h=>by
  have j:=uK R g (b::l) λi x y k m=>h (i+1) x y (by simpa using k) (by simpa using m);refine Qx (λc f=>?_) j;have d:=h 0 a b (by rfl) (by rfl);rcases ff.mp f with rfl|f;·exact d
  ·exact g _ _ _ d ((nM.mp j).1 c f)
def Hf(t:aN)(h:∀i,i<t.cls.length->xr t i=true):pP t.cls:=by
 have d:∀i r,t.cls[i]?=some r->(r.first<=r.last/\1<=r.cls/\r.cls<=254)/\∀q,0<i->t.cls[i-1]?=some q->q.last<r.first:=by
  intro i r e;have f:i<t.cls.length:=by
   rcases Gi i t.cls.length with z|z;·exact z
   ·rw[xt z]at e;contradiction
  haveI:=h i f;have j:t.cls.getD i xu=r:=by rw[jf,e];rfl
  unfold xr at this;rw[j]at this;simp[em]at this;refine⟨by lia,λq k l=>?_⟩;rw[l]at this;simp at this;lia
 have m:∀r∈t.cls,r.first<=r.last/\1<=r.cls/\r.cls<=254:=λr n=>by obtain⟨i,f⟩:=AT n;exact(d i r f).1
 refine⟨?_,m⟩;have:t.cls.Pairwise (λa b:rq=>a.last<b.first/\a.first<=a.last/\b.first<=b.last):=by refine uK _ (λa b c s u=>by lia) _ λi a b g o=>?_;have v:=(d i a g).1;have p:=d (i+1) b o;haveI:=p.2 a (by lia) (by simpa using g);lia
 exact this.imp λz=>z.1
section
variable(t:aN)
abbrev eS(c:Nat):List Nat->List Nat|[]=>[c]|x::r=>if aY t c<=aY t x then c::x::r else x::eS c r
abbrev fN(l:List Nat):List Nat:=l.foldr (eS t) []
abbrev gk(c:Nat):List Nat->List Nat|[]=>[c]|y::s=>if aY t c<aY t y then c::y::s else y::gk c s
def Hg(x c:Nat):∀s,eS t x (gk t c s)=gk t c (eS t x s)
 |[]=>by
  by_cases h:aY t x<=aY t c
  ·have:¬aY t c<aY t x:=by lia
   simp[eS,gk,h,this]
  ·have:aY t c<aY t x:=by lia
   simp[eS,gk,h,this]
 |y::s=>by
  have e:=Hg x c s;by_cases a:aY t c<aY t y<;>by_cases b:aY t x<=aY t y<;>by_cases d:aY t x<=aY t c
  ·have:¬aY t c<aY t x:=by lia
   simp[eS,gk,a,b,d,this]
  ·have:aY t c<aY t x:=by lia
   simp[eS,gk,a,b,d,this]
  ·lia
  ·simp[eS,gk,a,b,d]
  ·have:¬aY t c<aY t x:=by lia
   simp[eS,gk,a,b,this]
  ·lia
  ·simp[eS,gk,a,b,e]
  ·simp[eS,gk,a,b,e]
def Hh(c:Nat):∀l,fN t (l++[c])=gk t c (fN t l)|[]=>rfl|x::l=>by show eS t x (fN t (l++[c]))=gk t c (eS t x (fN t l));rw[Hh c l,Hg]
def Hj(c y:Nat):∀s,y∈eS t c s↔y=c\/y∈s
 |[]=>by simp[eS]
 |x::s=>by
  unfold eS;split;·simp
  ·rw[ff,Hj c y s];grind
def Hk(c:Nat):∀s,(eS t c s).length=s.length+1
 |[]=>rfl
 |x::s=>by
  unfold eS;split;·rfl
  ·simp[Hk c s]
def sg:∀l,(fN t l).length=l.length|[]=>rfl|x::l=>by show(eS t x (fN t l)).length=_;rw[Hk,sg l];rfl
def Hl(c:Nat):∀s,s.Pairwise (λa b=>aY t a<=aY t b)->(eS t c s).Pairwise (λa b=>aY t a<=aY t b)
 |[],_=>by simp[eS]
 |x::s,h=>by
  have e:=nM.mp h;unfold eS;split;·refine Qx (λz d=>?_) h;grind
  ·refine Qx (λz d=>?_) (Hl c s e.2);rcases(Hj t c z s).mp d with rfl|d;·lia
   simp_all
def Hm:∀l,(fN t l).Pairwise (λa b=>aY t a<=aY t b)|[]=>Qw|x::l=>Hl t x _ (Hm l)
def Hn(c z:Nat)(h:aY t c<aY t z):∀s,gk t c (s++[z])=gk t c s++[z]
 |[]=>by simp[gk,h]
 |y::s=>by
  simp only[xw,gk];split;·rfl
  ·simp[Hn c z h s]
def Ho(c:Nat):∀s,(∀y∈s,¬aY t c<aY t y)->gk t c s=s++[c]|[],_=>rfl|y::s,h=>by rw[gk,ay (h y (by simp)),xw];rw[Ho c s λz a=>h z (by simp[a])]
def Hq(c:Nat)(d:List Nat)(f:d=[]\/∃z g,d=z::g/\¬aY t c<aY t z):∀r:List Nat,r.Pairwise (λa b=>aY t b<=aY t a)->Gj t c (r++d)=(gk t c r.reverse).reverse++d
 |[],_=>by
  rcases f with rfl|⟨z,g,rfl,h⟩;·rfl
  ·simp[Gj,gk,h]
 |z::r,h=>by
  haveI i:=nM.mp h;by_cases e:aY t c<aY t z;·rw[xw,Gj,ax e,xx,Hn t c z e];rw[Hq c d f r i.2];grind
  ·rw[xw,Gj,ay e];rw[Ho];·grind
   grind
abbrev gl:List Nat->List Nat->List Nat->List Nat|d,s,[]=>d++fN t s|d,s,c::r=>if 0<aY t c then gl d (s++[c]) r else gl (d++fN t s++[c]) [] r
def BJ:∀(x d s:List Nat),(d=[]\/∃z a,d.reverse=z::a/\aY t z=0)->(Gk t ((fN t s).reverse++d.reverse) x).reverse=gl t d s x
 |[],d,s,_=>by simp[Gk,gl]
 |c::x,d,s,g=>by
  unfold Gk gl;by_cases b:aY t c=0
  ·have f:¬0<aY t c:=by lia
   rw[ax b,ay f];haveI:=BJ x (d++fN t s++[c]) [] (.inr ⟨c,(fN t s).reverse++d.reverse,by simp,b⟩);rw[<-this];simp[fN]
  ·have f:0<aY t c:=by lia
   rw[ay b,ax f,<-BJ x d (s++[c]) g,Hh];rw[Hq];·simp
   ·rcases g with rfl|⟨z,a,e,h⟩;·exact .inl rfl
    ·exact .inr ⟨z,a,e,by lia⟩
   ·exact List.pairwise_reverse.mpr (Hm t s)
def uL(x:List Nat):nN t x=gl t [] [] x:=by rw[<-BJ t x [] [] (.inl rfl)];rfl
def BK:∀(x d s:List Nat),(gl t d s x).length=d.length+s.length+x.length
 |[],d,s=>by simp[gl,sg]
 |c::x,d,s=>by
  unfold gl;split;·rw[BK x];simp;lia
  ·rw[BK x];simp[sg];lia
def yh(x:List Nat):(nN t x).length=x.length:=by rw[uL,BK];simp
def yi(e:List Nat):∀(x d s:List Nat),gl t (e++d) s x=e++gl t d s x
 |[],d,s=>by simp[gl]
 |c::x,d,s=>by
  unfold gl;split;·exact yi e x d _
  ·have:=yi e x (d++fN t s++[c]) [];simpa using this
def BL(y:List Nat)(a:y=[]\/∃c r,y=c::r/\aY t c=0):∀(x d s:List Nat),gl t d s (x++y)=gl t d s x++gl t [] [] y
 |[],d,s=>by
  rcases a with rfl|⟨c,r,rfl,e⟩;·simp[gl,fN]
  ·have b:¬0<aY t c:=by omega
   simp only[Qy,gl,ay b];have:=yi t (d++fN t s) r [c] [];have f:=yi t [] r [c] [];simp[fN]at this⊢
   exact this
 |c::x,d,s=>by
  simp only[xw,gl];split;·exact BL y a x d _
  ·exact BL y a x _ _
def R5(x y:List Nat)(a:y=[]\/∃c r,y=c::r/\aY t c=0):nN t (x++y)=nN t x++nN t y:=by rw[uL,uL,uL,BL t y a]
end
section
variable(t:aN)
structure eU:Prop where
 up:t.dec.Pairwise (λa b:jg=>a.code<b.code\/a.code=b.code/\a.kind<b.kind)
 all:∀d∈t.dec,d.kind<=1/\1<=d.n/\d.n<=4/\d.at_+d.n<=t.pool.length
structure kt:Prop where
 up:t.pair.Pairwise (λa b:kT=>a.a<b.a\/a.a=b.a/\a.b<b.b)
 all:∀p∈t.pair,¬(rA p.a=true/\rB p.b=true)/\fW p.a=false
structure kZ:Prop where
 up:t.key.Pairwise (λa b:jh=>kc a.code b.code=true)
 all:∀k∈t.key,1<=k.n/\k.n<=3/\(∀c∈k.code.drop k.n,c=0)/\k.at_+k.count<=t.weight.length/\k.count<=4
structure sk:Prop where all:∀w∈t.weight,rC w<65536/\rC w≠1/\Fo.sOf w≠1/\Fo.uOf w≠1
def pQ(h:nO n p=none):∀i,i<n->p i=true:=λi a=>by have:=xq.mp h i (lQ.mpr a);lia
def pR{b:Type}{l:List b}{a d:b}(h:l[i]?=some a):l.getD i d=a:=by simp_all
def jt{b:Type}{l:List b}{a:b}(h:l[i]?=some a):i<l.length:=by grind
def Hr(h:∀i,i<t.dec.length->xy t i=true):eU t:=by
 have f:∀i d,t.dec[i]?=some d->(d.kind<=1/\1<=d.n/\d.n<=4/\d.at_+d.n<=t.pool.length)/\∀e,0<i->t.dec[i-1]?=some e->(e.code<d.code\/e.code=d.code/\e.kind<d.kind):=by intro i d e;haveI:=h i (jt e);unfold xy at this;rw[pR e]at this;simp only[d0,em,nP,jK]at this;obtain⟨-,-,-,k,g,j,l⟩:=this;refine⟨⟨k,j.1,of_decide_eq_true j.2,l⟩,λq m o=>?_⟩;rw[pR o]at g;simp at g;lia
 refine⟨uK _ (λa b c v w=>by lia) _ λi a b p r=>(f (i+1) b r).2 a (by lia) (by simpa using p),λd s=>?_⟩;obtain⟨i,u⟩:=AT s;exact(f i d u).1
def R6(h:∀i,i<t.pair.length->xz t i=true):kt t:=by
 have j:∀i d,t.pair[i]?=some d->(¬(rA d.a=true/\rB d.b=true)/\fW d.a=false)/\∀e,0<i->t.pair[i-1]?=some e->(e.a<d.a\/e.a=d.a/\e.b<d.b):=by
  intro i d e;haveI:=h i (jt e);unfold xz at this;rw[pR e]at this;simp only[d0]at this;obtain⟨f,g,k,-⟩:=this;refine⟨⟨λz=>by simp[z.1,z.2]at k,?_⟩,λq l m=>?_⟩;·simp at f;exact f.1.2
  ·rw[pR m]at g;simp at g;lia
 refine⟨uK _ (λa b c f g=>by lia) _ λi a b n o=>(j (i+1) b o).2 a (by lia) (by simpa using n),λd p=>?_⟩;obtain⟨i,r⟩:=AT p;exact(j i d r).1
def Hs:∀(a b c:List Nat),kc a b=true->kc b c=true->kc a c=true
 |[],_,_,h,_=>by assumption|_::_,[],_,h,_=>by simp[kc]at h|_::_,_::_,[],_,h=>by assumption
 |x::a,y::b,z::c,d,e=>by
  simp[kc]at d e⊢
  rcases d with d|⟨d,f⟩<;>rcases e with e|⟨e,g⟩;·lia
  ·lia
  ·lia
  ·right;exact⟨by lia,Hs a b c f g⟩
def Ht:∀a:List Nat,kc a a=false|[]=>rfl|x::a=>by simp[kc,Ht a]
def R7(h:∀i,i<t.key.length->xA t i=true):kZ t:=by
 have k:∀i d,t.key[i]?=some d->(1<=d.n/\d.n<=3/\(∀c∈d.code.drop d.n,c=0)/\d.at_+d.count<=t.weight.length/\d.count<=4)/\∀e,0<i->t.key[i-1]?=some e->kc e.code d.code=true:=by
  intro i d e;haveI:=h i (jt e);unfold xA at this;rw[pR e]at this;simp only[d0]at this;obtain⟨g,l,o,f,m,j⟩:=this;simp[em]at g m;have j:d.count<=4:=of_decide_eq_true j;refine⟨⟨g.1,g.2,λc p=>?_,m,j⟩,λq r s=>?_⟩;·simpa using ji.mp o c p
  ·rw[pR s]at f;simp at f;rcases f with f|f;·lia
   ·exact f
 refine⟨uK (λa b:jh=>kc a.code b.code=true) (λa b c g l=>Hs _ _ _ g l) _ λi a b u v=>(k (i+1) b v).2 a (by lia) (by simpa using u),λd w=>?_⟩;obtain⟨i,x⟩:=AT w;exact(k i d x).1
def R8(h:∀i,i<t.weight.length->xB t i=true):sk t:=by refine⟨λw a=>?_⟩;obtain⟨i,b⟩:=AT a;have:=h i (jt b);unfold xB at this;simp_all
structure R9:Prop where
 cls:pP t.cls
 dec:eU t
 pair:kt t
 key:kZ t
 wt:sk t
def right_of(h:gu t=none):R9 t:=by
 delta gu at h;split at h<;>try contradiction
 rename_i f a b g c d e;exact⟨Hf t (pQ a),Hr t (pQ b),R6 t (pQ c),R7 t (pQ d),R8 t (pQ e)⟩
def yj{c:Type}{R:c->c->Prop}(p:c->Bool):∀l:List c,l.Pairwise R->(∀a b,R a b->¬(p a=true/\p b=true))->l.reverse.find? p=l.find? p|[],_,_=>rfl|a::l,f,h=>by have e:=nM.mp f;simp only[xx,List.find?_append,yj p l e.2 h,um];cases d:p a with|false=>cases g:l.find? p<;>simp[d,g]|true=>have:l.find? p=none:=xq.mpr λb i z=>h a b (e.1 b i) ⟨d,z⟩;simp[this,d]
def Sa(e:eU t)(c k:Nat):(t.dec.filter λd:jg=>d.kind==k).reverse.find? (λd:jg=>d.code==c)=jL t c k:=by
 rw[<-List.filter_reverse,List.find?_filter];haveI f:(λa:jg=>decide ((a.kind==k)=true/\(a.code==c)=true))=λd:jg=>d.kind==k&&d.code==c:=by funext a;cases a.kind==k<;>cases a.code==c<;>rfl
 rw[f];haveI:=yj (λd:jg=>d.kind==k&&d.code==c) t.dec e.up (λa b h z=>by simp_all);rw[this];congr 1;grind
def Sb(a:eU t)(h:d∈t.dec):(cH t d).length=d.n:=by delta cH;haveI:=a.all d h;simp;lia
def Sd(c:Nat):1<=(xC c).length/\(xC c).length<=4:=by delta xC;generalize c-0xAC00=s;dsimp only;split<;>simp
def Hu(a:eU t)(h:jL t c k=some d):1<=(cH t d).length/\(cH t d).length<=4:=by have b:=Qz h;haveI:=a.all d b;rw[Sb t a b];lia
def oi(a:eU t)(b:Bool)(c:Nat):1<=(eB t b c).length/\(eB t b c).length<=4:=by
 delta eB;split;·rename_i d e;cases b with|false=>contradiction|true=>exact Hu t a e
 ·rename_i d e f;exact Hu t a f
 ·split;·exact Sd c
  simp
end
def BM{c:Type}(p q:c->Bool):∀l:List c,(∀a∈l,p a=q a)->l.find? p=l.find? q|[],_=>rfl|a::l,h=>by rw[um,um,h a (by simp),BM p q l λb d=>h b (by simp[d])]
section
variable(t:aN)
abbrev BN(a b:Nat):Option Nat:=if rA a=true/\rB b=true then some (0xAC00+((a-0x1100)*21+(b-0x1161))*28)else if fW a=true/\(a-0xAC00)%28=0/\xD b=true then some (a+(b-0x11A7))else none
abbrev pS(a b:Nat):Option Nat:=match t.pair.find? λ(p:kT)=>p.a==a&&p.b==b with|some p=>some p.c|none=>BN a b
def Se(c:kt t)(a b:Nat):pS t a b=Gm t a b:=by delta pS Gm BN;cases hf:t.pair.find? (λp=>p.a==a&&p.b==b)with|none=>rfl|some p=>haveI d:=Qz hf;haveI e:=abx hf;haveI h:=c.all p d;simp_all
abbrev ku(l:List Nat):Nat:=l.getLastD 0
abbrev reach(out:List Nat)(b c:Nat):Bool:=b+1==out.length||(decide (0<aY t (ku out))&&decide (aY t (ku out)<aY t c))
abbrev pT(out:List Nat)(base:Option Nat)(c:Nat):Option Nat:=match base with|none=>none|some b=>if reach t out b c=true then pS t (out.getD b 0) c else none
abbrev ky:List Nat->Option Nat->List Nat->List Nat|out,_,[]=>out|out,base,c::r=>match pT t out base c with|some w=>ky (out.set (base.getD 0) w) base r|none=>ky (out++[c]) (if aY t c=0 then some out.length else base) r
def Hv(a b:List Nat)(x:Nat)(h:b.getLast?=some x):ku (a++b)=x:=by delta ku;simp_all
def BO(k:kt t):∀(x:List Nat)(o:Fo.Out)(base:Option Nat),base=o.base.map (λ_=>o.before.length)->ky t o.all base x=(x.foldl (xE t) o).all
 |[],o,base,_=>rfl
 |c::x,o,base,j=>by
  have f:ky t (o.all++[c]) (if aY t c=0 then some o.all.length else base) x=(x.foldl (xE t) (xF t o c)).all:=by
   rw[<-BO k x _ _];·congr 1;delta xF;split<;>simp[QA]
   ·delta xF;grind
  simp only[ky,QB];cases b:o.base with
  |none=>
   rw[b]at j;subst j;have:xE t o c=xF t o c:=by delta xE;rw[b]
   rw[this];exact f
  |some a=>
   rw[b]at j;subst j;have g:o.all=o.before++a::o.behind:=by simp[QA,b]
   haveI h:o.all.getD o.before.length 0=a:=by rw[g];simp
   haveI e:reach t o.all o.before.length c=(match o.behind.getLast? with|none=>true|some x=>decide (0<aY t x)&&decide (aY t x<aY t c)):=by
    delta reach;cases l:o.behind.getLast? with
    |none=>simp_all
    |some y=>
     haveI m:o.behind≠[]:=λz=>by grind
     haveI n:ku o.all=y:=by exact Hv _ _ _ l
     simp_all
   delta pT;simp only[QC];rw[e,h,Se t k];haveI i:xE t o c=(if(match o.behind.getLast? with|none=>true|some x=>decide (0<aY t x)&&decide (aY t x<aY t c))=true then(match Gm t a c with|some z=>{o with base:=some z}|none=>xF t o c)else xF t o c):=by rw[xE,b];rfl
   rw[i];by_cases d:(match o.behind.getLast? with|none=>true|some x=>decide (0<aY t x)&&decide (aY t x<aY t c))=true;·rw[ax d,ax d];cases p:Gm t a c with|none=>exact f|some z=>rw[<-BO k x _ _ rfl];rw[g];simp[QA]
   simp_all
def Hw(a:kt t)(x:List Nat):QD t x=ky t [] none x:=by delta QD;rw[<-BO t a x _ none rfl];rfl
def BP:∀(x out:List Nat)(base:Option Nat),(ky t out base x).length<=out.length+x.length
 |[],out,base=>by simp[ky]
 |c::x,out,base=>by
  unfold ky;split;·rename_i w _;have:=BP x (out.set (base.getD 0) w) base;refine gI this ?_;simp
  ·have:=BP x (out++[c]) (if aY t c=0 then some out.length else base);refine gI this ?_;simp;omega
def sr(f:Nat->List Nat)(h:∀c,(f c).length<=4):∀x:List Nat,(x.flatMap f).length<=4*x.length|[]=>by simp|c::x=>by have:=sr f h x;grind
def BQ(a:eU t)(b:Bool)(x:List Nat):(uo t b x).length<=4*x.length:=by delta uo;rw[yh];exact sr _ (λc=>(oi t a b c).2) x
def l6(b:eU t)(a:kt t)(f:Nat)(x:List Nat):(cC t f x).length<=4*x.length:=by
 delta cC;split;·rw[Hw t a];refine gI (BP t _ _ _) ?_;simpa using BQ t b _ x
 ·exact BQ t b _ x
abbrev dq(x:List Nat):Nat×List (Nat×Nat×Nat):=match xG t x with|some q=>(q.n,((t.weight.drop q.at_).take q.count).map ke)|none=>(1,AU (x.headD 0))
def uM(k c:Nat)(r:List Nat):nQ t (k+1) (c::r)=(dq t (c::r)).2++nQ t k ((c::r).drop (dq t (c::r)).1):=by
 delta dq;conv=>lhs;unfold nQ
 cases xG t (c::r)<;>rfl
abbrev eq(x:List Nat)(n:Nat):Option jh:=t.key.find? λ(k:jh)=>k.n==n&&(decide (n<=x.length)&&kf k==x.take n)
def Sf{a:Type}(f:Nat->Option a):[3,2,1].findSome? f=(f 3).or ((f 2).or (f 1)):=by simp only[QE,List.findSome?_nil];cases f 3<;>cases f 2<;>cases f 1<;>rfl
def su(x:List Nat):xG t x=(eq t x 3).or ((eq t x 2).or (eq t x 1)):=Sf _
def l7(h:eq t x n=some q):q.n=n/\n<=x.length/\q∈t.key:=by haveI a:=abx h;simp at a;exact⟨a.1,a.2.1,Qz h⟩
def BR(f:kZ t)(x:List Nat)(e:x≠[]):1<=(dq t x).1/\(dq t x).1<=x.length:=by haveI g:1<=x.length:=QF.mpr e;delta dq;cases b:xG t x with|none=>simp_all|some q=>rw[su]at b;cases c:eq t x 3 with|some a=>have:=l7 t c;simp_all|none=>cases d:eq t x 2 with|some a=>haveI:=l7 t d;simp_all|none=>rw[c,d]at b;have:=l7 t (show eq t x 1=some q from b);simp_all
def Hx(a:kZ t):∀(k m:Nat)(x:List Nat),x.length<=k->x.length<=m->nQ t k x=nQ t m x
 |0,m,x,h,_=>by haveI:x=[]:=QG.mp (by lia);subst this;cases m<;>rfl|k+1,m,[],_,_=>by cases m<;>rfl|k+1,0,c::r,_,h=>by simp at h
 |k+1,m+1,c::r,b,d=>by
  rw[uM,uM];haveI e:=BR t a (c::r) (by simp);rw[Hx a k m];·grind
  grind
abbrev elems(x:List Nat):List (Nat×Nat×Nat):=nQ t x.length x
def Sg:elems t []=[]:=rfl
def Si(a:kZ t)(x:List Nat)(b:x≠[]):elems t x=(dq t x).2++elems t (x.drop (dq t x).1):=by cases x with|nil=>lia|cons c r=>haveI d:=BR t a _ b;delta elems;rw[jj,uM];congr 1;exact Hx t a _ _ _ (by simp_all) (bR _)
def BS(x y:List Nat)(n:Nat)(h:n<=x.length):eq t (x++y) n=eq t x n:=by
 unfold eq;congr 1;funext k;rw[List.take_append_of_le_length h];have:n<=(x++y).length:=by simp;omega
 simp only[this,h]
def uN(x:List Nat)(n:Nat)(h:¬n<=x.length):eq t x n=none:=by delta eq;rw[xq];intro k _;simp[h]
def Sj(x y:List Nat)(d:x≠[])(h:(dq t (x++y)).1<=x.length):dq t (x++y)=dq t x:=by
 have f:=QF.mpr d;haveI g:(x++y).headD 0=x.headD 0:=by cases x with|nil=>lia|cons=>rfl
 haveI key:xG t (x++y)=xG t x:=by
  delta dq at h;rw[su]at h;rw[su,su];rw[BS t x y 1 f]at h⊢
  by_cases a:2<=x.length
  ·rw[BS t x y 2 a]at h⊢
   by_cases b:3<=x.length;·rw[BS t x y 3 b]
   ·rw[uN t x 3 b];cases e:eq t (x++y) 3 with|none=>rfl|some q=>rw[e]at h;haveI:=l7 t e;simp only[QH]at h;omega
  ·rw[uN t x 2 a,uN t x 3 (by omega)];cases e:eq t (x++y) 3 with|some q=>rw[e]at h;haveI:=l7 t e;simp only[QH]at h;omega|none=>cases c:eq t (x++y) 2 with|none=>rfl|some q=>rw[e,c]at h;haveI:=l7 t c;simp only[QH,Option.none_or]at h;omega
 delta dq;simp_all
def sv(x:List Nat):cC t 0 x=nN t (x.flatMap (eB t false)):=rfl
abbrev fO(x:List Nat)(i:Nat):Nat:=((x.take i).flatMap (eB t false)).length
def Sk(a:eU t)(y:List Nat)(c:Nat)(r:List Nat)(b:y=c::r)(h:aY t ((eB t false c).headD 0)=0):∃d s,y.flatMap (eB t false)=d::s/\aY t d=0:=by have e:=(oi t a false c).1;cases f:eB t false c with|nil=>simp_all|cons d s=>simp_all
def Sl(h:eU t)(x:List Nat)(i:Nat)(a:jM t x i=true):i=0\/(x.drop i).flatMap (eB t false)=[]\/∃d s,(x.drop i).flatMap (eB t false)=d::s/\aY t d=0:=by
 delta jM at a;by_cases c:i=0;·exact .inl c
 ·right;by_cases f:i=x.length;·left;rw[f];simp
  ·right;haveI b:(decide (i<x.length)&&aY t ((eB t false (x.getD i 0)).headD 0)==0)=true:=by
    haveI j:(i==0)=false:=by simpa using c
    haveI k:(i==x.length)=false:=by simpa using f
    rw[j,k]at a;simpa using a
   rw[d0,jK,eE]at b;haveI l:x.drop i=x.getD i 0::x.drop (i+1):=by haveI g:i<x.length:=b.1;haveI e:x.getD i 0=x[i]:=pR (cI g);rw[e];exact lR g
   exact Sk t h _ _ _ l b.2
def Hy(a:eU t)(x:List Nat)(i:Nat)(b:jM t x i=true):cC t 0 x=cC t 0 (x.take i)++cC t 0 (x.drop i):=by
 rw[sv,sv,sv];conv=>lhs;rw[<-AV i x,List.flatMap_append]
 rcases Sl t a x i b with h|h|⟨d,s,h,c⟩;·subst h;rfl
 ·rw[h];simp[nN,Gk]
 ·exact R5 t _ _ (.inr ⟨d,s,h,c⟩)
def Sm(x:List Nat)(i j:Nat)(h:i<j)(b:j<=x.length)(a:jM t x i=true):jM t (x.take j) i=true:=by
 delta jM at a⊢
 grind
def Sn(a:eU t)(x:List Nat)(i j:Nat)(h:i<j)(b:j<=x.length)(c:jM t x i=true)(d:jM t x j=true):cC t 0 (jN x i j)=((cC t 0 x).take (fO t x j)).drop (fO t x i):=by
 have e:jN x i j=(x.take j).drop i:=by delta jN;rw[aby]
 haveI f:=Hy t a x j d;haveI g:=Hy t a _ i (Sm t x i j h b c);have k:(cC t 0 (x.take j)).length=fO t x j:=by rw[sv,yh];rfl
 have l:(cC t 0 ((x.take j).take i)).length=fO t x i:=by rw[sv,yh];delta fO;rw[QI,rD (by lia)]
 grind
def Hz(a:eU t)(x:List Nat)(i j:Nat)(h:i<=j):fO t x i<=fO t x j:=by
 delta fO;have:x.take j=x.take i++(x.take j).drop i:=by have:=(AV i (x.take j)).symm;rwa[QI,rD h]at this
 rw[this];simp
def So(f:Nat)(x:List Nat)(c:Nat):ig t f (x++[c])=if lS t f c=true then x.length else ig t f x:=by
 delta ig;haveI a:(bU (x++[c]).length).reverse=x.length::(bU x.length).reverse:=by rw[kg,abz,AW,abA];rfl
 haveI b:(x++[c]).getD x.length 0=c:=by simp
 rw[a,um,b];haveI he:(bU x.length).reverse.find? (λi=>lS t f ((x++[c]).getD i 0))=(bU x.length).reverse.find? (λi=>lS t f (x.getD i 0)):=by
  refine BM _ _ _ λi d=>?_;haveI:i<x.length:=by simpa using d
  rw[jf,jf,AX this]
 cases e:lS t f c with|true=>rfl|false=>rw[he];rfl
end
abbrev cX:List Nat->List Nat->Bool|[],[]=>false|[],_::_=>true|_::_,[]=>false|x::xs,y::a=>if x=y then cX xs a else decide (x<y)
def BU:∀a b:List Nat,Fo.compareKeys a b=if cX a b=true then 1 else if a=b then 2 else 3
 |[],[]=>rfl|[],_::_=>rfl|_::_,[]=>rfl
 |x::a,y::b=>by
  unfold Fo.compareKeys cX;by_cases h:x=y;·subst h;simp[BU a b]
  ·by_cases c:x<y;·simp[h,c]
   ·have:y<x:=by omega
    simp[h,c,this]
def BV:∀a:List Nat,cX a a=false|[]=>rfl|x::a=>by simp[cX,BV a]
def BW:∀a b c:List Nat,cX a b=true->cX b c=true->cX a c=true
 |[],[],_,h,_=>by lia|[],_::_,[],_,h=>by assumption|[],_::_,_::_,_,_=>rfl|_::_,[],_,h,_=>by simp[cX]at h|_::_,_::_,[],_,h=>by assumption
 |x::a,y::b,z::c,d,e=>by
  simp only[cX]at d e⊢
  split at d
  ·split at e;·rw[ax (by lia)];exact BW a b c d e
   simp_all
  grind
def BX:∀a b:List Nat,a=b\/cX a b=true\/cX b a=true
 |[],[]=>.inl rfl|[],_::_=>.inr (.inl rfl)|_::_,[]=>.inr (.inr rfl)
 |x::a,y::b=>by
  by_cases h:x=y
  ·subst h;rcases BX a b with rfl|h|h;·exact .inl rfl
   ·exact .inr (.inl (by simp[cX,h]))
   ·exact .inr (.inr (by simp[cX,h]))
  ·by_cases c:x<y;·exact .inr (.inl (by simp[cX,h,c]))
   ·exact .inr (.inr (by have:y<x:=by omega
                         have d:¬y=x:=by omega
                         simp[cX,d,this]))
def Sq(a b:List Nat)(h:cX a b=true):cX b a=false:=by cases c:cX b a with|false=>rfl|true=>have:=BW a b a h c;rw[BV]at this;cases this
abbrev rank(l:List (List Nat))(a:List Nat):Nat:=(l.filter λb=>cX b a).length
def HA(a b:List Nat)(h:∀c,cX c a=true->cX c b=true):∀l,rank l a<=rank l b
 |[]=>bR _
 |c::l=>by
  have d:=HA a b h l;unfold rank at d⊢
  grind
def BY(a b:List Nat)(h:cX a b=true):∀l,a∈l->rank l a<rank l b
 |[],z=>by nomatch z
 |c::l,z=>by
  haveI e:=λc f=>BW c a b f h;haveI d:=HA a b e l;rcases ff.mp z with rfl|z
  ·unfold rank at d⊢
   simp[BV,h];lia
  ·haveI d:=BY a b h l z;unfold rank at d⊢
   grind
def Sr(l:List (List Nat))(a b:List Nat)(d:a∈l)(e:b∈l):cX a b=decide (rank l a<rank l b):=by
 cases h:cX a b with
 |true=>exact(gT (BY a b h l d)).symm
 |false=>
  refine(iC λz=>?_).symm;rcases BX a b with rfl|c|c;·lia
  ·lia
  ·have:=BY b a c l e;lia
section
variable(t:aN)
abbrev kA(f:Nat):List Nat->List Nat->Option (List Nat)|a,[]=>some a|a,c::r=>if 16<a.length+1-ig t f (a++[c])then none else kA f (a++[c]) r
def Ss(f:Nat)(x:List Nat)(c:Nat):kU t f (x++[c])=(kU t f x||decide (16<x.length+1-ig t f (x++[c]))):=by
 delta kU;haveI a:bU ((x++[c]).length+1)=bU (x.length+1)++[x.length+1]:=by rw[kg,abz,AW]
 rw[a,List.any_append];haveI b:(x++[c]).take (x.length+1)=x++[c]:=mJ (by simp);congr 1
 ·rw[kh,AY,AY];constructor;·grind
  grind
 ·rw[nR,QJ,AZ,b];rfl
def HB(f:Nat):∀(x a:List Nat),kU t f a=false->kA t f a x=if kU t f (a++x)=true then none else some (a++x)
 |[],a,h=>by simp[kA,h]
 |c::x,a,h=>by
  haveI d:=Ss t f a c;rw[h]at d;unfold kA;haveI e:a++c::x=(a++[c])++x:=by simp
  by_cases b:16<a.length+1-ig t f (a++[c])
  ·rw[ax b,ax];haveI g:kU t f (a++[c])=true:=by rw[d];exact gT b
   obtain⟨n,i,j⟩:=AY.mp g;refine AY.mpr ⟨n,?_,?_⟩;·grind
   grind
  ·rw[ay b,e];exact HB f x _ (by simp_all)
def Su(f:Nat):kU t f []=false:=by rfl
def Sv(f:Nat)(x:List Nat):ig t f x<=x.length:=by delta ig;cases h:(bU _).reverse.find? (λi=>lS t f _)with|none=>simp|some i=>grind
abbrev dB(x:List Nat):List Nat:=(bU (x.length+1)).filter (jM t x)
abbrev pU(a:Nat)(x y:List Nat)(i:Nat):Option (Nat×Nat):=((bU (x.length+1)).find? λ(j:Nat)=>decide (i<j)&&(jM t x j&&cR t a 0 (jN x i j)==cR t a 0 y)).map λ(j:Nat)=>(i,j-i)
def BZ{b c:Type}(p:b->Bool)(f:b->Option c):∀l:List b,(l.filter p).findSome? f=l.findSome? λa=>if p a=false then none else f a|[]=>rfl|a::l=>by cases h:p a with|true=>simp[h,QE,BZ p f l]|false=>simp[h,BZ p f l]
def Sw(b:Nat)(x y:List Nat):uq t b x y=(dB t x).findSome? (pU t b x y):=by
 delta dB;rw[BZ,AW,List.findSome?_append];haveI d:pU t b x y x.length=none:=by
  delta pU;rw[Option.map_eq_none_iff,xq];intro j e;haveI:=lQ.mp e;haveI c:¬x.length<j:=by lia
  simp[c]
 haveI c:([x.length].findSome? λa=>if jM t x a=false then none else pU t b x y a)=none:=by simp[d]
 rw[c,Option.or_none];rfl
def HC(x:List Nat):(dB t x).Pairwise (·<·):=List.Pairwise.filter _ List.pairwise_lt_range
def HD(x:List Nat)(i:Nat):i∈dB t x↔i<=x.length/\jM t x i=true:=by delta dB;grind
def Sx{b:Type}(p q:b->Bool)(l:List b):(l.filter p).find? q=l.find? λa=>p a&&q a:=by simp
def HE(l:List Nat)(h:l.Pairwise (·<·))(k i:Nat)(d:l[k]?=some i):l.drop (k+1)=l.filter λj=>decide (i<j):=by
 induction l generalizing k with
 |nil=>simp at d
 |cons a l g=>
  have f:=nM.mp h;cases k with
  |zero=>
   simp at d;subst d;have e:l.filter (λj=>decide (a<j))=l:=List.filter_eq_self.mpr λb m=>by simpa using f.1 b m
   simp[e]
  |succ k=>
   have c:l[k]?=some i:=by simpa using d
   have n:i∈l:=fY c;have:¬i<a:=by have:=f.1 i n;omega
   simp[rE,this];exact g f.2 k c
def Sy(a:Nat)(x y:List Nat)(k i:Nat)(b:(dB t x)[k]?=some i):pU t a x y i=(((dB t x).drop (k+1)).find? λj=>cR t a 0 (jN x i j)==cR t a 0 y).map λj=>(i,j-i):=by rw[HE _ (HC t x) k i b];delta pU dB;rw[List.filter_filter,Sx];congr 2;funext j;rw[abB]
end
section
variable(t:aN)
abbrev uO(a b:Nat)(c:List (Nat×Nat×Nat)):List Nat:=gU (c.map λe=>e.1)++(if 2<=a then 1::(if b=1 then(gU (c.map λe=>e.2.1)).reverse else gU (c.map λe=>e.2.1))else[])++if a=3 then 1::gU (c.map λe=>e.2.2)else[]
def B0(a b:Nat)(x:List Nat):cR t a b x=uO a b (elems t (cC t 0 x)):=rfl
def Sz(c:Nat):∀e∈AU c,e.1≠1/\e.2.1≠1/\e.2.2≠1:=by intro e he;delta AU at he;grind
def SA(a:sk t)(x:List Nat):∀e∈(dq t x).2,e.1≠1/\e.2.1≠1/\e.2.2≠1:=by
 delta dq;split;·intro e he;obtain⟨w,b,rfl⟩:=mK.mp he;haveI:=a.all w (List.mem_of_mem_drop (List.mem_of_mem_take b));exact⟨this.2.1,this.2.2.1,this.2.2.2⟩
 ·exact Sz _
def HF(a:sk t):∀(k:Nat)(x:List Nat),∀e∈nQ t k x,e.1≠1/\e.2.1≠1/\e.2.2≠1
 |0,x,e,he=>by cases he|k+1,[],e,he=>by cases he
 |k+1,c::r,e,he=>by
  rw[uM]at he;rcases xH.mp he with he|he;·exact SA t a _ e he
  ·exact HF a k _ e he
def B7(l:List Nat)(h:∀a∈l,a≠1):((gU l).all λw=>w==1)=true↔gU l=[]:=by
 constructor
 ·intro z;cases e:gU l with
  |nil=>rfl
  |cons a r=>
   have b:a∈gU l:=by rw[e];simp
   have:=h a (QK.mp b).1;simp_all
 simp_all
def SD(f:sk t)(b:Nat)(y:List Nat):((cR t b 0 y).all λw=>w==1)=true↔Fo.ps t y=[]/\(b<2\/Fo.ss t 0 y=[])/\(b≠3\/Fo.us t y=[]):=by haveI d:=HF t f (cC t 0 y).length (cC t 0 y);haveI g:=B7 ((QL t y).map λe=>e.1) (λa c=>by obtain⟨e,he,rfl⟩:=mK.mp c;exact(d e he).1);haveI h:=B7 ((QL t y).map λe=>e.2.1) (λa c=>by obtain⟨e,he,rfl⟩:=mK.mp c;exact(d e he).2.1);haveI i:=B7 ((QL t y).map λe=>e.2.2) (λa c=>by obtain⟨e,he,rfl⟩:=mK.mp c;exact(d e he).2.2);haveI j:Fo.ps t y=gU _:=rfl;haveI k:Fo.ss t 0 y=gU _:=rfl;haveI l:Fo.us t y=gU _:=rfl;delta cR;rw[List.all_append,d0];grind
def HG(d:kZ t)(x:List Nat):(dq t x).2.length<=4:=by
 delta dq;split
 ·rename_i q h;have e:q∈t.key:=by rw[su]at h;cases b:eq t x 3 with|some a=>rw[b]at h;cases h;exact(l7 t b).2.2|none=>cases c:eq t x 2 with|some a=>rw[b,c]at h;cases h;exact(l7 t c).2.2|none=>rw[b,c]at h;exact(l7 t (show eq t x 1=some q from h)).2.2
  have:=(d.all q e).2.2.2.2;simp;lia
 ·exact Nat.le_add_left 2 2
def HH(a:kZ t):∀(k:Nat)(x:List Nat),(nQ t k x).length<=4*k|0,x=>by simp[nQ]|k+1,[]=>by simp[nQ]|k+1,c::r=>by rw[uM,kg];have b:=HG t a (c::r);have d:=HH a k ((c::r).drop (dq t (c::r)).1);lia
def B8(a:kZ t)(x:List Nat):(elems t x).length<=4*x.length:=HH t a _ x
def SE(e:kZ t)(d:∀k∈t.key,k.code.length=3)(a b:jh)(f:a∈t.key)(g:b∈t.key)(h:kf a=kf b):a.code=b.code:=by
 have p:=e.all a f;have q:=e.all b g;have u:=d a f;have v:=d b g;have w:a.n=b.n:=by have:=bz ki h;unfold kf at this;simp at this;lia
 have r:∀l m:List Nat,l.length=m.length->(∀c∈l,c=0)->(∀c∈m,c=0)->l=m:=by intro l;induction l with|nil=>grind|cons x l s=>intro m i j o;cases m with|nil=>simp at i|cons y m=>rw[j x (by simp),o y (by simp),s m (by simpa using i) (λc d=>j c (by simp[d])) (λc d=>o c (by simp[d]))]
 rw[<-AV a.n a.code,<-AV b.n b.code];delta kf at h;rw[h,r _ _ (by simp;lia) p.2.2.1 q.2.2.1]
def SF(d:kZ t)(f:∀k∈t.key,k.code.length=3)(x:List Nat)(n:Nat)(o:n<=x.length)(p:n<=3):t.key.reverse.find? (λk:jh=>decide (kf k=x.take n))=eq t x n:=by
 haveI e:t.key.reverse.find? (λk:jh=>decide (kf k=x.take n))=t.key.find? (λk:jh=>decide (kf k=x.take n)):=by
  haveI g:t.key.Pairwise (λa b:jh=>kc a.code b.code=true/\a∈t.key/\b∈t.key):=by haveI:=List.Pairwise.and_mem.mp d.up;exact this.imp λ⟨a,b,c⟩=>⟨c,a,b⟩
  refine yj _ _ g λa b ⟨h,i,j⟩ z=>?_;simp at z;haveI:=SE t d f a b i j (z.1.trans z.2.symm);rw[this,Ht]at h;nomatch h
 rw[e];refine BM _ _ _ λk l=>?_;haveI m:=d.all k l;rw[kh];rw[jK];constructor;·intro h;haveI:=bz ki h;unfold kf at this;simp_all
 simp
end
end FO
section
namespace L2
open PySem PySem.Spec PyProof.Rows
@[reducible]def Key:=Sum Int ag
abbrev sw:Key->aj->Bool|.inl k,v=>Value.isInt k v|.inr x,v=>abC x v
abbrev SG(w:bB):Key->Int|.inl k=>hashInt k|.inr x=>hashStr w x
def mV:∀{k:Key}{v:aj},sw k v=true->(∃i t,k=dW i/\v=pB i t)\/(∃x t,k=A0 x/\v=Gn x t)|.inl i,v,h=>by obtain⟨t,e⟩:=Value.isInt_shape h;simp_all|.inr x,v,h=>by obtain⟨t,e⟩:=Value.isStrOf_shape h;simp_all
def HI(i:Int)(t:Tok):sw (.inl i) (.int i t)=true:=by simp[sw,Value.isInt]
def SH(x:ag)(t:Tok):sw (.inr x) (.str x t)=true:=by simp[sw,abC]
def SI(a b:Int):decide ((dW a:Key)=dW b)=(a==b):=by lia
def SJ(a b:ag):decide ((A0 a:Key)=A0 b)=decide (a=b):=by simp
def SK(a:Int)(b:ag):decide ((dW a:Key)=A0 b)=false:=iC (λq=>nomatch q)
def SM(a:ag)(b:Int):decide ((A0 a:Key)=dW b)=false:=iC (λq=>nomatch q)
abbrev hG(prog:bA)(w:bB):PySem.KeyKind prog w Key where
 is:=sw;hash:=SG w;inj:=λv a b q n=>by
  rcases mV q with⟨i,t,rfl,rfl⟩|⟨x,t,rfl,rfl⟩
  ·rcases mV n with⟨j,u,rfl,e⟩|⟨y,u,rfl,e⟩;·injection e with d _;rw[d]
   ·exact nomatch e
  ·rcases mV n with⟨j,u,rfl,e⟩|⟨y,u,rfl,e⟩;·exact nomatch e
   ·injection e with d _;rw[d]
 byValue:=λk v h=>by rcases mV h with⟨i,t,rfl,rfl⟩|⟨x,t,rfl,rfl⟩<;>rfl
 pyHash:=λg h=>by
  rcases mV g with⟨i,t,rfl,rfl⟩|⟨x,t,rfl,rfl⟩;·exact wpAny_pyHash_int h
  ·exact wpAny_pyHash_str h
 eqBool:=λz g h=>by
  rcases mV z with⟨i,t,rfl,rfl⟩|⟨x,t,rfl,rfl⟩
  ·rcases mV g with⟨j,u,rfl,rfl⟩|⟨y,u,rfl,rfl⟩;·rw[SI]at h;exact wpAny_eqBool_int h
   ·rw[SK]at h;exact abD i t y u _ _ _ _ h
  ·rcases mV g with⟨j,u,rfl,rfl⟩|⟨y,u,rfl,rfl⟩;·rw[SM]at h;exact abE x t j u _ _ _ _ h
   ·rw[SJ]at h;exact wpAny_eqBool_str h
 «strs»:=λk x t v h=>by
  rcases mV h with⟨i,u,rfl,e⟩|⟨y,u,rfl,e⟩;·exact nomatch e
  ·injection e with d _;subst d;cases v<;>rfl
def SN(prog:bA)(w:bB)(i:Int)(t:Tok):(hG prog w).is (.inl i) (.int i t)=true:=HI i t
def SO(prog:bA)(w:bB)(x:ag)(t:Tok):(hG prog w).is (.inr x) (.str x t)=true:=SH x t
end L2
namespace L2
open PySem PySem.Spec PyProof.Rows
inductive V where|ah|bl(b:Bool)|int(i:Int)|str(x:ag)|jU(b:Array UInt8)|uP(b:UInt64)|ref(a:af)|ty(n:String)deriving DecidableEq
abbrev RelV:V->aj->Prop|.ah,u=>u=QM|.bl b,u=>u=pC b|.int i,u=>∃t,u=pB i t|.str x,u=>∃t,u=Gn x t|.jU b,u=>∃t,u=Value.bytes b t|.uP b,u=>∃t,u=Value.float b t|.ref a,u=>u=d9 a|.ty n,u=>u=rF n
@[reducible]def Vals:List V->List aj->Prop:=xI RelV
def Vals.length(r:Vals xs us):xs.length=us.length:=QN r
def Vals.get:∀{xs:List V}{us:List aj}{i:Nat}{x:V},Vals xs us->xs[i]?=some x->∃u,us[i]?=some u/\RelV x u|_,_,_,_,.nil,e=>by simp at e|_,_,0,_,.cons r _,e=>by simp at e;subst e;exact⟨_,rfl,r⟩|_,_,i+1,x,.cons _ t,e=>by obtain⟨u,h1,h2⟩:=Vals.get (i:=i) (x:=x) t (by simpa using e);exact⟨u,by simpa using h1,h2⟩
def Vals.set(r:RelV x u):∀{xs:List V}{us:List aj}(i:Nat),Vals xs us->Vals (xs.set i x) (us.set i u)|_,_,_,.nil=>.nil|_,_,0,.cons _ t=>.cons r t|_,_,i+1,.cons q t=>.cons q (Vals.set r i t)
def Vals.append:∀{xs ys:List V}{us d:List aj},Vals xs us->Vals ys d->Vals (xs++ys) (us++d)|_,_,_,_,.nil,s=>s|_,_,_,_,.cons r t,s=>.cons r (Vals.append t s)
def Vals.take:∀{xs:List V}{us:List aj}(n:Nat),Vals xs us->Vals (xs.take n) (us.take n)|_,_,0,_=>.nil|_,_,_+1,.nil=>.nil|_,_,n+1,.cons r t=>.cons r (Vals.take n t)
def Vals.drop:∀{xs:List V}{us:List aj}(n:Nat),Vals xs us->Vals (xs.drop n) (us.drop n)|_,_,0,r=>r|_,_,_+1,.nil=>.nil|_,_,n+1,.cons _ t=>Vals.drop n t
abbrev hJ:Option V->Option aj->Prop|some v,some u=>RelV v u|none,none=>True|_,_=>False
abbrev KV{κ:Type}:List (κ×V)->List (κ×aj)->Prop:=xI λ(p:κ×V) (q:κ×aj)=>p.1=q.1/\RelV p.2 q.2
abbrev kV:Key->V|.inl i=>.int i|.inr x=>.str x
inductive HO where|lst(xs:List V)|tup(xs:List V)|dK(kvs:List (Key×V))|dT(kvs:List (List Key×V))|set(S:Int->Bool)(n:Nat)|ins(C dx:af)(fs:List (ag×V))|own(x:af)|xd(fs:List (ag×V))|met(f x:af)|ik(lo hi:Int)|il(o:bu)(u:HO)|fj(ps:Array aj)|ext(φ:aZ->Prop)
@[reducible]def Hp:=af->Option HO
abbrev upd(H:Hp)(a:af)(o:HO):Hp:=λb=>if b=a then some o else H b
def aW:upd H a o a=some o:=by delta upd;simp
def aD(h:b≠a):upd H a o b=H b:=by delta upd;simp_all
def oj:upd (upd H a o) a u=upd H a u:=by delta upd;simp_all
def SQ{H:Hp}(h:H a=some o)(h':H b=some u)(d:o≠u):a≠b:=by lia
def im{H:Hp}(h:H a=some o)(h':H b=none):a≠b:=by lia
section
variable(P:bA)(w:bB)
abbrev da(H:Hp)(h:aZ)(a:af):HO->Prop|.lst xs=>xs.length<=bj/\∃(its:List aj)(n:Nat),Vals xs its/\h.get? a=some {cls:=.type "list",data:=.seq its.toArray n}|.tup xs=>xs.length<=bj/\∃its:List aj,Vals xs its/\gV h a its.toArray|.dK kvs=>kvs.length<=bj/\(a==nU)=false/\∃vs,KV kvs vs/\h.DictOf (hG P w) a vs|.dT kvs=>kvs.length<=bj/\(a==nU)=false/\∃xs:List (List Key×af×aj),xI (λ(p:List Key×V) (q:List Key×af×aj)=>p.1=q.1/\H q.2.1=some (.tup (p.1.map kV))/\RelV p.2 q.2.2) kvs xs/\∃o es g,h.get? a=some o/\o.ExactDict/\o.data=.dict es g/\es.toList=xs.map (entryOfKey (A1 (hG P w)))/\(xs.map (·.1)).Nodup|.set S n=>h.SetOf (intKind P w) a S n|.ins C dx fs=>H dx=some (.own a)/\fs.length<=1000/\dx≠a/\h.get? a=some (rG C dx)/\∃mA,h.Ns1 dx mA/\(∀f,hJ (fs.lookup f) (mA f))/\QO mA (fs.map (·.1))|.own _=>∃o,h.get? a=some o|.xd fs=>∃mA,h.Ns1 a mA/\∀f,hJ (fs.lookup f) (mA f)|.ik lo hi=>∃t u v,h.get? a=some {cls:=.type "range",data:=.fields #[.int lo t,.int hi u,.int 1 v]}|.il o u=>h.get? a=some o/\da H h a u|.fj ps=>h.get? a=some {cls:=.none,data:=.fields ps}|.met f x=>h.get? a=some (PySem.W.methodObj (.ref f) (.ref x))|.ext d=>d h/\(∃o,h.get? a=some o)/\∀h1 h2:aZ,d h1->(∀o,h1.get? a=some o->h2.get? a=some o)->d h2
abbrev dM(H:Hp)(h:aZ):Prop:=∀a o,H a=some o->da P w H h a o
end
section
variable{P:bA}{w:bB}{H H':Hp}{h h':aZ}{a:af}{o:HO}
def da.lt(x:da P w H h a o):a<h.objs.size:=by cases o with|lst xs=>obtain⟨_,_,_,_,e⟩:=x;exact cu e|tup xs=>obtain⟨_,_,_,p⟩:=x;exact p.lt|dK kvs=>obtain⟨_,_,_,_,o,_,_,e,_⟩:=x;exact cu e|dT kvs=>obtain⟨_,_,_,_,o,_,_,e,_⟩:=x;exact cu e|set S n=>obtain⟨o,_,_,_,e,_⟩:=x;exact cu e|ins C dx fs=>obtain⟨_,_,_,e,_⟩:=x;exact cu e|own y=>obtain⟨_,e⟩:=x;exact cu e|xd fs=>obtain⟨_,⟨_,_,_,e,_⟩,_⟩:=x;exact cu e|ik lo hi=>obtain⟨_,_,_,e⟩:=x;exact cu e|il d u=>obtain⟨e,_⟩:=x;exact cu e|fj ps=>exact cu (show h.get? a=some _ from x)|met f y=>exact cu (show h.get? a=some _ from x)|ext g=>obtain⟨_,⟨_,e⟩,_⟩:=x;exact cu e
def Paired.Cd{j n:Type}{F G:j->n->Prop}:∀{d:List j}{g:List n},xI F d g->(∀a b,F a b->G a b)->xI G d g|_,_,.nil,_=>.nil|_,_,.cons r t,f=>.cons (f _ _ r) (Paired.Cd t f)
def da.k7(x:da P w H h a o)(k:∀b u,(b=a\/H b=some (.own a))->h.get? b=some u->h'.get? b=some u)(F:∀b,H b=some (.own a)->H' b=some (.own a))(G:∀b xs,H b=some (.tup xs)->H' b=some (.tup xs)):da P w H' h' a o:=by induction o with|lst xs=>obtain⟨z,its,n,r,e⟩:=x;exact⟨z,its,n,r,k _ _ (.inl rfl) e⟩|tup xs=>obtain⟨z,its,r,g,e,c⟩:=x;exact⟨z,its,r,g,k _ _ (.inl rfl) e,c⟩|dK kvs=>obtain⟨z,y,vs,r,g,es,j,e,c⟩:=x;exact⟨z,y,vs,r,g,es,j,k _ _ (.inl rfl) e,c⟩|dT kvs=>obtain⟨z,y,xs,r,g,es,j,e,c⟩:=x;exact⟨z,y,xs,Paired.Cd r λp q z=>⟨z.1,G _ _ z.2.1,z.2.2⟩,g,es,j,k _ _ (.inl rfl) e,c⟩|set S n=>obtain⟨g,es,j,t,e,c⟩:=x;exact⟨g,es,j,t,k _ _ (.inl rfl) e,c⟩|ins C dx fs=>obtain⟨d,z,I,e,mA,⟨B,es,j,J,c⟩,r⟩:=x;exact⟨F _ d,z,I,k _ _ (.inl rfl) e,mA,⟨B,es,j,k _ _ (.inr d) J,c⟩,r⟩|own y=>obtain⟨g,e⟩:=x;exact⟨g,k _ _ (.inl rfl) e⟩|xd fs=>obtain⟨mA,⟨B,es,j,e,c⟩,r⟩:=x;exact⟨mA,⟨B,es,j,k _ _ (.inl rfl) e,c⟩,r⟩|ik lo hi=>obtain⟨t,u,v,e⟩:=x;exact⟨t,u,v,k _ _ (.inl rfl) e⟩|il g u L=>obtain⟨e,q⟩:=x;exact⟨k _ _ (.inl rfl) e,L q⟩|fj ps=>have e:h.get? a=some _:=x;show h'.get? a=some _;simp_all|met f y=>haveI e:h.get? a=some _:=x;show h'.get? a=some _;simp_all|ext M=>obtain⟨p,⟨o,e⟩,st⟩:=x;exact⟨st _ _ p λo q=>k _ _ (.inl rfl) q,⟨o,k _ _ (.inl rfl) e⟩,st⟩
def dM.lt(x:dM P w H h)(e:H a=some o):a<h.objs.size:=(x a o e).lt
def dM.fresh(x:dM P w H h)(e:h.objs.size<=a):H a=none:=by cases q:H a with|none=>rfl|some u=>exact bw (gf (x.lt q) e) (mL _)
def dM.kept(x:dM P w H h)(k:∀b u,h.get? b=some u->h'.get? b=some u):dM P w H h':=λa o e=>(x a o e).k7 (λb u _ q=>k b u q) (λ_ q=>q) λ_ _ q=>q
def dM.laid(x:dM P w H h)(k:∀b u,h.get? b=some u->h'.get? b=some u)(j:h.objs.size<=a)(n:da P w (upd H a o) h' a o):dM P w (upd H a o) h':=λb u e=>by
 have d:=x.fresh j;by_cases g:b=a;·subst g;rw[aW]at e;lia
 ·rw[aD g]at e;exact(x b u e).k7 (λc v _ q=>k c v q) (λc q=>by rw[aD (im q d)];exact q) λc xs q=>by rw[aD (im q d)];exact q
end
abbrev Rd(H:Hp)(a:af)(u:HO):Prop:=H a=some u\/∃o,H a=some (.il o u)
def Rd.ok(r:Rd H a u)(x:dM P w H h):da P w H h a u:=by
 rcases r with r|⟨o,r⟩;·exact x a u r
 ·obtain⟨_,q⟩:=x a _ r;exact q
abbrev uQ:Option HO->Prop|some (.lst _)=>True|some (.dK _)=>True|some (.dT _)=>True|some (.set _ _)=>True|some (.ins _ _ _)=>True|some (.ext _)=>True|_=>False
section
variable{P:bA}{w:bB}{H:Hp}{h h':aZ}{x e:af}{o':HO}
def dM.write(I:dM P w H h)(n:uQ (H x))(he:e=x\/H e=some (.own x))(k:∀b u,b≠e->h.get? b=some u->h'.get? b=some u)(B:∃u,h'.get? e=some u)(J:da P w (upd H x o') h' x o'):dM P w (upd H x o') h':=λb u q=>by
 have d:∀c y,H c=some (.own y)->c≠x:=λc y r z=>by cases z;rw[r]at n;exact n
 have g:∀c xs,H c=some (.tup xs)->c≠x:=λc xs r z=>by cases z;rw[r]at n;exact n
 by_cases F:b=x;·cases F;rw[aW]at q;lia
 ·rw[aD F]at q;by_cases j:b=e
  ·haveI G:H b=some (.own x):=by
    rcases he with z|z;·lia
    ·rw[j];exact z
   rw[q]at G;cases G;obtain⟨v,L⟩:=B;exact⟨v,by rw[j];exact L⟩
  ·refine(I b u q).k7 (λc v M r=>k c v ?_ r) (λc r=>by rw[aD (d c b r)];exact r) λc xs r=>by rw[aD (g c xs r)];exact r
   grind
end
structure Un(fs ex:List af)(H H':Hp)(h h':aZ):Prop where
 keep:∀b o,h.get? b=some o->H b=none->b∉fs->b∉ex->h'.get? b=some o
 slot:∀b o,h.get? b=some o->H b=none->b∈fs->b∉ex->∃sl,h'.get? b=some {o with slots:=sl}
 free:∀b o,h.get? b=some o->H b=none->b∉ex->H' b=none
 there:∀b o,h.get? b=some o->b∉ex->∃o',h'.get? b=some o'
 jV:∀b xs,H b=some (.tup xs)->H' b=some (.tup xs)
 ju:∀b o u,H b=some (.il o u)->H' b=some (.il o u)
 jv:∀b ps,H b=some (.fj ps)->∃more,H' b=some (.fj (ps++more))
section
variable{fs sy ex ex':List af}{H H1 H2:Hp}{h h1 h2 h':aZ}{a x e:af}{o:HO}
def Un.any(u:Un fs ex H H1 h h1)(q:h.get? b=some d)(n:H b=none)(g:b∉ex):∃sl,h1.get? b=some {d with slots:=sl}:=by
 by_cases j:b∈fs;·exact u.slot b d q n j g
 ·exact⟨d.slots,u.keep b d q n j g⟩
def Un.kept(k:∀b u,h.get? b=some u->h'.get? b=some u):Un fs ex H H h h':=⟨λb d q _ _ _=>k b d q,λb d q _ _ _=>⟨d.slots,k b d q⟩,λ_ _ _ n _=>n,λb d q _=>⟨d,k b d q⟩,λ_ _ q=>q,λ_ _ _ q=>q,λ_ ps q=>⟨#[],by simp_all⟩⟩
def Un.refl:Un fs ex H H h h:=Un.kept λ_ _ q=>q
def Un.laid(k:∀b u,h.get? b=some u->h'.get? b=some u)(g:h.objs.size<=a)(d:H a=none):Un fs ex H (upd H a o) h h' where
 keep:=λb u q _ _ _=>k b u q;slot:=λb u q _ _ _=>⟨u.slots,k b u q⟩;free:=λb u q n _=>by rw[aD (ea (gf (cu q) g))];exact n
 there:=λb u q _=>⟨u,k b u q⟩;jV:=λb xs q=>by rw[aD (im q d)];exact q
 ju:=λb u xs q=>by rw[aD (im q d)];exact q
 jv:=λb ps q=>⟨#[],by rw[aD (im q d),q];rfl⟩
def Un.write(g:uQ (H x))(he:e=x\/H e=some (.own x))(k:∀b u,b≠e->h.get? b=some u->h'.get? b=some u)(B:∃u,h'.get? e=some u):Un fs ex H (upd H x o) h h':=by
 have F:∀b,H b=none->b≠x:=λb n z=>by subst z;rw[n]at g;exact g
 have j:∀b,H b=none->b≠e:=λb n z=>by simp_all
 have d:∀b u,H b=some u->¬uQ (some u)->b≠x:=λb u q nm z=>by simp_all
 refine⟨λb u q n _ _=>k b u (j b n) q,λb u q n _ _=>⟨u.slots,k b u (j b n) q⟩,λb u q n _=>by rw[aD (F b n)];exact n,λb u q _=>?_,λb xs q=>by rw[aD (d b _ q λz=>z)];exact q,λb u xs q=>by rw[aD (d b _ q λz=>z)];exact q,λb ps q=>⟨#[],by rw[aD (d b _ q λz=>z),q];rfl⟩⟩;grind
end
abbrev sA(h:aZ)(H:Hp):List af:=(bU h.objs.size).filter λa=>(H a).isSome
abbrev mW(h:aZ)(H:Hp):aZ:=QP h (sA h H)
def SR(h:aZ)(H:Hp):(mW h H).objs.size=h.objs.size:=PySem.W.hideAll_size _ _
def SS(e:h.get? b=some o)(n:H b=none):(mW h H).get? b=some o:=abF _ e λd=>by have q:=(QK.mp d).2;simp_all
def SU(e:(mW h H).get? b=some o):h.get? b=some o/\H b=none:=by have d:=abG _ e;refine⟨d,?_⟩;cases q:H b with|none=>rfl|some x=>have g:b∈sA h H:=QK.mpr ⟨lQ.mpr (cu d),by simp[q]⟩;have z:(mW h H).get? b=none:=PySem.W.hideAll_none _ g;lia
abbrev SV(g h:aZ)(L:af):List (af×bu):=(bU h.objs.size).filterMap λa=>if a=L\/(g.get? a).isSome=true then none else(h.get? a).map λo=>(a,o)
abbrev rest(g h:aZ)(L d:af):List (af×bu):=(SV g h L).filter λp=>decide (p.1≠d)
end L2
namespace L2
open PySem PySem.Spec PyProof.Rows
structure Mod(K:br)(mg:ag->Option aj)(base:aZ):Prop where
 ol:K.In base
 glob:base.Ns iB mg
 blt:∃mb,base.Ns rH mb/\∀x:ag,x≠"__name__"->mb x=ut x
 nolimit:base.NoLimit
structure Cx where
 prog:bA
 w:bB
 K:br
 mg:ag->Option aj
 base:aZ
 A:cG
 N:List ag
 er:ar
 om:Hp
 env:Env
 outer:List Env
 stack:List Env
 ex:List af
 fn:ag->Bool
 calm:Bool
 pn:List (af×bu)
 xe:aj->ar->Prop
abbrev eG(l:List Env):List af:=l.filterMap (·.frame)
@[reducible]def Cx.fs(X:Cx):List af:=eG X.outer
abbrev fP(sc:fe)(x:ag):Prop:=sc.names.lookup x=some .local\/sc.names.lookup x=some .cell\/sc.names.lookup x=some .free
abbrev Loc(sc:fe)(x:ag):Prop:=sc.names.lookup x=some .local\/sc.names.lookup x=some .cell
abbrev Look(env:Env)(h:aZ)(m:ag->Option aj)(x:ag)(u:aj):Prop:=(env.kindOf x=some .local/\m x=some u)\/((env.kindOf x=some .cell\/env.kindOf x=some .free)/\∃c,env.cells.lookup x=some c/\h.IsCell c (some u))
structure Cx.Ok(X:Cx):Prop where
 mod:Mod X.K X.mg X.base
 kind:X.env.scope.kind=.function
 glob:X.env.globals=iB
 blt:X.env.builtins=rH
 above:X.er.heap.objs.size<=X.env.locals
 inj:∀x y c,X.env.cells.lookup x=some c->X.env.cells.lookup y=some c->x=y
 has:∀x,(X.env.kindOf x=some .cell\/X.env.kindOf x=some .free)->∃c,X.env.cells.lookup x=some c
 oo:∀x c,X.fn x=true->X.env.cells.lookup x=some c->X.er.heap.objs.size<=c
 hd:X.calm=true->X.A.handled=none
 frames:X.A.frames=some X.stack
 pV:X.stack=X.outer\/(X.stack=X.env::X.outer/\X.env.frame=some X.env.locals)
 pW:∀b∈X.ex,b≠X.env.locals/\∀x c,X.env.cells.lookup x=some c->c≠b
 bs:∀b o,X.base.get? b=some o->X.er.heap.get? b=some o/\X.om b=none
 jw:X.base.objs.size<=X.er.heap.objs.size
 oq:∀b o,X.base.get? b=some o->b∉X.ex
 ot:∀b∈X.ex,b∉X.fs
 iG:X.er.heap.FunFrames X.base X.outer
 k8:∀b∈X.fs,X.om b=none
structure Inv(X:Cx)(pins:List (af×bu))(σ:List (Option V))(H:Hp)(s:ar):Prop where
 ok:X.Ok
 os:s.os=X.er.os
 bare:rJ s.gens
 base:Un X.fs X.ex X.om H X.er.heap s.heap
 loc:∃m,s.heap.Ns X.env.locals m/\∀(i:Nat)(x:ag)(v:V),X.N[i]?=some x->σ[i]?=some (some v)->fP X.env.scope x->∃u,RelV v u/\Look X.env s.heap m x u
 cell:∀x c,X.env.cells.lookup x=some c->∃v,s.heap.IsCell c v
 free:H X.env.locals=none
 iH:∀x c,X.env.cells.lookup x=some c->H c=none
 pin:∀p∈X.pn++pins,s.heap.get? p.1=some p.2/\H p.1=none/\p.1≠X.env.locals/\p.1∉X.fs/\∀v,p.2.data≠.cell v
 a9:dM X.prog X.w H s.heap
 len:σ.length=X.N.length
section
variable{X:Cx}{pins:List (af×bu)}{σ:List (Option V)}{H H':Hp}{s:ar}{h':aZ}
def Cx.Ok.SW(d:X.Ok)(e:X.base.get? b=some o):b∉X.fs:=λg=>by have:=(d.iG.mem g).1;lia
def Inv.bs(I:Inv X pins σ H s):∀b o,X.base.get? b=some o->s.heap.get? b=some o/\H b=none:=λb o e=>⟨I.base.keep b o (I.ok.bs b o e).1 (I.ok.bs b o e).2 (I.ok.SW e) (I.ok.oq b o e),I.base.free b o (I.ok.bs b o e).1 (I.ok.bs b o e).2 (I.ok.oq b o e)⟩
def Inv.bk(I:Inv X pins σ H s):∀b o,X.base.get? b=some o->s.heap.get? b=some o:=λb o e=>(I.bs b o e).1
def Inv.mod(I:Inv X pins σ H s):Mod X.K X.mg X.base:=I.ok.mod
def Inv.gm(I:Inv X pins σ H s):X.K.In s.heap:=I.ok.mod.ol.keeps I.bk
def Inv.nolimit(I:Inv X pins σ H s):s.heap.NoLimit:=I.ok.mod.nolimit.keeps I.bk
def Inv.fr(I:Inv X pins σ H s):∃m,Fr X.base X.env.locals s.heap m:=let⟨m,d,_⟩:=I.loc;⟨m,d,I.bk,gI I.ok.jw I.ok.above⟩
def Inv.lt(I:Inv X pins σ H s):X.env.locals<s.heap.objs.size:=let⟨_,d,_⟩:=I.loc;d.lt
def Inv.sz(I:Inv X pins σ H s):X.er.heap.objs.size<=s.heap.objs.size:=gI I.ok.above (Go I.lt)
def Inv.HJ(I:Inv X pins σ H s)(h:s.heap.objs.size<=a):a∉X.fs:=λd=>by obtain⟨_,o,g,_⟩:=I.ok.iG.mem d;exact bw (gf (cu g) (gI I.sz h)) (mL _)
def Inv.Ce(I:Inv X pins σ H s):∀x c,X.env.cells.lookup x=some c->c≠X.env.locals:=λx c e z=>by obtain⟨v,o,j,n⟩:=I.cell x c e;obtain⟨m,⟨o',es,q,d,g,_⟩,_⟩:=I.loc;lia
def Inv.iG(I:Inv X pins σ H s):s.heap.FunFrames X.base X.outer:=by
 haveI all:∀(l:List Env),(∀b∈eG l,b∈X.fs)->X.er.heap.FunFrames X.base l->s.heap.FunFrames X.base l:=by intro l;induction l with|nil=>intro _ _;trivial|cons env r n=>intro j q;obtain⟨B,⟨L,o,hf,F,G,J⟩,M⟩:=q;have d:=j L (by delta eG;simp_all);obtain⟨N,e⟩:=I.base.slot L o G (I.ok.k8 L d) d λz=>I.ok.ot L z d;exact⟨B,⟨L,_,hf,F,e,J⟩,n (λb g=>j b (by delta eG;rw[QQ,hf];exact jk _ g)) M⟩
 exact all X.outer (λ_ g=>g) I.ok.iG
def Inv.stack(I:Inv X pins σ H s):s.heap.FunFrames X.base X.stack:=by
 rcases I.ok.pV with e|⟨e,hf⟩;·rw[e];exact I.iG
 ·rw[e];obtain⟨m,d,_⟩:=I.loc;refine .cons (by rw[I.ok.kind];decide) hf d ?_ I.iG;exact Heap.get?_none_of_le (gI I.ok.jw I.ok.above)
def Inv.Cf(I:Inv X pins σ H s):∀b∈eG X.stack,b∈X.env.locals::X.fs:=λb d=>by
 rcases I.ok.pV with e|⟨e,hf⟩;·simp_all
 ·rw[e]at d;delta eG at d;rw[QQ,hf]at d;exact d
def Inv.yk(I:Inv X pins σ H s):∀b∈eG X.stack,H b=none:=λb d=>by
 rcases ff.mp (I.Cf b d)with e|d;·rw[e];exact I.free
 ·obtain⟨_,o,g,_⟩:=I.ok.iG.mem d;exact I.base.free b o g (I.ok.k8 b d) λz=>I.ok.ot b z d
def Inv.step{d':Drawn}{ch:List af}(I:Inv X pins σ H s)(B:∀b∈ch,(b∈X.ex\/X.er.heap.objs.size<=b)/\b≠X.env.locals/\(∀x c,X.env.cells.lookup x=some c->c≠b)/\∀p∈X.pn++pins,p.1≠b)(keep:∀b o,b≠X.env.locals->b∉X.fs->b∉ch->s.heap.get? b=some o->H b=none->h'.get? b=some o)(slot:∀b o,b≠X.env.locals->b∈X.fs->b∉ch->s.heap.get? b=some o->H b=none->∃sl,h'.get? b=some {o with slots:=sl}) (free:∀b o,b∉ch->s.heap.get? b=some o->H b=none->H' b=none) (there:∀b o,b∉ch->s.heap.get? b=some o->∃o',h'.get? b=some o') (jV:∀b xs,H b=some (.tup xs)->H' b=some (.tup xs)) (ju:∀b o u,H b=some (.il o u)->H' b=some (.il o u)) (jv:∀b ps,H b=some (.fj ps)->∃M,H' b=some (.fj (ps++M))) (ns:∀m,s.heap.Ns X.env.locals m->h'.Ns X.env.locals m) (U:dM X.prog X.w H' h') (Z:rJ g'):Inv X pins σ H' {s with heap:=h',gens:=g',drawn:=d',toks:=t'}:=by
 have N:∀b o,X.er.heap.get? b=some o->b≠X.env.locals:=λb o e=>ea (gf (cu e) I.ok.above);have F:∀b o,X.er.heap.get? b=some o->b∉X.ex->b∉ch:=λb o e g J=>by
  rcases(B b J).1 with z|z;·exact g z
  ·exact bw (gf (cu e) z) (mL _)
 have j:∀x c,X.env.cells.lookup x=some c->∀v,s.heap.IsCell c v->h'.IsCell c v:=λx c e v ⟨o,L,W⟩=>by
  have O:c∉ch:=λz=>(B c z).2.2.1 x c e rfl;by_cases Y:c∈X.fs;·obtain⟨sl,q⟩:=slot c o (I.Ce x c e) Y O L (I.iH x c e);exact⟨_,q,W⟩
  ·exact⟨o,keep c o (I.Ce x c e) Y O L (I.iH x c e),W⟩
 refine⟨I.ok,I.os,Z,⟨λb o e n J g=>?_,λb o e n J g=>?_,λb o e n g=>?_,λb o e g=>?_,λb xs e=>jV b xs (I.base.jV b xs e),λb o xs e=>ju b o xs (I.base.ju b o xs e),λb ps e=>?_⟩,?_,λx c e=>?_,?_,λx c e=>?_,λp hp=>?_,U,I.len⟩;·exact keep b o (N b o e) J (F b o e g) (I.base.keep b o e n J g) (I.base.free b o e n g)
 ·obtain⟨sl,G⟩:=I.base.slot b o e n J g;obtain⟨jW,S⟩:=slot b _ (N b o e) J (F b o e g) G (I.base.free b o e n g);exact⟨jW,S⟩
 ·obtain⟨o',G⟩:=I.base.there b o e g;exact free b o' (F b o e g) G (I.base.free b o e n g)
 ·obtain⟨o',G⟩:=I.base.there b o e g;exact there b o' (F b o e g) G
 ·obtain⟨m1,G⟩:=I.base.jv b ps e;obtain⟨m2,S⟩:=jv b _ G;exact⟨m1++m2,by rw[S,Array.append_assoc]⟩
 ·obtain⟨m,hn,hl⟩:=I.loc;refine⟨m,ns m hn,λi x v G S e3=>?_⟩;obtain⟨u,r,l⟩:=hl i x v G S e3;refine⟨u,r,?_⟩;rcases l with l|⟨k,c,e,z⟩;·exact .inl l
  ·exact .inr ⟨k,c,e,j x c e _ z⟩
 ·obtain⟨v,z⟩:=I.cell x c e;exact⟨v,j x c e v z⟩
 ·obtain⟨m,⟨o,_,_,L,_⟩,_⟩:=I.loc;exact free _ o (λz=>(B _ z).2.1 rfl) L I.free
 ·obtain⟨v,o,L,W⟩:=I.cell x c e;exact free c o (λz=>(B c z).2.2.1 x c e rfl) L (I.iH x c e)
 ·obtain⟨e,n,ne,nf,d⟩:=I.pin p hp;grind
def Inv.un(I:Inv X pins σ H s)(u:Un X.fs [] H H' s.heap h')(g:dM X.prog X.w H' h'):Inv X pins σ H' {s with heap:=h',toks:=t'}:=by obtain⟨m,⟨o,es,M,F,r⟩,_⟩:=id I.loc;obtain⟨N,G⟩:=u.any F I.free (by simp);exact I.step (ch:=[]) (λ_ z=>nomatch z) (λb o _ j _ e n=>u.keep b o e n j (by simp)) (λb o _ j _ e n=>u.slot b o e n j (by simp)) (λb o _ e n=>u.free b o e n (by simp)) (λb o _ e=>u.there b o e (by simp)) u.jV u.ju u.jv (λO J=>by obtain⟨o',q,B,d,L⟩:=J;rw[F]at d;cases d;exact⟨_,q,B,G,L⟩) g I.bare
def Inv.call(I:Inv X pins σ H s)(u:Un (eG X.stack) ch H H' s.heap h')(q:dM X.prog X.w H' h')(L:rJ g')(g:∀b∈ch,(b∈X.ex\/X.er.heap.objs.size<=b)/\b≠X.env.locals/\(∀x c,X.env.cells.lookup x=some c->c≠b)/\∀p∈X.pn++pins,p.1≠b):Inv X pins σ H' {s with heap:=h',gens:=g',drawn:=d',toks:=t'}:=by obtain⟨m,⟨o,es,S,J,r⟩,_⟩:=id I.loc;obtain⟨U,B⟩:=u.any J I.free λz=>(g _ z).2.1 rfl;exact I.step g (λb o B M d e n=>u.keep b o e n (λz=>(ff.mp (I.Cf b z)).elim B M) d) (λb o _ _ d e n=>u.any e n d) (λb o d e n=>u.free b o e n d) (λb o d e=>u.there b o e d) u.jV u.ju u.jv (λW N=>by obtain⟨o',F,G,j,O⟩:=N;rw[J]at j;cases j;exact⟨_,F,G,B,O⟩) q L
def Inv.turned(I:Inv X pins σ H s)(k:∀b o,b≠it->s.heap.get? b=some o->h'.get? b=some o)(G:H it=none)(g:it≠X.env.locals)(h1:it∈X.ex\/X.er.heap.objs.size<=it)(h2:∀x c,X.env.cells.lookup x=some c->c≠it)(J:∀p∈X.pn++pins,p.1≠it):Inv X pins σ H {s with heap:=h',toks:=t'}:=by
 refine I.step (ch:=[it]) (λb L=>?_) (λb o _ _ d e _=>k b o (λz=>d (by simp[z])) e) (λb o _ _ d e _=>⟨o.slots,k b o (λz=>d (by simp[z])) e⟩) (λ_ _ _ _ n=>n) (λb o d e=>⟨o,k b o (λz=>d (by simp[z])) e⟩) (λ_ _ e=>e) (λ_ _ _ e=>e) (λb ps e=>⟨#[],by rw[e];rfl⟩) (λm j=>?_) (λb u e=>?_) I.bare;·grind
 ·obtain⟨o,es,B,F,r⟩:=j;exact⟨o,es,B,k _ o (bK g) F,r⟩
 ·refine(I.a9 b u e).k7 (λc v d q=>k c v ?_ q) (λ_ q=>q) λ_ _ q=>q;lia
def Inv.tok(I:Inv X pins σ H s)(t:Nat):Inv X pins σ H {s with toks:=t}:=I.un Un.refl I.a9
def Inv.kept(I:Inv X pins σ H s)(k:∀b u,s.heap.get? b=some u->h'.get? b=some u):Inv X pins σ H {s with heap:=h',toks:=t'}:=I.un (Un.kept k) (I.a9.kept k)
def Inv.laid(I:Inv X pins σ H s)(k:∀b u,s.heap.get? b=some u->h'.get? b=some u)(d:s.heap.objs.size<=a)(g:da X.prog X.w (upd H a o) h' a o):Inv X pins σ (upd H a o) {s with heap:=h',toks:=t'}:=I.un (Un.laid k d (I.a9.fresh d)) (I.a9.laid k d g)
def Inv.write(I:Inv X pins σ H s)(j:uQ (H x))(he:e=x\/H e=some (.own x))(k:∀b u,b≠e->s.heap.get? b=some u->h'.get? b=some u)(d:∃u,h'.get? e=some u)(g:da X.prog X.w (upd H x o) h' x o):Inv X pins σ (upd H x o) {s with heap:=h',toks:=t'}:=I.un (Un.write j he k d) (I.a9.write j he k d g)
def Inv.weak(I:Inv X pins σ H s)(j:d.length=σ.length)(w:∀(i:Nat) v,d[i]?=some (some v)->σ[i]?=some (some v)):Inv X pins d H s:=⟨I.ok,I.os,I.bare,I.base,let⟨m,n,g⟩:=I.loc;⟨m,n,λi x v q z B=>g i x v q (w i v z) B⟩,I.cell,I.free,I.iH,I.pin,I.a9,j.trans I.len⟩
def Inv.ym(I:Inv X pins σ H s)(h:∀p∈d,s.heap.get? p.1=some p.2/\H p.1=none/\p.1≠X.env.locals/\p.1∉X.fs/\∀v,p.2.data≠.cell v):Inv X d σ H s:=⟨I.ok,I.os,I.bare,I.base,I.loc,I.cell,I.free,I.iH,λp g=>(xH.mp g).elim (λz=>I.pin p (A3 _ z)) (h p),I.a9,I.len⟩
def Cg{N:List ag}(d:N.Nodup){i j:Nat}(a:N[i]?=some x)(b:N[j]?=some x):i=j:=by obtain⟨h1,g⟩:=gg.mp a;obtain⟨h2,n⟩:=gg.mp b;exact(List.getElem_inj d).mp (g.trans n.symm)
def HK{M:Model}{A:cG}{E:aj->ar->Prop}(I:Inv X pins σ H s)(hN:X.N.Nodup)(hi:X.N[i]?=some x)(G:Loc X.env.scope x)(r:RelV v u)(h:∀s',Inv X pins (σ.set i (some v)) H s'->(∃a,jO a s.heap s'.heap/\(a=X.env.locals\/X.env.cells.lookup x=some a))->Q () s')(hf:X.fn x=true\/X.env.scope.names.lookup x=some .local:=by first|exact .inl rfl|exact .inr rfl|assumption):aH M A (storeName X.env x u) Q E s:=by
 obtain⟨m,hn,hl⟩:=id I.loc;have SX:(X.env.scope.kind==.class||(X.env.scope.kind==.module&&X.env.locals !=X.env.globals))=false:=by rw[I.ok.kind];rfl
 have O:i<σ.length:=by rw[I.len];exact(gg.mp hi).1
 have U:=I.Ce;have B:∀{a:af} {h':aZ},(∃o,s.heap.get? a=some o/\H a=none)->jO a s.heap h'->dM X.prog X.w H h':=λ{a h'} ha g b ob e=>by obtain⟨_,_,HL⟩:=ha;refine(I.a9 b ob e).k7 (λc w' J q=>(g.2 c ?_).trans q) (λ_ q=>q) λ_ _ q=>q;lia
 rcases G with S|S
 ·refine wpAny_storeName_local S hn (λh' SY g=>?_) SX;obtain⟨oL,_,_,S0,_⟩:=id hn;refine h _ ⟨I.ok,I.os,I.bare,⟨λb o e n W G=>?_,λb o e n W G=>?_,I.base.free,λb o e G=>?_,I.base.jV,I.base.ju,I.base.jv⟩,⟨_,SY,λj y v' F L e3=>?_⟩,λy c e=>?_,I.free,I.iH,λp hp=>?_,B ⟨oL,S0,I.free⟩ g,by simpa using I.len⟩ ⟨_,g,.inl rfl⟩;·exact(g.2 b (ea (gf (cu e) I.ok.above))).trans (I.base.keep b o e n W G)
  ·obtain⟨sl,F⟩:=I.base.slot b o e n W G;exact⟨sl,(g.2 b (ea (gf (cu e) I.ok.above))).trans F⟩
  ·obtain⟨o',F⟩:=I.base.there b o e G;exact⟨o',(g.2 b (ea (gf (cu e) I.ok.above))).trans F⟩
  ·by_cases Y:j=i;·subst Y;rw[hi]at F;cases F;rw[pD O]at L;cases L;exact⟨u,r,.inl ⟨S,by simp⟩⟩
   ·rw[fu (bK Y)]at L;obtain⟨u',r',q⟩:=hl j y v' F L e3;refine⟨u',r',?_⟩;rcases q with⟨k,e⟩|⟨k,c,e,z⟩;·refine .inl ⟨k,?_⟩;have:y≠x:=λe=>Y (Cg hN F (e▸hi));simp[this,e]
    ·exact .inr ⟨k,c,e,z.sameBut g (U y c e)⟩
  ·obtain⟨w',z⟩:=I.cell y c e;exact⟨w',z.sameBut g (U y c e)⟩
  ·obtain⟨e,n,ne,nf,d⟩:=I.pin p hp;exact⟨(g.2 p.1 ne).trans e,n,ne,nf,d⟩
 ·have Z:X.fn x=true:=by
   rcases hf with z|z;·exact z
   ·rw[z]at S;nomatch S
  obtain⟨c,J⟩:=I.ok.has x (.inl S);obtain⟨w',z⟩:=I.cell x c J;refine wpAny_storeName_cell I.ok.kind S J z (λh' S1 g=>?_);obtain⟨oc,S2,acL⟩:=id z;refine h {s with heap:=h'} ⟨I.ok,I.os,I.bare,⟨λb o e n W G=>?_,λb o e n W G=>?_,I.base.free,λb o e G=>?_,I.base.jV,I.base.ju,I.base.jv⟩,⟨m,hn.sameBut g (bK (U x c J)),λj y v' F L e3=>?_⟩,λy c' e=>?_,I.free,I.iH,λp hp=>?_,B ⟨oc,S2,I.iH x c J⟩ g,by simpa using I.len⟩ ⟨c,g,.inr J⟩;·exact(g.2 b (ea (gf (cu e) (I.ok.oo x c Z J)))).trans (I.base.keep b o e n W G)
  ·obtain⟨sl,F⟩:=I.base.slot b o e n W G;exact⟨sl,(g.2 b (ea (gf (cu e) (I.ok.oo x c Z J)))).trans F⟩
  ·obtain⟨o',F⟩:=I.base.there b o e G;exact⟨o',(g.2 b (ea (gf (cu e) (I.ok.oo x c Z J)))).trans F⟩
  ·by_cases Y:j=i;·subst Y;rw[hi]at F;cases F;rw[pD O]at L;cases L;exact⟨u,r,.inr ⟨.inl S,c,J,S1⟩⟩
   ·rw[fu (bK Y)]at L;obtain⟨u',r',q⟩:=hl j y v' F L e3;refine⟨u',r',?_⟩;rcases q with q|⟨k,c',e,z'⟩;·exact .inl q
    ·refine .inr ⟨k,c',e,z'.sameBut g ?_⟩;rintro rfl;exact Y (Cg hN F (I.ok.inj _ _ _ e J▸hi))
  ·by_cases yn:c'=c;·grind
   ·obtain⟨w2,z2⟩:=I.cell y c' e;exact⟨w2,z2.sameBut g yn⟩
  ·obtain⟨e,n,ne,nf,d⟩:=I.pin p hp;refine⟨(g.2 p.1 ?_).trans e,n,ne,nf,d⟩;grind
def Ch(I:Inv X pins σ H s)(d:X.N.Nodup)(hi:X.N[i]?=some x)(g:Loc X.env.scope x)(r:RelV v u)(h:∀s',Inv X pins (σ.set i (some v)) H s'->Q () s')(hf:X.fn x=true\/X.env.scope.names.lookup x=some .local:=by first|exact .inl rfl|exact .inr rfl|assumption):aH M A (storeName X.env x u) Q E s:=HK I d hi g r (λs' j _=>h s' j) hf
def Inv.HM(I:Inv X pins σ H s)(j:s'.os=s.os)(u:Un (eG X.stack) ch H H' s.heap s'.heap)(d:dM X.prog X.w H' s'.heap)(n:rJ s'.gens)(g:∀b∈ch,(b∈X.ex\/X.er.heap.objs.size<=b)/\b≠X.env.locals/\(∀x c,X.env.cells.lookup x=some c->c≠b)/\∀p∈X.pn++pins,p.1≠b):Inv X pins σ H' s':=by obtain⟨h',q,z,t',o'⟩:=s';haveI e:=j;subst e;exact I.call u d n g
end
@[reducible]def XK:=aj->Option af->Hp->Prop
@[reducible]def St:=List (Option V)
@[reducible]def VK:=V->Hp->Prop
@[reducible]def TE:=St->Hp->VK->Prop
@[reducible]def TT:=St->Hp->(Bool->Hp->Prop)->Prop
@[reducible]def TA:=St->Hp->(List V->Hp->Prop)->Prop
structure Ends where
 nx:St->Hp->Prop
 rt:VK
 bk:St->Hp->Prop:=λ_ _=>False
 ct:St->Hp->Prop:=λ_ _=>False
@[reducible]def TS:=Ends->St->Hp->Prop
inductive EP(X:Cx)(pins:List (af×bu))(σ:St)(Q:VK)(u:aj)(s':ar):Prop|mk:∀v H',Inv X pins σ H' s'->RelV v u->Q v H'->EP X pins σ Q u s'
abbrev TP(X:Cx)(pins:List (af×bu))(σ:St)(Q:Bool->Hp->Prop)(b:Bool)(s':ar):Prop:=∃H',Inv X pins σ H' s'/\Q b H'
inductive AP(X:Cx)(pins:List (af×bu))(σ:St)(Q:List V->Hp->Prop)(us:List aj)(s':ar):Prop|mk:∀vs H',Inv X pins σ H' s'->Vals vs us->Q vs H'->AP X pins σ Q us s'
inductive sB(X:Cx)(pins:List (af×bu))(N:St->Hp->Prop)(s':ar):Prop|mk:∀et H',Inv X pins et H' s'->N et H'->sB X pins N s'
inductive HN(X:Cx)(pins:List (af×bu))(N:VK)(u:aj)(s':ar):Prop|mk:∀v et H',Inv X pins et H' s'->RelV v u->N v H'->HN X pins N u s'
abbrev SP(X:Cx)(pins:List (af×bu))(D:Ends)(f:Flow)(s':ar):Prop:=match f with|.next=>sB X pins D.nx s'|.brk=>sB X pins D.bk s'|.cont=>sB X pins D.ct s'|.ret u=>HN X pins D.rt u s'
abbrev PE(X:Cx)(e:bp)(t:TE):Prop:=∀(pins:List (af×bu)) (s:ar) (σ:St) (H:Hp) (Q:VK),Inv X pins σ H s->t σ H Q->aH (aF X.prog X.w) X.A (aP e X.env) (EP X pins σ Q) X.xe s
abbrev PT(X:Cx)(e:bp)(t:TT):Prop:=∀(pins:List (af×bu)) (s:ar) (σ:St) (H:Hp) (Q:Bool->Hp->Prop),Inv X pins σ H s->t σ H Q->aH (aF X.prog X.w) X.A (isTrue e X.env (aP e X.env)) (TP X pins σ Q) X.xe s
abbrev PW(X:Cx)(e:bp)(t:TT):Prop:=∀(d:d4 aj) (pins:List (af×bu)) (s:ar) (σ:St) (H:Hp) (Q:Bool->Hp->Prop),Inv X pins σ H s->t σ H Q->aH (aF X.prog X.w) X.A (isTrue e X.env d) (TP X pins σ Q) X.xe s
def PW.pt(h:PW X e t):PT X e t:=h _
abbrev PA(X:Cx)(es:List bp)(t:TA):Prop:=∀(pos:cj) (pins:List (af×bu)) (s:ar) (σ:St) (H:Hp) (Q:List V->Hp->Prop),Inv X pins σ H s->t σ H Q->aH (aF X.prog X.w) X.A (spliced (bF pos (aB es X.env))) (AP X pins σ Q) X.xe s
abbrev PS(X:Cx)(st:dm)(t:TS):Prop:=∀(pins:List (af×bu)) (s:ar) (σ:St) (H:Hp) (D:Ends),Inv X pins σ H s->t D σ H->aH (aF X.prog X.w) X.A (exec st X.env) (SP X pins D) X.xe s
abbrev df(X:Cx)(st:List dm)(t:TS):Prop:=∀(pins:List (af×bu)) (s:ar) (σ:St) (H:Hp) (D:Ends),Inv X pins σ H s->t D σ H->aH (aF X.prog X.w) X.A (execs st X.env) (SP X pins D) X.xe s
def ba{d:Type}{t:d4 d}{Q g:d->ar->Prop}(h:aH M A t Q E s)(j:∀a s,Q a s->g a s):aH M A t g E s:=fw h j λ_ _ x=>x
end L2
namespace L2
open PySem PySem.Spec PyProof.Rows
section
variable{X:Cx}
def bin(q:PE X a ta)(z:PE X b tb){R:V->V->Hp->Prop}(I:Inv X pins σ H s)(h:ta σ H λx H1=>tb σ H1 λy H2=>R x y H2){n:Type}{Q:n->ar->Prop}{f:aj->aj->d4 n}(hf:∀v u j x y H2,Inv X pins σ H2 j->RelV x v->RelV y u->R x y H2->aH (aF X.prog X.w) X.A (f v u) Q X.xe j):aH (aF X.prog X.w) X.A (aP a X.env) (λv d=>aH (aF X.prog X.w) X.A (aP b X.env) (λu g=>aH (aF X.prog X.w) X.A (f v u) Q X.xe g) X.xe d) X.xe s:=by refine ba (q pins s σ H _ I h) λv B z1=>?_;obtain⟨x,H1,F,J,G⟩:=z1;refine ba (z pins B σ H1 _ F G) λu j z2=>?_;obtain⟨y,H2,L,M,N⟩:=z2;grind
inductive d5(i:Nat)(σ:St)(H:Hp)(Q:VK):Prop|mk:∀v,σ[i]?=some (some v)->Q v H->d5 i σ H Q
abbrev tC(v:V):TE:=λ_ H Q=>Q v H
def S3(z:X.N[i]?=some x)(B:fP X.env.scope x)(j:((x==("__debug__":ag))=false)⁻¹) (n:((x==("__classdict__":ag))=false)⁻¹):PE X (.Name x pos) (d5 i):=by
 intro pins s σ H Q I h;obtain⟨v,e,h⟩:=h;obtain⟨m,F,G⟩:=I.loc;obtain⟨u,r,l⟩:=G i x v z e B;have fin:EP X pins σ Q u s:=⟨v,H,I,r,h⟩;rcases l with⟨g,J⟩|⟨g,c,q,d⟩;·exact A5 (QR I.ok.kind g F J fin) j
 ·rcases g with g|g;·exact A5 (abH I.ok.kind g q d fin) j
  ·exact A5 (abI I.ok.kind g q d fin n) j
def fk:PE X (.Constant (.int i) j pos) (tC (.int i)):=λ_ _ _ H _ I h=>wpAny_Constant_int ⟨.int i,H,I.tok _,⟨_,rfl⟩,h⟩
def uR:PE X (.Constant (.bool b) j pos) (tC (.bl b)):=λ_ _ _ H _ I h=>Constant_bool ⟨.bl b,H,I,rfl,h⟩
def HP:PE X (.Constant .none j pos) (tC .ah):=λ_ _ _ H _ I h=>QS ⟨.ah,H,I,rfl,h⟩
abbrev Gl(X:Cx)(x:ag):Prop:=X.env.kindOf x=some .globalImplicit
def pX(I:Inv X pins σ H s)(d:Gl X x)(g:X.mg x=some u)(h:Q u s)(j:((x==("__debug__":ag))=false)⁻¹):aH (aF X.prog X.w) X.A (aP (.Name x pos) X.env) Q E s:=abJ I.ok.kind d (Calls.loadGlobal_global (by rw[I.ok.glob];exact I.mod.glob.keeps I.bk) g h) j
def k9(I:Inv X pins σ H s)(d:Gl X x)(g:X.mg x=none)(j:ut x=some u)(h:Q u s)(n:(x≠"__name__")⁻¹) (q:((x==("__debug__":ag))=false)⁻¹):aH (aF X.prog X.w) X.A (aP (.Name x pos) X.env) Q E s:=by obtain⟨z,h1,h2⟩:=I.mod.blt;exact abJ I.ok.kind d (Calls.loadGlobal_builtin (by rw[I.ok.glob];exact I.mod.glob.keeps I.bk) g (by rw[I.ok.blt];exact h1.keeps I.bk) ((h2 x n).trans j) h) q
def uS(d:Gl X x)(g:X.mg x=some u)(r:RelV v u)(j:((x==("__debug__":ag))=false)⁻¹):PE X (.Name x pos) (tC v):=λ_ _ _ H _ I h=>pX I d g ⟨v,H,I,r,h⟩ j
variable{a b:bp}{ta tb:TE}{pos:cj}
abbrev PC(X:Cx)(op:CmpOp)(a b:bp)(t:TE):Prop:=∀(pins:List (af×bu)) (s:ar) (σ:St) (H:Hp) (Q:VK),Inv X pins σ H s->t σ H Q->aH (aF X.prog X.w) X.A (aP a X.env) (λv d=>aH (aF X.prog X.w) X.A (aP b X.env) (λu g=>aH (aF X.prog X.w) X.A (fg op v u) (EP X pins σ Q) X.xe g) X.xe d) X.xe s
def HQ(b:bp){op:CmpOp}(h:op≠.In)(h2:op≠.NotIn):iD op b=false:=by
 have d:(op==CmpOp.In)=false:=by cases op<;>first|rfl|exact bw rfl h
 have g:(op==CmpOp.NotIn)=false:=by cases op<;>first|rfl|exact bw rfl h2
 cases b<;>first|rfl|(show((_:Nat)==0&&(op==.In||op==.NotIn)&&_)=false;rw[d,g,AZ,abK,Bool.false_and])
abbrev S4(ta:TE):TE:=λσ H Q=>ta σ H λx H1=>Q (.bl (decide (x=.ah))) H1
abbrev HR(ta:TE):TE:=λσ H Q=>ta σ H λx H1=>Q (.bl (!decide (x=.ah))) H1
def RelV.HS(r:RelV x v):(v==QM)=decide (x=.ah):=by cases x with|ah=>subst r;rfl|bl _=>subst r;rfl|int _=>obtain⟨t,rfl⟩:=r;rfl|str _=>obtain⟨t,rfl⟩:=r;rfl|jU _=>obtain⟨t,rfl⟩:=r;rfl|uP _=>obtain⟨t,rfl⟩:=r;rfl|ref _=>subst r;rfl|ty _=>subst r;rfl
def HU(d:PE X a ta):PC X .Is a (.Constant .none j pos') (S4 ta):=by intro pins s σ H Q I h;refine ba (d pins s σ H _ I h) λv z ⟨x,H1,g,n,q⟩=>?_;exact QS (is_none_gen ⟨.bl _,H1,g,by rw[n.HS];rfl,q⟩)
def S5(d:PE X a ta):PC X .IsNot a (.Constant .none j pos') (HR ta):=by intro pins s σ H Q I h;refine ba (d pins s σ H _ I h) λv z z1=>?_;obtain⟨x,H1,g,n,q⟩:=z1;exact QS (isnot_none_gen ⟨.bl _,H1,g,by rw[n.HS];rfl,q⟩)
inductive Ci(Q:Bool->Hp->Prop)(x:V)(H1:Hp):Prop|mk:∀c,x=.bl c->Q c H1->Ci Q x H1
abbrev tB(t:TE):TT:=λσ H Q=>t σ H (Ci Q)
def HV(h:PC X op a b t)(h1:iD op b=false:=by first|exact HQ _ (by decide) (by decide)|rfl):PE X (.Compare a [op] [b] pos) t:=λpins s σ H Q I d=>wpAny_Compare1 (h pins s σ H Q I d) h1
def pY(h:PC X op a b t)(h1:iD op b=false:=by first|exact HQ _ (by decide) (by decide)|rfl):PT X (.Compare a [op] [b] pos) (tB t):=by intro pins s σ H Q I g;refine abL (ba (h pins s σ H _ I g) λv B h1=>ba h1 λu F h2=>ba h2 λc G ⟨x,H1,j,n,z⟩=>?_) h1;obtain⟨d,rfl,q⟩:=z;subst n;exact mM ⟨H1,j,q⟩
def uT(h:PE X e t)(he:∀g,isTrue e X.env g=(do let v<-g;mN e.pos;jP [v] (truthy v)):=by intro _;rfl):PT X e (tB t):=by intro pins s σ H Q I j;refine isTrue_plain (ba (h pins s σ H _ I j) λv F ⟨x,H1,n,z,B⟩=>?_) (he _);obtain⟨d,rfl,q⟩:=B;subst z;exact mM ⟨H1,n,q⟩
variable{tA yo:TT}{rest:List bp}
abbrev HW(t u:TT):TT:=λσ H Q=>t σ H λc H1=>if c=true then u σ H1 Q else Q false H1
abbrev HX(t u:TT):TT:=λσ H Q=>t σ H λc H1=>if c=true then Q true H1 else u σ H1 Q
abbrev HY(t:TT):TT:=λσ H Q=>t σ H λc H1=>Q (!c) H1
def S6(d:PT X a tA):PW X (.BoolOp .And [a] pos) tA:=by intro g pins s σ H Q I h;refine isTrue_and (ba (d pins s σ H Q I h) λc j e=>?_);cases c with|true=>exact isTrue_and_nil e|false=>exact e
def S7(d:PT X a tA):PW X (.BoolOp .Or [a] pos) tA:=by intro g pins s σ H Q I h;refine isTrue_or (ba (d pins s σ H Q I h) λc j e=>?_);cases c with|false=>exact isTrue_or_nil e|true=>exact e
def S8(d:PT X a tA)(g:PW X (.BoolOp .And (b::rest) pos) yo):PW X (.BoolOp .And (a::b::rest) pos) (HW tA yo):=by intro j pins s σ H Q I h;refine isTrue_and (ba (d pins s σ H _ I h) λc n ⟨H1,q,z⟩=>?_);cases c with|true=>exact g j pins n σ H1 Q q z|false=>assumption
def S9(d:PT X a tA)(g:PW X (.BoolOp .Or (b::rest) pos) yo):PW X (.BoolOp .Or (a::b::rest) pos) (HX tA yo):=by intro j pins s σ H Q I h;refine isTrue_or (ba (d pins s σ H _ I h) λc n ⟨H1,q,z⟩=>?_);cases c with|true=>assumption|false=>exact g j pins n σ H1 Q q z
def Ta(d:PT X a tA):PT X (.UnaryOp .Not a pos) (HY tA):=by intro pins s σ H Q I h;exact isTrue_not (d pins s σ H (λc H1=>Q (!c) H1) I h)
abbrev HZ(ta tb:TE):TE:=λσ H Q=>ta σ H λx H1=>∃c,x=.bl c/\if c=true then tb σ H1 Q else Q (.bl false) H1
abbrev Ia(ta tb:TE):TE:=λσ H Q=>ta σ H λx H1=>∃c,x=.bl c/\if c=true then Q (.bl true) H1 else tb σ H1 Q
inductive Ib(Q:VK)(x:V)(H1:Hp):Prop|mk:∀c,x=.bl c->Q (.bl (!c)) H1->Ib Q x H1
abbrev Ic(ta:TE):TE:=λσ H Q=>ta σ H (Ib Q)
def Tb(h:PE X a t):PE X (.BoolOp op [a] pos) t:=λpins s σ H Q I d=>BoolOp_one (h pins s σ H Q I d)
def Tc(j:PE X a ta)(n:PE X (.BoolOp .And (b::rest) pos) tb):PE X (.BoolOp .And (a::b::rest) pos) (HZ ta tb):=by intro pins s σ H Q I h;refine BoolOp_and (ba (j pins s σ H _ I h) λv q z1=>?_);obtain⟨x,H1,g,z,d⟩:=z1;obtain⟨c,rfl,d⟩:=d;subst z;refine mM ?_;cases c with|true=>exact n pins q σ H1 Q g d|false=>exact⟨.bl false,H1,g,rfl,d⟩
def Td(j:PE X a ta)(n:PE X (.BoolOp .Or (b::rest) pos) tb):PE X (.BoolOp .Or (a::b::rest) pos) (Ia ta tb):=by intro pins s σ H Q I h;refine BoolOp_or (ba (j pins s σ H _ I h) λv q z1=>?_);obtain⟨x,H1,g,z,d⟩:=z1;obtain⟨c,rfl,d⟩:=d;subst z;refine mM ?_;cases c with|false=>exact n pins q σ H1 Q g d|true=>exact⟨.bl true,H1,g,rfl,d⟩
def Te(g:PE X a ta):PE X (.UnaryOp .Not a pos) (Ic ta):=by intro pins s σ H Q I h;refine UnaryOp_ (ba (g pins s σ H _ I h) λv q z1=>?_);obtain⟨x,H1,j,n,d⟩:=z1;obtain⟨c,rfl,d⟩:=d;subst n;exact not_of (mM ⟨.bl (!c),H1,j,rfl,d⟩)
abbrev Ie(t:TT)(ta tb:TE):TE:=λσ H Q=>t σ H λc H1=>if c=true then ta σ H1 Q else tb σ H1 Q
def Tf(q:PT X c tA)(z:PE X a ta)(B:PE X b tb):PE X (.IfExp c a b pos) (Ie tA ta tb):=by intro pins s σ H Q I h;refine wpAny_IfExp (ba (q pins s σ H _ I h) λd g z1=>?_);obtain⟨H1,j,n⟩:=z1;cases d with|true=>exact z pins g σ H1 Q j n|false=>exact B pins g σ H1 Q j n
end
end L2
namespace L2
open PySem PySem.Spec PyProof.Rows
abbrev dG(K:br)(H:Hp)(a:af)(xs:List V):Prop:=Rd H a (.lst xs)\/∃(o:bu) (its:Array aj) (n:Nat),K.lookup a=some o/\o.cls=.type "list"/\o.dict=none/\o.data=.seq its n/\its.size<=bj/\Vals xs its.toList
abbrev cS(K:br)(H:Hp)(a:af)(xs:List V):Prop:=Rd H a (.tup xs)\/∃(o:bu) (its:Array aj) (n:Nat),K.lookup a=some o/\o.cls=.type "tuple"/\o.data=.seq its n/\its.size<=bj/\Vals xs its.toList
abbrev Tg:aj->Option V|.none=>some .ah|.bool b=>some (.bl b)|.int i _=>some (.int i)|.str x _=>some (.str x)|.bytes b _=>some (.jU b)|.float b _=>some (.uP b)|.ref a=>some (.ref a)|.type n=>some (.ty n)|_=>none
def RelV.abs(r:RelV x u):Tg u=some x:=by cases x with|ah=>subst r;rfl|bl _=>subst r;rfl|int _=>obtain⟨t,rfl⟩:=r;rfl|str _=>obtain⟨t,rfl⟩:=r;rfl|jU _=>obtain⟨t,rfl⟩:=r;rfl|uP _=>obtain⟨t,rfl⟩:=r;rfl|ref _=>subst r;rfl|ty _=>subst r;rfl
def RelV.inj(r:RelV x u)(q:RelV y u):x=y:=eR (r.abs.symm.trans q.abs)
def Vals.inj:∀{xs ys:List V}{us:List aj},Vals xs us->Vals ys us->xs=ys|_,_,_,.nil,.nil=>rfl|_,_,_,.cons r t,.cons d t'=>by rw[r.inj d,Vals.inj t t']
section
variable{X:Cx}{pins:List (af×bu)}{σ:St}{H:Hp}{s:ar}{a:af}{xs ys:List V}
def Inv.list(I:Inv X pins σ H s)(h:dG X.K H a xs):∃its:List aj,Vals xs its/\PlainL s.heap a its.toArray/\xs.length<=bj:=by
 rcases h with h|⟨o,its,n,d,g,j,q,B,r⟩;·obtain⟨z,its,n,r,e⟩:=h.ok I.a9;exact⟨its,r,⟨_,n,e,rfl,rfl,rfl⟩,z⟩
 ·refine⟨its.toList,r,⟨o,n,I.gm a o d,g,j,by omega⟩,?_⟩;have e:=r.length;simp_all
def Inv.tuple(I:Inv X pins σ H s)(h:cS X.K H a xs):∃its:List aj,Vals xs its/\gV s.heap a its.toArray/\xs.length<=bj:=by
 rcases h with h|⟨o,its,n,d,g,j,q,r⟩;·obtain⟨z,its,r,p⟩:=h.ok I.a9;grind
 ·refine⟨its.toList,r,⟨o,I.gm a o d,g,n,by omega⟩,?_⟩;have e:=r.length;simp_all
def Inv.Cj(I:Inv X pins σ H s)(h:dG X.K H a xs)(h':dG X.K H a ys):xs=ys:=by
 obtain⟨its,r,⟨o,n,e,_,_,d⟩,_⟩:=I.list h;obtain⟨g,z,⟨o',F,j,_,_,q⟩,_⟩:=I.list h';rw[e]at j;cases j;rw[d]at q;injection q with B _;have:its=g:=by simpa using bz Array.toList B
 subst this;exact r.inj z
def Inv.yp(I:Inv X pins σ H s)(h:cS X.K H a xs)(h':cS X.K H a ys):xs=ys:=by
 obtain⟨its,r,⟨o,e,_,n,d⟩,_⟩:=I.tuple h;obtain⟨g,z,⟨o',j,_,F,q⟩,_⟩:=I.tuple h';rw[e]at j;cases j;rw[d]at q;injection q with B _;have:its=g:=by simpa using bz Array.toList B
 subst this;exact r.inj z
end
@[reducible]def Cx.l8(X:Cx)(E:aj->ar->Prop):Cx:={X with xe:=E}
@[reducible]def Cx.kB(X:Cx):Cx:=X.l8 λ_ _=>False
def Cx.Ok.l8{X:Cx}(d:X.Ok)(E:aj->ar->Prop):(X.l8 E).Ok:=⟨d.mod,d.kind,d.glob,d.blt,d.above,d.inj,d.has,d.oo,d.hd,d.frames,d.pV,d.pW,d.bs,d.jw,d.oq,d.ot,d.iG,d.k8⟩
def Cx.Ok.ou{X:Cx}(d:(X.l8 E).Ok):X.Ok:=⟨d.mod,d.kind,d.glob,d.blt,d.above,d.inj,d.has,d.oo,d.hd,d.frames,d.pV,d.pW,d.bs,d.jw,d.oq,d.ot,d.iG,d.k8⟩
section
variable{X:Cx}{pins:List (af×bu)}{σ:St}{H:Hp}{s:ar}{E:aj->ar->Prop}
def Inv.l8(I:Inv X pins σ H s)(E:aj->ar->Prop):Inv (X.l8 E) pins σ H s:=⟨I.ok.l8 E,I.os,I.bare,I.base,I.loc,I.cell,I.free,I.iH,I.pin,I.a9,I.len⟩
def Inv.ou(I:Inv (X.l8 E) pins σ H s):Inv X pins σ H s:=⟨I.ok.ou,I.os,I.bare,I.base,I.loc,I.cell,I.free,I.iH,I.pin,I.a9,I.len⟩
def SP.ou(h:SP (X.l8 E) pins D f s'):SP X pins D f s':=by cases f with|next=>obtain⟨d,H',I,q⟩:=h;exact⟨d,H',I.ou,q⟩|brk=>obtain⟨d,H',I,q⟩:=h;exact⟨d,H',I.ou,q⟩|cont=>obtain⟨d,H',I,q⟩:=h;exact⟨d,H',I.ou,q⟩|ret u=>obtain⟨v,d,H',I,r,q⟩:=h;exact⟨v,d,H',I.ou,r,q⟩
def df.kB{st:List dm}(h:df X.kB st t):df X st t:=λpins s σ H D I d=>fw (h pins s σ H D (I.l8 _) d) (λ_ _ q=>q.ou) λ_ _ z=>mO z
end
section
variable{X:Cx}{st:dm}{rest:List dm}{t u:TS}{e:bp}{te:TE}{pos:cj}
abbrev uU:TS:=λD σ H=>D.nx σ H
abbrev ow(t u:TS):TS:=λD σ H=>t {D with nx:=u D} σ H
def io:df X [] uU:=λ_ _ σ H _ I h=>A7 ⟨σ,H,I,h⟩
def bV(h1:PS X st t)(h2:df X rest u):df X (st::rest) (ow t u):=by intro pins s σ H D I h;refine wpAny_execs_cons (ba (h1 pins s σ H _ I h) λf g q=>?_);cases f with|next=>obtain⟨d,H',j,q⟩:=q;exact h2 pins g d H' D j q|ret v=>exact q|brk=>exact q|cont=>exact q
def cK(h1:PS X st t):df X [st] t:=by intro pins s σ H D I h;refine wpAny_execs_cons (ba (h1 pins s σ H D I h) λf d q=>?_);cases f with|next=>exact A7 q|ret v=>exact q|brk=>exact q|cont=>exact q
def Inv.quiet(I:Inv X pins σ H s):interactive X.env=false:=by simp[interactive,I.ok.kind]
abbrev mX(te:TE):TS:=λD σ H=>te σ H λ_ H1=>D.nx σ H1
def iI(he:PE X e te)(d: ~~~(fJ e none pos.line X.env=pure false)):PS X (.Expr e pos) (mX te):=by intro pins s σ H D I h;exact wpAny_Expr_any (ba (he pins s σ H _ I h) λv n ⟨x,H1,g,q,j⟩=>⟨σ,H1,g,j⟩) I.quiet d
abbrev yq(te:TE):TS:=λD σ H=>te σ H D.rt
def ee(he:PE X e te):PS X (.Return (some e) pos) (yq te):=by intro pins s σ H D I h;exact wpAny_Return_some (ba (he pins s σ H _ I h) λv n ⟨x,H1,d,g,j⟩=>⟨x,σ,H1,d,g,j⟩)
abbrev Ck(c:TT)(t u:TS):TS:=λD σ H=>c σ H λb H1=>if b=true then t D σ H1 else u D σ H1
def ip(q:PT X c tc)(z:df X a t)(B:df X b u):PS X (.If c a b pos) (Ck tc t u):=by intro pins s σ H D I h;refine wpAny_If (ba (q pins s σ H _ I h) λd g z1=>?_);obtain⟨H1,j,n⟩:=z1;cases d with|true=>exact z pins g σ H1 D j n|false=>exact B pins g σ H1 D j n
end
@[reducible]def TG:=V->St->Hp->(St->Hp->Prop)->Prop
@[reducible]def uV:=List V->St->Hp->(St->Hp->Prop)->Prop
abbrev PG(X:Cx)(d:bp)(t:TG):Prop:=∀(pins:List (af×bu)) (s:ar) (σ:St) (H:Hp) (v:V) (u:aj) (Q:St->Hp->Prop),Inv X pins σ H s->RelV v u->t v σ H Q->aH (aF X.prog X.w) X.A (rK d X.env u) (λ_ s'=>sB X pins Q s') X.xe s
abbrev uW(X:Cx)(d:List bp)(t:uV):Prop:=∀(pins:List (af×bu)) (s:ar) (σ:St) (H:Hp) (vs:List V) (us:List aj) (Q:St->Hp->Prop),Inv X pins σ H s->Vals vs us->t vs σ H Q->aH (aF X.prog X.w) X.A (assignInOrder ((mP d X.env).map (·.2)) us) (λ_ s'=>sB X pins Q s') X.xe s
@[reducible]def Ig:=V->V->V->Hp->(Hp->Prop)->Prop
abbrev Ih(X:Cx)(t:Ig):Prop:=∀(pins:List (af×bu)) (s:ar) (σ:St) (H:Hp) (o i v:V) (d g u:aj) (Q:Hp->Prop),Inv X pins σ H s->RelV o d->RelV i g->RelV v u->t o i v H Q->aH (aF X.prog X.w) X.A (setItem d g u) (λ_ s'=>∃H',Inv X pins σ H' s'/\Q H') X.xe s
@[reducible]def Ik:=V->V->Hp->VK->Prop
abbrev Il(X:Cx)(op:Operator)(t:Ik):Prop:=∀(pins:List (af×bu)) (s:ar) (σ:St) (H:Hp) (x y:V) (v u:aj) (Q:VK),Inv X pins σ H s->RelV x v->RelV y u->t x y H Q->aH (aF X.prog X.w) X.A (inplaceOp op v u) (EP X pins σ Q) X.xe s
section
variable{X:Cx}{pos:cj}
abbrev iT(i:Nat):TG:=λv σ H Q=>Q (σ.set i (some v)) H
def oy(d:X.N.Nodup)(hi:X.N[i]?=some x)(g:Loc X.env.scope x)(hf:X.fn x=true\/X.env.scope.names.lookup x=some .local:=by first|exact .inl rfl|exact .inr rfl|assumption):PG X (.Name x pos) (iT i):=by intro pins s σ H v u Q I r h;exact wpAny_assign_Name (Ch I d hi g r (λs' j=>⟨_,H,j,h⟩) hf)
abbrev Cm:uV:=λvs σ H Q=>vs=[]/\Q σ H
inductive yr(t:TG)(u:uV)(vs:List V)(σ:St)(H:Hp)(Q:St->Hp->Prop):Prop|mk:∀v r,vs=v::r->(t v σ H λet H'=>u r et H' Q)->yr t u vs σ H Q
def Im:uW X [] Cm:=by intro pins s σ H vs us Q I r h;obtain⟨e,h⟩:=h;subst e;exact assignInOrder_nil ⟨σ,H,I,h⟩
def Cn(h1:PG X e t)(h2:uW X es u)(g: ~~~((mP (e::es) X.env).map (·.2)=rK e X.env::(mP es X.env).map (·.2))):uW X (e::es) (yr t u):=by intro pins s σ H vs us Q I r h;obtain⟨v,F,j,h⟩:=h;subst j;cases r with|cons r n=>rw[g];refine assignInOrder_cons (ba (h1 pins s σ H _ _ _ I r h) λ_ q z1=>?_);obtain⟨d,H1,z,B⟩:=z1;exact h2 pins q d H1 _ _ Q z n B
inductive yt(K:br)(n:Nat)(t:uV)(v:V)(σ:St)(H:Hp)(Q:St->Hp->Prop):Prop|mk:∀a xs,v=.ref a->cS K H a xs->xs.length=n->t xs σ H Q->yt K n t v σ H Q
def Io(j:X.calm=true)(h:uW X es t)(q: ~~~((mP es X.env).length=n)) (d: ~~~((mP es X.env).findIdx? (·.1)=none)):PG X (.Tuple es k pos) (yt X.K n t):=by intro pins s σ H v u Q I r g;obtain⟨a,xs,z,B,F,g⟩:=g;subst z;subst r;obtain⟨its,G,J,N⟩:=I.tuple B;refine assign_Tuple_tuple (I.ok.hd j) J (by simp[q,<-F,G.length]) d λh' L=>?_;haveI M:=I.kept (t':=s.toks) λb o e=>L b o (ea (cu e)) e;exact h pins _ σ H xs _ Q M (by omega) g
abbrev Ip(to d:TE)(t:Ig):TG:=λv σ H Q=>to σ H λo H1=>d σ H1 λi H2=>t o i v H2 λg=>Q σ g
def Th(j:PE X o to)(hi:PE X i n)(q:Ih X t)
    (W:∀v,rK (.Subscript o i pos) X.env v=(do
     let d<-jP [v] (aP o X.env) let g<-jP [v,d] (aP i X.env)
     mN pos
     jP [v,d,g] (setItem d g v)
     release [v,d,g] []):=by intro _;rfl):PG X (.Subscript o i pos) (Ip to n t):=by intro pins s σ H v u Q I r h;refine aJ (rL (ba (j pins s σ H _ I h) λd z z1=>?_));obtain⟨x,H1,B,F,G⟩:=z1;refine aJ (rL (ba (hi pins z σ H1 _ B G) λg J z2=>?_));obtain⟨y,H2,L,M,N⟩:=z2;refine aJ (Gp (aJ (rL (ba (q pins J σ H2 x y v d g u _ L F M r N) λ_ Y z3=>?_))));obtain⟨O,S,U⟩:=z3;exact wpAny_release ⟨σ,O,S,U⟩
abbrev la(te:TE)(g:TG):TS:=λD σ H=>te σ H λx H1=>g x σ H1 D.nx
def Ti(he:PE X e te)(d:PG X tg g)(j: ~~~(swapsWithSole [tg] e pos.line X.env=pure false)) (n: ~~~(swappedStores [tg] e X.env=pure none)) (h1: ~~~((mP [tg] X.env).map (·.2)=[rK tg X.env])):PS X (.Assign [tg] e pos) (la te g):=by intro pins s σ H D I h;refine wpAny_Assign_stores (ba (he pins s σ H _ I h) λv z ⟨x,H1,B,F,G⟩=>?_) j n;rw[h1];exact ba (d pins z σ H1 x v _ B F G) λ_ J q=>q
def uX(d:X.N.Nodup)(hi:X.N[i]?=some x)(g:Loc X.env.scope x)(he:PE X e te)(j: ~~~(fJ e (some (.Name x pos')) pos.line X.env=pure false)) (hf:X.fn x=true\/X.env.scope.names.lookup x=some .local:=by first|exact .inl rfl|exact .inr rfl|assumption):PS X (.Assign [.Name x pos'] e pos) (la te (iT i)):=by intro pins s σ H D I h;refine wpAny_Assign_Name (ba (he pins s σ H _ I h) λv F ⟨y,H1,n,q,z⟩=>?_) j;exact Ch n d hi g q (λG B=>⟨_,H1,B,z⟩) hf
inductive Co(i:Nat)(te:TE)(ti:Ik)(D:Ends)(σ:St)(H:Hp):Prop|mk:∀x,σ[i]?=some (some x)->(te σ H λy H1=>ti x y H1 λz H2=>D.nx (σ.set i (some z)) H2)->Co i te ti D σ H
def Tj(F:X.N.Nodup)(hi:X.N[i]?=some x)(q:Loc X.env.scope x)(he:PE X e te)(G:Il X op J)(hf:X.fn x=true\/X.env.scope.names.lookup x=some .local:=by first|exact .inl rfl|exact .inr rfl|assumption):PS X (.AugAssign (.Name x pos') op e pos) (Co i te J):=by
 intro pins s σ H D I h;obtain⟨v,L,h⟩:=h;obtain⟨m,M,O⟩:=I.loc;have B:fP X.env.scope x:=by rcases q with k|k;exact .inl k;exact .inr (.inl k)
 obtain⟨u,r,l⟩:=O i x v hi L B;refine wpAny_AugAssign_Name ?_;have go:aH (aF X.prog X.w) X.A (aP e X.env) (λw j=>aH (aF X.prog X.w) X.A (inplaceOp op u w) (λr n=>aH (aF X.prog X.w) X.A (storeName X.env x r) (λ_=>SP X pins D .next) X.xe n) X.xe j) X.xe s:=by refine ba (he pins s σ H _ I h) λw S z1=>?_;obtain⟨y,H1,U,W,Y⟩:=z1;refine ba (G pins S σ H1 v y u w _ U r W Y) λz s2 z2=>?_;obtain⟨zv,H2,Z,r2,q2⟩:=z2;exact Ch Z F hi q r2 (λs3 I3=>⟨_,H2,I3,q2⟩) hf
 rcases l with⟨d,hm⟩|⟨d,c,hc,g⟩;·exact QR I.ok.kind d M hm go
 ·rcases d with d|d;·exact abH I.ok.kind d hc g go
  ·rcases q with k|k;·have:X.env.scope.names.lookup x=some .free:=d;simp_all
   ·have:X.env.scope.names.lookup x=some .free:=d;simp_all
inductive Cp(f:Int->Int->Int)(x:V)(y:V)(H:Hp)(Q:VK):Prop|mk:∀i j,x=.int i->y=.int j->Q (.int (f i j)) H->Cp f x y H Q
def Tk:Il X .Add (Cp λi j=>i+j):=by intro pins s σ H x y v u Q I d g h;obtain⟨i,j,n,z,q⟩:=h;subst n;subst z;obtain⟨t,rfl⟩:=d;obtain⟨t',rfl⟩:=g;exact abM ⟨.int _,H,I.tok _,⟨_,rfl⟩,q⟩
end
section
variable{X:Cx}{pos:cj}
abbrev Iq(c:TT)(tb:TS):TS:=λD σ H=>∃W:Nat->St->Hp->Prop,(∃m,W m σ H)/\∀m σ H,W m σ H->c σ H λb H1=>if b=true then∃N:St->Hp->Prop,(∀d H',N d H'->∃g,g<m/\W g d H')/\tb {D with nx:=N,ct:=N,bk:=D.nx} σ H1 else D.nx σ H1
def Ir(F:A8 (aF X.prog X.w) X.A X.env X.xe)(J:PT X c tc)(L:df X g tb):PS X (.While c g [] pos) (Iq tc tb):=by
 intro pins s σ H D I h;obtain⟨W,⟨M,O⟩,turn⟩:=h;refine wpAny_While (codeAny_whileLoop (λn s'=>∃j H',Inv X pins j H' s'/\W n j H') ?_ M ⟨σ,H,I,O⟩);rintro n S ⟨d,H1,U,Y⟩;refine uu F (ba (J pins S d H1 _ U (turn n d H1 Y)) λb Z z1=>?_);obtain⟨H2,G,q⟩:=z1;cases b with
 |true=>obtain⟨N,hN,q⟩:=q;refine uu F (ba (L pins Z d H2 _ G q) λf s3 z=>?_);cases f with|next=>obtain⟨B,H3,I3,n3⟩:=z;grind|cont=>obtain⟨B,H3,I3,n3⟩:=z;grind|brk=>exact z|ret v=>exact z
 |false=>exact A7 ⟨d,H2,G,q⟩
end
structure It where
 go:Nat->Hp->Prop
 yu:Nat->Hp->V->Hp->Prop
 stop:Nat->Hp->Prop
abbrev kC(X:Cx)(pins:List (af×bu))(H:Hp)(b:af):Prop:=H b=none/\b≠X.env.locals/\b∉X.fs/\(b∈X.ex\/X.er.heap.objs.size<=b)/\(∀x c,X.env.cells.lookup x=some c->c≠b)/\∀p∈X.pn++pins,p.1≠b
def Inv.mY(I:Inv X pins σ H s)(d:s.heap.objs.size<=b)(g:H' b=none):kC X pins H' b:=by
 refine⟨g,lT (gf I.lt d),I.HJ d,.inr (gI I.sz d),λx c e z=>?_,λp j z=>?_⟩;·obtain⟨v,q⟩:=I.cell x c e;exact bw (gf q.lt (by simp_all)) (mL _)
 ·exact bw (gf (cu (I.pin p j).1) (by simp_all)) (mL _)
structure Turn(P:bA)(w:bB)(K:br)(tg:bp)(J:It)(fp:List af)(it:af)(tn:Nat->aZ->Prop):Prop where
 mem:it∈fp
 obj:∀i h,tn i h->∀b∈fp,∃o,h.get? b=some o/\∀v,o.data≠.cell v
 keep:∀i h h',tn i h->(∀b∈fp,∀o,h.get? b=some o->h'.get? b=some o)->tn i h'
 item:∀(X:Cx),X.prog=P->X.w=w->X.K=K->X.calm=true->∀(i:Nat)(pins:List (af×bu))(s:ar)(σ:St)(H:Hp)(E:aj->ar->Prop),Inv X pins σ H s->(∀b∈fp,kC X pins H b)->tn i s.heap->J.go i H->aH (aF P w) X.A (uv (.ref it)) (λr s1=>∃u,r=some u/\aH (aF P w) X.A (QT tg (.ref it) u) (λ_ s2=>∃x H',Inv X pins σ H' s2/\RelV x u/\J.yu i H x H'/\tn (i+1) s2.heap/\∀b∈fp,H' b=none) E s1) E s
 done:∀(X:Cx),X.prog=P->X.w=w->X.K=K->X.calm=true->∀(i:Nat)(pins:List (af×bu))(s:ar)(σ:St)(H:Hp)(E:aj->ar->Prop),Inv X pins σ H s->(∀b∈fp,kC X pins H b)->tn i s.heap->J.stop i H->aH (aF P w) X.A (uv (.ref it)) (λr s1=>r=none/\Inv X pins σ H s1) E s
 self:∀(A:cG)(i:Nat)(s:ar)(Q:aj->ar->Prop)(E:aj->ar->Prop),tn i s.heap->Q (.ref it) s->aH (aF P w) A (pyIter (.ref it)) Q E s
@[reducible]def TI:=St->Hp->(It->Hp->Prop)->Prop
inductive yw(X:Cx)(pins:List (af×bu))(σ:St)(tg:bp)(R:It->Hp->Prop)(yx:aj)(s2:ar):Prop|mk:∀(it:af)(fp:List af)(tn:Nat->aZ->Prop)(J:It)(H':Hp),yx=.ref it->Inv X pins σ H' s2->Turn X.prog X.w X.K tg J fp it tn->tn 0 s2.heap->(∀b∈fp,kC X pins H' b)->R J H'->yw X pins σ tg R yx s2
abbrev PI(X:Cx)(tg iter:bp)(d:TI):Prop:=∀(pins:List (af×bu)) (s:ar) (σ:St) (H:Hp) (R:It->Hp->Prop),Inv X pins σ H s->d σ H R->aH (aF X.prog X.w) X.A (aP iter X.env) (λv g=>aH (aF X.prog X.w) X.A (pyIter v) (yw X pins σ tg R) X.xe g) X.xe s
def yy(g:s.heap.get? it=some o)(j:o.cls=.type n)(q:o.data=.fields vs)(z:["enumerate","zip","dict_itemiterator","dict_reverseitemiterator","odict_iterator","itertools.zip_longest","itertools.pairwise"].contains n=false)(d:Q () s):aH M A (QT tg (.ref it) u) Q E s:=by cases tg<;>first|exact ce d|(cases u<;>first|exact ce d|(refine aJ (wpAny_load g ?_);rw[j,q];show aH M A (if(["enumerate","zip","dict_itemiterator","dict_reverseitemiterator","odict_iterator","itertools.zip_longest","itertools.pairwise"].contains n&&vs[0]?==some (gW _))=true then _ else _) Q E s;rw[ay (by grind)];exact ce d))
abbrev Cq(K:br)(a:af):It:=⟨λi H=>∃xs x,dG K H a xs/\xs[i]?=some x,λi H x H'=>H'=H/\∀xs,dG K H a xs->xs[i]?=some x,λi H=>∃xs,dG K H a xs/\xs.length<=i⟩
abbrev Cr(K:br)(a:af):It:=⟨λi H=>∃xs x,cS K H a xs/\xs[i]?=some x,λi H x H'=>H'=H/\∀xs,cS K H a xs->xs[i]?=some x,λi H=>∃xs,cS K H a xs/\xs.length<=i⟩
abbrev uY(lo:Int)(n:Nat):It:=⟨λi _=>i<n,λi H x H'=>H'=H/\x=.int (lo+i),λi _=>n<=i⟩
def Tl{K:br}(a it:af):Turn P w K tg (Cq K a) [it] it (λi h=>h.IsListIter it a i)where
 mem:=by simp
 obj:=λi h st b g=>by obtain⟨o,e,c,d⟩:=st;simp_all
 keep:=λi h h' st k=>st.at λo e=>k it (by simp) o e;item:=by intro X q z B U i pins s σ H E I hf st F;subst q z B;obtain⟨xs,x,n,G⟩:=F;obtain⟨its,J,p,Y⟩:=I.list n;obtain⟨u,hu,Z⟩:=J.get G;obtain⟨L,M,f2,N,O,S⟩:=hf it (by simp);refine wpAny_pyNext_list_item st p.isList (x:=u) (by simp_all) λh' j sb=>?_;haveI I1:=I.turned (t':=s.toks) (λb o g e=>(sb.2 b g).trans e) L M N O S;obtain⟨o,e,c,d⟩:=id j;exact⟨u,rfl,yy e c d (by decide) ⟨x,H,I1,Z,⟨rfl,λys hy=>by rw[I.Cj hy n];exact G⟩,j,λb g=>(hf b g).1⟩⟩
 done:=by intro X q z B U i pins s σ H E I hf st F;subst q z B;obtain⟨xs,n,G⟩:=F;obtain⟨its,J,p,Y⟩:=I.list n;obtain⟨L,M,f2,N,O,S⟩:=hf it (by simp);haveI hl:=J.length;exact wpAny_pyNext_list_end (I.ok.hd U) st p.isList (by simp;lia) λh' eb=>⟨rfl,I.turned (λb o g e=>eb b o g e) L M N O S⟩
 self:=λ_ _ _ _ _ st h=>wpAny_pyIter_listiter st h
def Tn{K:br}(a it:af):Turn P w K tg (Cr K a) [it] it (λi h=>h.IsTupleIter it a i)where
 mem:=by simp
 obj:=λi h st b g=>by obtain⟨o,e,c,d⟩:=st;simp_all
 keep:=λi h h' st k=>st.at λo e=>k it (by simp) o e;item:=by intro X q z B U i pins s σ H E I hf st F;subst q z B;obtain⟨xs,x,n,G⟩:=F;obtain⟨its,J,p,Y⟩:=I.tuple n;obtain⟨u,hu,Z⟩:=J.get G;obtain⟨L,M,f2,N,O,S⟩:=hf it (by simp);refine wpAny_pyNext_tuple_item st (show s.heap.IsTuple a its.toArray from p) (x:=u) (by simp_all) λh' j sb=>?_;haveI I1:=I.turned (t':=s.toks) (λb o g e=>(sb.2 b g).trans e) L M N O S;obtain⟨o,e,c,d⟩:=id j;exact⟨u,rfl,yy e c d (by decide) ⟨x,H,I1,Z,⟨rfl,λys hy=>by rw[I.yp hy n];exact G⟩,j,λb g=>(hf b g).1⟩⟩
 done:=by intro X q z B U i pins s σ H E I hf st F;subst q z B;obtain⟨xs,n,G⟩:=F;obtain⟨its,J,p,Y⟩:=I.tuple n;obtain⟨L,M,f2,N,O,S⟩:=hf it (by simp);haveI hl:=J.length;exact wpAny_pyNext_tuple_end (I.ok.hd U) st (show s.heap.IsTuple a its.toArray from p) (by simp;lia) λh' eb=>⟨rfl,I.turned (λb o g e=>eb b o g e) L M N O S⟩
 self:=λ_ _ _ _ _ st h=>wpAny_pyIter_tupleiter st h
def To{K:br}(it:af)(lo:Int)(n:Nat):Turn P w K tg (uY lo n) [it] it (λi h=>IsRangeIter h it (lo+(i:Nat)*1) ((n:Int)-(i:Nat)) 1)where
 mem:=by simp
 obj:=λi h st b d=>by simp_all
 keep:=λi h h' st k=>k it (by simp) _ st;item:=by intro X L M N j i pins s σ H E I hf st q;subst L M N;obtain⟨z,B,O,F,G,J⟩:=hf it (by simp);haveI W:=Walks.range (prog:=X.prog) (w:=X.w) (I.ok.hd j) it lo 1 n;refine W.item i s _ _ q st λv h' tk S g kk=>?_;obtain⟨t,rfl⟩:=S;have U:Inv X pins σ H {s with heap:=h',toks:=tk}:=I.turned (λb o d e=>kk b o (by simp_all) e) z B F G J;refine⟨_,rfl,yy g rfl rfl (by decide) ⟨.int (lo+i),H,U,⟨t,?_⟩,⟨rfl,rfl⟩,g,λb d=>(hf b d).1⟩⟩;simp
 done:=by intro X L M N j i pins s σ H E I hf st q;obtain⟨z,B,O,F,G,J⟩:=hf it (by simp);exact abN (I.ok.hd j) st (by have:n<=i:=q;lia) λh' Y=>⟨rfl,I.turned (λb o d e=>Y b o d e) z B F G J⟩
 self:=λ_ _ _ _ _ st h=>abO st h
end L2
namespace L2
open PySem PySem.Spec PyProof.Rows
section
variable{X:Cx}{tg:bp}
inductive Iu(K:br)(R:It->Hp->Prop)(x:V)(H1:Hp):Prop|mk:∀a,x=.ref a->(∃xs,dG K H1 a xs)->R (Cq K a) H1->Iu K R x H1
abbrev Cs(K:br)(tl:TE):TI:=λσ H R=>tl σ H (Iu K R)
inductive Iv(K:br)(R:It->Hp->Prop)(x:V)(H1:Hp):Prop|mk:∀a,x=.ref a->(∃xs,cS K H1 a xs)->R (Cr K a) H1->Iv K R x H1
abbrev Iw(K:br)(tl:TE):TI:=λσ H R=>tl σ H (Iv K R)
def Ix(j:PE X l tl):PI X tg l (Cs X.K tl):=by
 intro pins s σ H R I h;refine ba (j pins s σ H _ I h) λv g z1=>?_;obtain⟨x,H1,d,n,z⟩:=z1;obtain⟨a,e,⟨xs,B⟩,q⟩:=z;subst e;subst n;obtain⟨its,G,p,J⟩:=d.list B;refine QU p.isList ?_;refine⟨g.heap.objs.size,[g.heap.objs.size],_,_,H1,rfl,d.kept λb o e=>bL _ e,Tl a _,⟨_,dL _ rfl,rfl,rfl⟩,λb F=>?_,q⟩;have e:b=g.heap.objs.size:=by simpa using F
 subst e;exact d.mY (bR _) (d.a9.fresh (bR _))
def Tp(j:PE X l tl):PI X tg l (Iw X.K tl):=by
 intro pins s σ H R I h;refine ba (j pins s σ H _ I h) λv d z1=>?_;obtain⟨x,H1,g,n,z⟩:=z1;obtain⟨a,e,⟨xs,B⟩,q⟩:=z;subst e;subst n;obtain⟨its,G,p,J⟩:=g.tuple B;refine wpAny_pyIter_tuple (show d.heap.IsTuple a _ from p) ?_;refine⟨d.heap.objs.size,[d.heap.objs.size],_,_,H1,rfl,g.kept λb o e=>bL _ e,Tn a _,⟨_,dL _ rfl,rfl,rfl⟩,λb F=>?_,q⟩;have e:b=d.heap.objs.size:=by simpa using F
 subst e;exact g.mY (bR _) (g.a9.fresh (bR _))
def Tq{lo hi:Int}(I:Inv X pins σ H s)(h1:-(2^62)<=lo)(h2:lo<2^62)(g:-(2^62)<=hi)(j:hi<2^62)(q:R (uY lo (hi-lo).toNat) H):aH (aF X.prog X.w) X.A (pyIter (.ref s.heap.objs.size)) (yw X pins σ tg R) E {s with heap:=s.heap.push {cls:=.type "range",data:=.fields #[.int lo t,.int hi u,.int 1 v]},toks:=tk}:=by
 refine wpAny_pyIter_range (abP ..) (small_one h1 h2 g j) ?_;have d:Inv X pins σ H {s with heap:=s.heap.push {cls:=.type "range",data:=.fields #[.int lo t,.int hi u,.int 1 v]},toks:=tk}:=I.kept λb o e=>bL _ e;refine⟨(s.heap.push _).objs.size,[(s.heap.push _).objs.size],_,_,H,rfl,d.kept λb o e=>bL _ e,To _ lo _,?_,λb n=>?_,q⟩
 ·have z:lo+((0:Nat))*1=lo:=by simp
  have B:(((hi-lo).toNat))-((0:Nat))=rM lo hi 1:=by rw[rangeSize_one];split<;>lia
  rw[z,B];exact dL _ rfl
 ·haveI e:b=(s.heap.push {cls:=.type "range",data:=.fields #[.int lo t,.int hi u,.int 1 v]}).objs.size:=by simpa using n
  subst e;exact d.mY (bR _) (d.a9.fresh (bR _))
inductive Iy(R:It->Hp->Prop)(vs:List V)(H1:Hp):Prop|mk:∀j:Int,vs=[.int j]->-(2^62)<=j->j<2^62->R (uY 0 j.toNat) H1->Iy R vs H1
abbrev uZ(ta:TA):TI:=λσ H R=>ta σ H (Iy R)
def Iz(g:Gl X "range")(n:X.mg "range"=none)(z:PA X [a] ta)(B: ~~~(aB [a] X.env=[(false,aP a X.env)])):PI X tg (.Call (.Name "range" p) [a] [] pos) (uZ ta):=by intro pins s σ H R I h;refine Call_ (k9 I g n boot_range (uw (ba (z pos pins s σ H _ I h) λus M ⟨vs,H1,F,G,d⟩=>?_) B rfl));obtain⟨j,e,d,J,q⟩:=d;subst e;cases G with|cons r L=>cases L;obtain⟨t,rfl⟩:=r;exact call_range_1 (Tq F (by lia) (by lia) d J (by simp_all))
abbrev IA(q:TI)(g:TG)(tb:TS):TS:=λD σ H=>q σ H λJ H1=>∃W:Nat->Nat->St->Hp->Prop,(∃m,W 0 m σ H1)/\∀i m σ H,W i m σ H->(J.stop i H/\D.nx σ H)\/(J.go i H/\∃N:St->Hp->Prop,(∀d H',N d H'->∃n,n<m/\W (i+1) n d H')/\∀x H',J.yu i H x H'->g x σ H' λj H2=>tb {D with nx:=N,ct:=N,bk:=D.nx} j H2)
abbrev u0(d:List af)(h:aZ):List (af×bu):=d.filterMap λb=>(h.get? b).map λo=>(b,o)
def Ct(d:b∈g)(e:h.get? b=some o):(b,o)∈u0 g h:=QV.mpr ⟨b,d,by rw[e];rfl⟩
def Tr(d:p∈u0 g h):p.1∈g/\h.get? p.1=some p.2:=by obtain⟨b,j,e⟩:=QV.mp d;cases q:h.get? b with|none=>simp_all|some o=>grind
def Inv.pinned(I:Inv X pins σ H s)(hf:∀b∈d,kC X pins H b)(n:∀b∈d,∃o,s.heap.get? b=some o/\∀v,o.data≠.cell v):Inv X (pins++u0 d s.heap) σ H s:=I.ym λp g=>(xH.mp g).elim (λz=>I.pin p (jQ _ z)) λz=>by obtain⟨j,e⟩:=Tr z;obtain⟨q,B,F,_⟩:=hf p.1 j;grind
def Inv.yz(I:Inv X (pins++g) σ H s):Inv X pins σ H s:=I.ym λp d=>I.pin p (jQ _ (A3 _ d))
def IB{iter:bp}{M:List dm}{wi:TI}{g:TG}{tb:TS}{pos:cj}(U:A8 (aF X.prog X.w) X.A X.env X.xe)(hc:X.calm=true)(hi:PI X tg iter wi)(hg:PG X tg g)(q:df X M tb)(hs:∀x,nW iter X.env x=pure x:=by intro _;rfl):PS X (.For tg iter M [] pos) (IA wi g tb):=by
 intro pins s σ H D I h;refine wpAny_For (ba (hi pins s σ H _ I h) λv s1 h1=>ba h1 λyx s2 h2=>?_) hs;obtain⟨it,Y,tn,J,H2,e,I2,T,yA,f2,W,⟨m0,w0⟩,turn⟩:=h2;subst e;have z:∀{H':Hp},(∀b∈Y,H' b=none)->∀b∈Y,kC X pins H' b:=λhn b q=>⟨hn b q,(f2 b q).2⟩;refine codeAny_forLoop_any (λn s'=>∃i B H',Inv X pins B H' s'/\tn i s'.heap/\(∀b∈Y,H' b=none)/\W i n B H') ?_ m0 ⟨0,σ,H2,I2,yA,λb q=>(f2 b q).1,w0⟩;rintro n s3 ⟨i,F,H3,I3,Z,IC,w3⟩;rcases turn i n F H3 w3 with⟨stop,qn⟩|⟨go,N,hN,step⟩;·refine uu U (ba (T.done X rfl rfl rfl hc i pins s3 F H3 X.xe I3 (z IC) Z stop) λr s4 z1=>?_);obtain⟨hr,I4⟩:=z1;subst hr;exact A7 ⟨F,H3,I4,qn⟩
 ·refine uu U (ba (T.item X rfl rfl rfl hc i pins s3 F H3 X.xe I3 (z IC) Z go) λr s4 z2=>?_);obtain⟨u,hr,h4⟩:=z2;subst hr;refine uu U (ba h4 λ_ s5 z3=>?_);obtain⟨x,H5,I5,r5,y5,S,Ts⟩:=z3;have Tt:=I5.pinned (z Ts) (T.obj _ _ S);refine uu U (ba (hg _ s5 F H5 x u _ Tt r5 (step x H5 y5)) λ_ s6 z4=>?_);obtain⟨Tu,H6,I6,q6⟩:=z4;refine uu U (ba (q _ s6 Tu H6 _ I6 q6) λf s7 O=>?_);have again:∀{j:St} {G:Hp},Inv X (pins++u0 Y s5.heap) j G s7->N j G->∃m,m<n/\∃i B H',Inv X pins B H' s7/\tn i s7.heap/\(∀b∈Y,H' b=none)/\W i m B H':=λ{j G} L n7=>by obtain⟨m',hm,w7⟩:=hN j G n7;refine⟨m',hm,i+1,j,G,L.yz,T.keep _ _ _ S λb q o e=>(L.pin (b,o) (jQ _ (jQ _ (Ct q e)))).1,λb q=>?_,w7⟩;obtain⟨o,e,d⟩:=T.obj _ _ S b q;exact(L.pin (b,o) (jQ _ (jQ _ (Ct q e)))).2.1
  cases f with|next=>obtain⟨j,G,L,n7⟩:=O;exact again L n7|cont=>obtain⟨j,G,L,n7⟩:=O;exact again L n7|brk=>obtain⟨j,G,L,O⟩:=O;exact⟨j,G,L.yz,O⟩|ret v=>obtain⟨x7,j,G,L,r7,O⟩:=O;exact⟨x7,j,G,L.yz,r7,O⟩
end
end L2
namespace L2
open PySem PySem.Spec PyProof.Rows
@[reducible]def R2:=V->V->Hp->VK->Prop
abbrev dH(X:Cx)(f:aj->aj->d4 aj)(r:R2):Prop:=∀(pins:List (af×bu)) (s:ar) (σ:St) (H:Hp) (x y:V) (v u:aj) (Q:VK),Inv X pins σ H s->RelV x v->RelV y u->r x y H Q->aH (aF X.prog X.w) X.A (f v u) (EP X pins σ Q) X.xe s
abbrev Cu(X:Cx)(f:aj->d4 aj)(r:V->Hp->VK->Prop):Prop:=∀(pins:List (af×bu)) (s:ar) (σ:St) (H:Hp) (x:V) (v:aj) (Q:VK),Inv X pins σ H s->RelV x v->r x H Q->aH (aF X.prog X.w) X.A (f v) (EP X pins σ Q) X.xe s
abbrev l9(X:Cx)(f:aj)(r:List V->Hp->VK->Prop):Prop:=∀(pins:List (af×bu)) (s:ar) (σ:St) (H:Hp) (xs:List V) (us:List aj) (Q:VK),Inv X pins σ H s->Vals xs us->r xs H Q->aH (aF X.prog X.w) X.A (call f us) (EP X pins σ Q) X.xe s
abbrev fA(r:R2)(ta tb:TE):TE:=λσ H Q=>ta σ H λx H1=>tb σ H1 λy H2=>r x y H2 Q
abbrev Tv(r:V->Hp->VK->Prop)(ta:TE):TE:=λσ H Q=>ta σ H λx H1=>r x H1 Q
inductive rI(C:Int->Int->Prop)(g:Int->Int->V)(x:V)(y:V)(H:Hp)(Q:VK):Prop|mk:∀i j,x=.int i->y=.int j->C i j->Q (g i j) H->rI C g x y H Q
inductive hP(g:Int->Int->V)(x:V)(y:V)(H:Hp)(Q:VK):Prop|mk:∀i j,x=.int i->y=.int j->Q (g i j) H->hP g x y H Q
inductive rU(g:Int->V)(x:V)(H:Hp)(Q:VK):Prop|mk:∀i,x=.int i->Q (g i) H->rU g x H Q
section
variable{X:Cx}{a b c:bp}{ta tb tc:TE}{pos:cj}
def Cv(n:PE X a ta)(q:PE X b tb){R:V->V->Hp->Prop}(I:Inv X pins σ H s)(h:ta σ H λx H1=>tb σ H1 λy H2=>R x y H2){f:aj->aj->d4 aj}(hf:∀v u j x y H2,Inv X pins σ H2 j->RelV x v->RelV y u->R x y H2->aH (aF X.prog X.w) X.A (f v u) Q X.xe j):aH (aF X.prog X.w) X.A (aP a X.env) (λv d=>aH (aF X.prog X.w) X.A (aP b X.env) (λu g=>aH (aF X.prog X.w) X.A (f v u) Q X.xe g) X.xe d) X.xe s:=by refine ba (n pins s σ H _ I h) λv z z1=>?_;obtain⟨x,H1,B,G,F⟩:=z1;refine ba (q pins z σ H1 _ B F) λu j z2=>?_;obtain⟨y,H2,J,L,M⟩:=z2;grind
def ma(d:dH X (ux op) r)(g:PE X a ta)(j:PE X b tb):PE X (.BinOp a op b pos) (fA r ta tb):=by intro pins s σ H Q I h;exact wpAny_BinOp (Cv g j I h λv u n x y H2 z B F q=>d pins n σ H2 x y v u Q z B F q)
def ID(d:Cu X (unaryOp op) r)(g:PE X a ta):PE X (.UnaryOp op a pos) (Tv r ta):=by intro pins s σ H Q I h;exact UnaryOp_ (ba (g pins s σ H _ I h) λv j ⟨x,H1,n,q,z⟩=>d pins j σ H1 x v Q n q z)
def Cw{g:Int->Int->Int}(rule:∀(i j:Int)(t u:Tok)(s:ar)(Q:aj->ar->Prop)(E:aj->ar->Prop),C i j->Q (.int (g i j) s.toks) {s with toks:=s.toks+1}->aH (aF X.prog X.w) X.A (f (.int i t) (.int j u)) Q E s):dH X f (rI C λi j=>.int (g i j)):=by intro pins s σ H x y v u Q I d n h;obtain⟨i,j,rfl,rfl,z,q⟩:=h;obtain⟨t,rfl⟩:=d;obtain⟨t',rfl⟩:=n;exact rule i j t t' s _ _ z ⟨.int (g i j),H,I.tok _,⟨_,rfl⟩,q⟩
def IE{g:Int->Int->Int}(rule:∀(i j:Int)(t u:Tok)(s:ar)(Q:aj->ar->Prop)(E:aj->ar->Prop),Q (.int (g i j) s.toks) {s with toks:=s.toks+1}->aH (aF X.prog X.w) X.A (f (.int i t) (.int j u)) Q E s):dH X f (hP λi j=>.int (g i j)):=by intro pins s σ H x y v u Q I d n h;obtain⟨i,j,rfl,rfl,q⟩:=h;obtain⟨t,rfl⟩:=d;obtain⟨t',rfl⟩:=n;exact rule i j t t' s _ _ ⟨.int (g i j),H,I.tok _,⟨_,rfl⟩,q⟩
def yB{g:Int->Int->Bool}(rule:∀(i j:Int)(t u:Tok)(s:ar)(Q:aj->ar->Prop)(E:aj->ar->Prop),Q (.bool (g i j)) s->aH (aF X.prog X.w) X.A (f (.int i t) (.int j u)) Q E s):dH X f (hP λi j=>.bl (g i j)):=by intro pins s σ H x y v u Q I d n h;obtain⟨i,j,rfl,rfl,q⟩:=h;obtain⟨t,rfl⟩:=d;obtain⟨t',rfl⟩:=n;exact rule i j t t' s _ _ ⟨.bl (g i j),H,I,rfl,q⟩
abbrev IF(i j:Int):Prop:=0<j/\j<1073741824
abbrev u1(i j:Int):Prop:=(-(2^64)<i/\i<2^64)\/(-(2^64)<j/\j<2^64)
def u1.ok(h:u1 i j):IntMulOk i j:=by
 rcases h with⟨h1,h2⟩|⟨h1,h2⟩;·exact .of_left (intBits_le_64 h1 h2)
 ·exact .of_right (intBits_le_64 h1 h2)
def Cy:dH X (ux .Add) (hP λi j=>.int (i+j)):=IE λ_ _ _ _ _ _ _ q=>add_int q
def IG:dH X (ux .Sub) (hP λi j=>.int (i-j)):=IE λ_ _ _ _ _ _ _ q=>sub_int q
def Tw:dH X (ux .Mult) (rI u1 λi j=>.int (i*j)):=Cw λ_ _ _ _ _ _ _ d q=>mul_int q d.ok
def Tx:dH X (ux .FloorDiv) (rI IF λi j=>.int (i/j)):=Cw λi j _ _ _ _ _ d q=>by have h1:(0:Int)<j:=d.1;have h2:j<1073741824:=d.2;exact floordiv_int (by omega) (by rw[Int.fdiv_eq_ediv_of_nonneg i (by omega)];exact q) (.inl (abQ (by omega)))
def Tz:dH X (ux .Mod) (rI (λ_ j=>0<j) λi j=>.int (i%j)):=Cw λi j _ _ _ _ _ d q=>by exact mod_int' (by lia) (by grind)
def TB{g:Int->Int}(rule:∀(i:Int)(t:Tok)(s:ar)(Q:aj->ar->Prop)(E:aj->ar->Prop),Q (.int (g i) s.toks) {s with toks:=s.toks+1}->aH (aF X.prog X.w) X.A (f (.int i t)) Q E s):Cu X f (rU λi=>.int (g i)):=by intro pins s σ H x v Q I d h;obtain⟨i,rfl,q⟩:=h;obtain⟨t,rfl⟩:=d;exact rule i t s _ _ ⟨.int (g i),H,I.tok _,⟨_,rfl⟩,q⟩
def IH:Cu X (unaryOp .USub) (rU λi=>.int (-i)):=TB λ_ _ _ _ _ q=>neg_int q
end
abbrev Cz:V->V->Bool|.ah,.ah=>true|.ah,.int _=>true|.int _,.ah=>true|.ah,.bl _=>true|.bl _,.ah=>true|.ah,.str _=>true|.str _,.ah=>true|.int _,.int _=>true|.bl _,.bl _=>true|.str _,.str _=>true|.jU _,.jU _=>true|.int _,.str _=>true|.str _,.int _=>true|.bl _,.str _=>true|.str _,.bl _=>true|_,_=>false
abbrev CA:R2:=λx y H Q=>Cz x y=true/\Q (.bl (decide (x=y))) H
abbrev II:R2:=λx y H Q=>Cz x y=true/\Q (.bl (!decide (x=y))) H
def IJ:decide (V.int i=V.int j)=(i==j):=by lia
def IK:decide (V.bl i=V.bl j)=(i==j):=by lia
def IL:decide (V.str i=V.str j)=(i==j):=by lia
def IM:decide (V.jU i=V.jU j)=(i.toList==j.toList):=by rw[kh];simp
section
variable{X:Cx}{a b c:bp}{ta tb tc:TE}{pos:cj}
def d6(I:Inv X pins σ H s)(q:Q (.bl k) H)(e:k=k'):EP X pins σ Q (.bool k') s:=by subst e;exact⟨.bl k,H,I,rfl,q⟩
def oz:dH X (fg .Eq) CA:=by
 intro pins s σ H x y v u Q I n d h;obtain⟨g,q⟩:=h;cases x with
 |ah=>cases n;cases y with|ah=>subst d;exact PySem.EqNone.eq_none_none (d6 I q (by rfl))|bl j=>subst d;exact PySem.EqNone.eq_none_bool (d6 I q (by rfl))|int j=>obtain⟨t',rfl⟩:=d;exact PySem.EqNone.eq_none_int (d6 I q (by rfl))|str j=>obtain⟨t',rfl⟩:=d;exact PySem.EqNone.eq_none_str (d6 I q (by rfl))|_=>exact bw (show false=true from g) bE
 |bl i=>subst n;cases y with|ah=>subst d;exact PySem.EqNone.eq_bool_none (d6 I q (by rfl))|bl j=>subst d;exact eq_bool (d6 I q IK)|str j=>obtain⟨t',rfl⟩:=d;exact PySem.EqMixed.eq_bool_str (d6 I q (by rfl))|_=>exact bw (show false=true from g) bE
 |int i=>obtain⟨t,rfl⟩:=n;cases y with|ah=>subst d;exact PySem.EqNone.eq_int_none (d6 I q (by rfl))|int j=>obtain⟨t',rfl⟩:=d;exact eq_int (d6 I q IJ)|str j=>obtain⟨t',rfl⟩:=d;exact PySem.EqMixed.eq_int_str (d6 I q (by rfl))|_=>exact bw (show false=true from g) bE
 |str i=>obtain⟨t,rfl⟩:=n;cases y with|ah=>subst d;exact PySem.EqNone.eq_str_none (d6 I q (by rfl))|bl j=>subst d;exact PySem.EqMixed.eq_str_bool (d6 I q (by rfl))|int j=>obtain⟨t',rfl⟩:=d;exact PySem.EqMixed.eq_str_int (d6 I q (by rfl))|str j=>obtain⟨t',rfl⟩:=d;exact eq_str (d6 I q IL)|_=>exact bw (show false=true from g) bE
 |jU i=>obtain⟨t,rfl⟩:=n;cases y with|jU j=>obtain⟨t',rfl⟩:=d;exact PySem.W.eq_bytes (d6 I q IM)|_=>exact bw (show false=true from g) bE
 |_=>cases y<;>exact bw (show false=true from g) bE
def IN:dH X (fg .NotEq) II:=by
 intro pins s σ H x y v u Q I n d h;obtain⟨g,q⟩:=h;cases x with
 |ah=>cases n;cases y with|ah=>subst d;exact PySem.EqNone.ne_none_none (d6 I q (by rfl))|bl j=>subst d;exact PySem.EqNone.ne_none_bool (d6 I q (by rfl))|int j=>obtain⟨t',rfl⟩:=d;exact PySem.EqNone.ne_none_int (d6 I q (by rfl))|str j=>obtain⟨t',rfl⟩:=d;exact PySem.EqNone.ne_none_str (d6 I q (by rfl))|_=>exact bw (show false=true from g) bE
 |bl i=>subst n;cases y with|ah=>subst d;exact PySem.EqNone.ne_bool_none (d6 I q (by rfl))|bl j=>subst d;exact ne_bool (d6 I q (bz not IK))|str j=>obtain⟨t',rfl⟩:=d;exact PySem.EqMixed.ne_bool_str (d6 I q (by rfl))|_=>exact bw (show false=true from g) bE
 |int i=>obtain⟨t,rfl⟩:=n;cases y with|ah=>subst d;exact PySem.EqNone.ne_int_none (d6 I q (by rfl))|int j=>obtain⟨t',rfl⟩:=d;exact ne_int (d6 I q (bz not IJ))|str j=>obtain⟨t',rfl⟩:=d;exact PySem.EqMixed.ne_int_str (d6 I q (by rfl))|_=>exact bw (show false=true from g) bE
 |str i=>obtain⟨t,rfl⟩:=n;cases y with|ah=>subst d;exact PySem.EqNone.ne_str_none (d6 I q (by rfl))|bl j=>subst d;exact PySem.EqMixed.ne_str_bool (d6 I q (by rfl))|int j=>obtain⟨t',rfl⟩:=d;exact PySem.EqMixed.ne_str_int (d6 I q (by rfl))|str j=>obtain⟨t',rfl⟩:=d;exact ne_str (d6 I q (bz not IL))|_=>exact bw (show false=true from g) bE
 |jU i=>obtain⟨t,rfl⟩:=n;cases y with|jU j=>obtain⟨t',rfl⟩:=d;exact PySem.W.ne_bytes (d6 I q (bz not IM))|_=>exact bw (show false=true from g) bE
 |_=>cases y<;>exact bw (show false=true from g) bE
def u4:dH X (fg .Lt) (hP λi j=>.bl (decide (i<j))):=yB λ_ _ _ _ _ _ _ q=>abR q
def sC:dH X (fg .LtE) (hP λi j=>.bl (decide (i<=j))):=yB λ_ _ _ _ _ _ _ q=>le_int q
def sE:dH X (fg .Gt) (hP λi j=>.bl (decide (j<i))):=yB λ_ _ _ _ _ _ _ q=>gt_int q
def IP:dH X (fg .GtE) (hP λi j=>.bl (decide (j<=i))):=yB λ_ _ _ _ _ _ _ q=>ge_int q
def eV(b:bp)(h:(op≠.In)⁻¹) (h2:(op≠.NotIn)⁻¹):iD op b=false:=by
 have d:(op==CmpOp.In)=false:=by cases op<;>first|rfl|lia
 have g:(op==CmpOp.NotIn)=false:=by cases op<;>first|rfl|lia
 cases b<;>simp[iD,d,g]
def IQ(d:dH X (fg op) r)(g:PE X a ta)(j:PE X b tb)(n:iD op b=false):PE X (.Compare a [op] [b] pos) (fA r ta tb):=by intro pins s σ H Q I h;exact wpAny_Compare1 (Cv g j I h λv u z x y H2 B F G q=>d pins z σ H2 x y v u Q B F G q) n
abbrev sF(t:TE):TT:=λσ H Q=>t σ H (Ci Q)
def lb(d:dH X (fg op) r)(g:PE X a ta)(j:PE X b tb)(n:iD op b=false):PT X (.Compare a [op] [b] pos) (sF (fA r ta tb)):=by intro pins s σ H Q I h;refine abL (ba (g pins s σ H _ I h) λv q ⟨x,H1,B,F,G⟩=>ba (j pins q σ H1 _ B G) λu J ⟨y,H2,L,M,N⟩=>ba (d pins J σ H2 x y v u _ L F M N) λc Y ⟨z,O,S,U,k,e,W⟩=>?_) n;subst e;subst U;exact mM ⟨O,S,W⟩
abbrev CB(r g:R2)(ta tb tc:TE):TE:=λσ H Q=>ta σ H λx H1=>tb σ H1 λy H2=>r x y H2 λz d=>∃k,z=.bl k/\(if k=true then tc σ d λj n=>g y j n Q else Q (.bl false) d)
def TC(G:dH X (fg op) r)(j:dH X (fg g) J)(L:PE X a ta)(M:PE X b tb)(N:PE X c tc)(O:xJ [op,g] [b,c]=false:=by with_unfolding_all rfl):PE X (.Compare a [op,g] [b,c] pos) (CB r J ta tb tc):=by intro pins s σ H Q I h;refine Compare_chain (ba (L pins s σ H _ I h) λv S ⟨x,H1,U,W,Y⟩=>chain_link (ba (M pins S σ H1 _ U Y) λu Z ⟨y,H2,I2,n,q2⟩=>ba (G pins Z σ H2 x y v u _ I2 W n q2) λd s3 z1=>?_)) O;obtain⟨z,q,B,r3,k,e,F⟩:=z1;subst e;subst r3;refine mM ?_;cases k with|false=>exact ite_ff ⟨.bl false,q,B,rfl,F⟩|true=>exact ite_tt (chain_last (ba (N pins s3 σ q _ B F) λw' s4 ⟨z',H4,I4,r4,q4⟩=>j pins s4 σ H4 y z' u w' Q I4 n r4 q4))
def TD(G:dH X (fg op) r)(j:dH X (fg g) J)(L:PE X a ta)(M:PE X b tb)(N:PE X c tc)(O:xJ [op,g] [b,c]=false:=by with_unfolding_all rfl):PT X (.Compare a [op,g] [b,c] pos) (sF (CB r J ta tb tc)):=by intro pins s σ H Q I h;refine isTrue_chain (ba (L pins s σ H _ I h) λv S ⟨x,H1,U,W,Y⟩=>test_link (ba (M pins S σ H1 _ U Y) λu Z ⟨y,H2,I2,n,q2⟩=>ba (G pins Z σ H2 x y v u _ I2 W n q2) λd s3 z1=>?_)) O;obtain⟨z,q,B,r3,k,e,F⟩:=z1;subst e;subst r3;refine mM ?_;cases k with|false=>obtain⟨k',e',q'⟩:=F;cases e';exact ite_ff ⟨q,B,q'⟩|true=>refine ite_tt (test_last (ba (N pins s3 σ q _ B F) λw' s4 ⟨z',H4,I4,r4,q4⟩=>ba (j pins s4 σ H4 y z' u w' _ I4 n r4 q4) λd' s5 ⟨z2,H5,I5,r5,k2,e2,q5⟩=>?_));subst e2;subst r5;exact mM ⟨H5,I5,q5⟩
def sG:(bj:Nat)<2^63:=by decide
def vals1(r:Vals [x] us):∃u,us=[u]/\RelV x u:=by cases r with|cons g d=>cases d;simp_all
def vals2(r:Vals [x,y] us):∃u d,us=[u,d]/\RelV x u/\RelV y d:=by cases r with|cons n g=>cases g with|cons q j=>cases j;lia
def TF(g:X.calm=true):l9 X (.builtin "min") (λxs H Q=>∃i j,xs=[.int i,.int j]/\Q (.int (if j<i then j else i)) H):=by
 intro pins s σ H xs us Q I r h;obtain⟨i,j,rfl,q⟩:=h;obtain⟨u,n,rfl,⟨t,rfl⟩,⟨t',rfl⟩⟩:=vals2 r;refine min_two_ints (I.ok.hd g) λh' z k=>⟨_,H,I.kept k,?_,q⟩;by_cases d:j<i;·rw[ax d,ax d];exact⟨_,rfl⟩
 ·rw[ay d,ay d];exact⟨_,rfl⟩
end
end L2
namespace L2
open PySem PySem.Spec PyProof.Rows
structure pZ(h:aZ)(x dx C:af)(mA:ag->Option aj):Prop where
 obj:h.get? x=some (rG C dx)
 ns:h.Ns1 dx mA
 ne:dx≠x
def TH{h:aZ}(n:h.Ns1 dx mA):∃g,h.get? dx=some g/\∀name,Gq name g=some (mA name):=by
 obtain⟨o,es,I,j,q,B,_,F⟩:=n;refine⟨o,j,λname=>?_⟩;haveI e:=F name;unfold nsFind findBy at e;rw[<-Array.find?_toList]at e;delta Gq;rw[q];dsimp only;split;·grind
 ·haveI a:es.toList.any (·.refKey)=false:=by rw[List.any_eq_false];intro y G;obtain⟨z,t,d⟩:=B y (abS.mp G);simp[DictEntry.refKey,d]
  grind
def pZ.look(I:pZ h x dx C mA):∃d,PySem.W.InstAt h x (rG C dx) C (some d)/\∀name,Gq name d=some (mA name):=let⟨d,g,j⟩:=TH I.ns;⟨d,⟨I.obj,rfl,rfl,g⟩,j⟩
section
variable{prog:bA}{w:bB}{A:cG}{E:aj->ar->Prop}{s:ar}{K:br}{x dx C f:af}{mA:ag->Option aj}{name:ag}{v:aj}
def get_map(X:K.In s.heap)(I:pZ s.heap x dx C mA)(j:AR K C name=true)(n:Ge K C=true)(q:kS K (.ref C) name=some none)(z:mA name=some v)(d:abT v=true)(h:Q v {s with toks:=s.toks+1}):aH (aF prog w) A (getAttr (.ref x) name g) Q E s:=by obtain⟨F,J,B⟩:=I.look;exact PySem.W.get_value X J (A9 j).1 (PySem.W.findObj_own n q rfl (by rw[B,z])) d h
def TJ(X:K.In s.heap)(I:pZ s.heap x dx C mA)(d:AR K C name=true)(hf:kS K (.ref C) name=some (some (.ref f)))(g:xp K (.ref f)=true)(n:mA name=none)(h:Q (.ref f,[.ref x]) s):aH (aF prog w) A (pE (.ref x) name q) Q E s:=by obtain⟨j,J,z⟩:=I.look;exact PySem.W.method_fn X J (A9 d).1 (A9 d).2 hf (eE.mp g) (by show(Gq name j).map _=some false;simp_all) h
def TK(X:K.In s.heap)(I:pZ s.heap x dx C mA)(B:kS K (.ref C) "__setattr__"=some (some (.builtin "object.__setattr__")))(F:Qt K C=true)(G:QW K C name=some none)(L:Ge K C=true)(M:QO mA ns)(hsz:ns.length<=bj)(h:∀h',pZ h' x dx C (λy=>if y=name then some v else mA y)->jO dx s.heap h'->Q () {s with heap:=h',toks:=s.toks+2}):aH (aF prog w) A (setAttr (.ref x) name v) Q E s:=by obtain⟨Y,J,Z⟩:=I.look;refine PySem.W.set_plain X J B (PySem.W.osa_open X J F G λb=>?_);obtain⟨cd,N,j⟩:=PySem.W.any_some L;haveI O:=I.obj;refine aJ (ce (aJ (aJ (wpAny_loadPart O (aJ (PySem.W.Looks.here (PySem.W.looks_clsIn X N) ?_))))));rw[j];refine ce (aJ (ce (aJ ?_)));refine wpAny_nsSet1 I.ns λh' d g=>?_;obtain⟨oD,S,U,n,q,z⟩:=d.count (PySem.Within.cons name v M);refine aJ (wpAny_lookBehind n (by rw[q];exact pastItsLine_dict (gI z (by simp_all))) ?_);exact ce (h _ ⟨(g.2 _ (bK I.ne)).trans I.obj,d,I.ne⟩ g)
def TM(X:K.In s.heap)(g:Gf K C=true)(hi:kS K (.ref C) "__init__"=some (some (.ref f)))(hf:PySem.W.typeIn K (.ref f)=some (.type "function"))(h:nX (aF prog w) (A.under (.builtin "type.__call__" ⟨.ref C::vs,d⟩)) (.call (.ref f) ⟨.ref (s.heap.objs.size+1)::vs,d⟩) (PySem.W.InitBack (s.heap.objs.size+1) R) {s with heap:=(s.heap.push xK).push (rG C s.heap.objs.size)}):nX (aF prog w) A (.call (.ref C) ⟨vs,d⟩) R s:=by exact PySem.W.make_core (PySem.W.makes_of X g) (PySem.W.looks_findIn X hi) (λself=>PySem.W.bind_fn X self hf) (.inl rfl) h
end
abbrev gn(f:ag)(v:V):List (ag×V)->List (ag×V)|[]=>[(f,v)]|(g,x)::r=>if g=f then(g,v)::r else(g,x)::gn f v r
def IR(f g:ag)(v:V):∀fs:List (ag×V),(gn f v fs).lookup g=if g=f then some v else fs.lookup g
 |[]=>by
  show uy g [(f,v)]=_;by_cases h:g=f;·simp_all
  simp_all
 |(k,x)::r=>by
  haveI n:=IR f g v r;rw[show gn f v _=(if k=f then(k,v)::r else(k,x)::gn f v r) from rfl];by_cases j:k=f
  ·rw[ax j];by_cases h:g=k;·simp_all
   ·haveI d:=xL.mpr h;simp only[uy,d,ay (λe:g=f=>h (e.trans j.symm))]
  ·rw[ay j];by_cases h:g=k;·haveI d:=eE.mpr h;simp only[uy,d,ay (λe:g=f=>j (h.symm.trans e))]
   ·haveI d:=xL.mpr h;simp only[uy,d];exact n
def CC(f:ag)(v:V):∀fs:List (ag×V),f∈(gn f v fs).map (·.1)/\∀g,g∈fs.map (·.1)->g∈(gn f v fs).map (·.1)|[]=>⟨by simp[gn],λg h=>by simp at h⟩|(k,x)::r=>by obtain⟨d,j⟩:=CC f v r;rw[show gn f v _=(if k=f then(k,v)::r else(k,x)::gn f v r) from rfl];grind
def IS(f:ag)(v:V):∀fs:List (ag×V),(gn f v fs).length<=fs.length+1|[]=>by simp[gn]|(k,x)::r=>by have d:=IS f v r;rw[show gn f v _=(if k=f then(k,v)::r else(k,x)::gn f v r) from rfl];grind
def hJ.some_of(r:hJ (some v) o):∃u,o=some u/\RelV v u:=by cases o with|none=>exact(show False from r).elim|some u=>exact⟨u,rfl,r⟩
def hJ.none_of(r:hJ none o):o=none:=by cases o with|none=>rfl|some u=>exact(show False from r).elim
def TN(r:RelV v u):abT u=true:=by cases v with|ah=>cases(show u=QM from r);rfl|bl b=>cases(show u=pC b from r);rfl|int i=>obtain⟨t,e⟩:=(show∃t,u=pB i t from r);subst e;rfl|str x=>obtain⟨t,e⟩:=(show∃t,u=Gn x t from r);subst e;rfl|jU b=>obtain⟨t,e⟩:=(show∃t,u=Value.bytes b t from r);subst e;rfl|uP b=>obtain⟨t,e⟩:=(show∃t,u=Value.float b t from r);subst e;rfl|ref a=>cases(show u=d9 a from r);rfl|ty n=>cases(show u=rF n from r);rfl
section
variable{P:bA}{w:bB}{H H':Hp}{h h':aZ}{a C dx:af}{fs sy:List (ag×V)}
def yC(g:dM P w H h)(e:H a=some (.ins C dx fs)):∃mA,pZ h a dx C mA/\(∀f,hJ (fs.lookup f) (mA f))/\QO mA (fs.map (·.1))/\fs.length<=1000/\H dx=some (.own a):=by obtain⟨d,z,j,B,mA,n,r,q⟩:=(show da P w H h a _ from g a _ e);exact⟨mA,⟨B,n,j⟩,r,q,z,d⟩
end
structure Cls(K:br)(C:af):Prop where
 pg:AR K C Str.empty=true
 hd:Ge K C=true
 po:Qt K C=true
 sa:kS K (.ref C) "__setattr__"=some (some (.builtin "object.__setattr__"))
def Cls.get{K:br}(c:Cls K C)(f:ag):AR K C f=true:=c.pg
abbrev iU(K:br)(C:af)(f:ag):Prop:=kS K (.ref C) f=some none
def iU.TQ{K:br}(n:iU K C f):QW K C f=some none:=by delta QW;rw[show kS K _ f=some none from n];rfl
structure Meth(K:br)(C:af)(m:ag)(f:af):Prop where
 at_:kS K (.ref C) m=some (some (.ref f))
 fn:xp K (.ref f)=true
 kp:jJ K (.ref f)=true
section
variable{X:Cx}{pins:List (af×bu)}{σ:St}{H:Hp}{s:ar}{a C dx:af}{fs:List (ag×V)}{f:ag}{v:V}{A:cG}{E:aj->ar->Prop}
def IT(I:Inv X pins σ H s)(e:H a=some (.ins C dx fs))(c:Cls X.K C)(n:iU X.K C f)(l:fs.lookup f=some v)(h:∀u s',Inv X pins σ H s'->RelV v u->Q u s'):aH (aF X.prog X.w) A (getAttr (.ref a) f b) Q E s:=by obtain⟨mA,O,r,_,_,_⟩:=yC I.a9 e;obtain⟨u,g,d⟩:=hJ.some_of (v:=v) (o:=mA f) (by grind);exact get_map I.gm O (c.get f) c.hd n g (TN d) (h u _ (I.tok _) d)
def CD(I:Inv X pins σ H s)(e:H a=some (.ins C dx fs))(c:Cls X.K C)(k:Meth X.K C m g)(l:fs.lookup m=none)(h:Q (.ref g,[.ref a]) s):aH (aF X.prog X.w) A (pE (.ref a) m j) Q E s:=by obtain⟨mA,O,r,_,_,_⟩:=yC I.a9 e;have d:mA m=none:=hJ.none_of (by grind);exact TJ I.gm O (c.get m) k.at_ k.fn d h
def IU(I:Inv X pins σ H s)(e:H a=some (.ins C dx fs))(c:Cls X.K C)(n:iU X.K C f)(U:fs.length<1000)(F:RelV y u)(h:∀s',Inv X pins σ (upd H a (.ins C dx (gn f y fs))) s'->Q () s'):aH (aF X.prog X.w) A (setAttr (.ref a) f u) Q E s:=by
 obtain⟨mA,O,r,j,_,B⟩:=yC I.a9 e;have G:(fs.map (·.1)).length<=bj:=by rw[bZ,xM];lia
 refine TK I.gm O c.sa c.po n.TQ c.hd j G λh' d J=>h _ ?_;haveI L:∃o,h'.get? dx=some o:=let⟨o,_,_,M,_⟩:=d.ns;⟨o,M⟩;refine I.write (by rw[e];exact xN) (.inr B) (λb q N z=>(J.2 b N).trans z) L ?_;refine⟨by rw[aD O.ne];exact B,?_,O.ne,d.obj,_,d.ns,λg=>?_,λg S=>?_⟩;·have:=IS f y fs;lia
 ·rw[IR];by_cases q:g=f;·rw[ax q,ax q];exact F
  simp_all
 ·by_cases q:g=f;·rw[q];exact(CC f y fs).1
  ·refine(CC f y fs).2 g (j g λz=>S ?_);lia
def Inv.made(I:Inv X pins σ H s):Inv X pins σ (upd (upd H s.heap.objs.size (.own (s.heap.objs.size+1))) (s.heap.objs.size+1) (.ins C s.heap.objs.size [])) {s with heap:=(s.heap.push xK).push (rG C s.heap.objs.size)}:=by
 haveI d:(s.heap.push _).get? _=some xK:=dL s.heap rfl;haveI j:((s.heap.push xK).push (rG C s.heap.objs.size)).get? (s.heap.objs.size+1)=some (rG C s.heap.objs.size):=by haveI:=dL (s.heap.push xK) (o:=rG C s.heap.objs.size) rfl;rwa[gX]at this
 haveI n:(s.heap.push _).Ns _ (λ_=>none):=⟨xK,#[],_,d,rfl,(λe he=>bw he (by simp)),λ_=>rfl⟩;haveI z:=I.laid (o:=.own (s.heap.objs.size+1)) (t':=s.toks) (λb u q=>bL _ q) (bR _) ⟨_,d⟩;refine z.laid (λb u q=>bL _ q) (lU (gX _ _)) ?_;haveI g:s.heap.objs.size≠s.heap.objs.size+1:=ea (QX _);refine⟨by rw[aD g,aW],fK _,g,j,λ_=>none,(Heap.Ns1.of_empty n).at λo q=>bL _ q,λ_=>xN,λy B=>bw rfl B⟩
def IV(g:jl e f env (aP e env)=aP e env)(h:aH (aF prog w) A (aP e env) (λo d=>aH (aF prog w) A (getAttr o f true) Q E d) E s):aH (aF prog w) A (aP (.Attribute e f pos) env) Q E s:=Attribute_any_ h (by rw[arm_eval_Attribute,g])
end
inductive IW(K:br)(f:ag)(Q:VK)(x:V)(H1:Hp):Prop|mk:∀a C dx fs v,x=.ref a->H1 a=some (.ins C dx fs)->Cls K C->iU K C f->fs.lookup f=some v->Q v H1->IW K f Q x H1
abbrev md(K:br)(ta:TE)(f:ag):TE:=λσ H Q=>ta σ H (IW K f Q)
inductive IX(K:br)(f:ag)(D:Ends)(σ:St)(y:V)(x:V)(H2:Hp):Prop|mk:∀a C dx fs,x=.ref a->H2 a=some (.ins C dx fs)->Cls K C->iU K C f->fs.length<1000->D.nx σ (upd H2 a (.ins C dx (gn f y fs)))->IX K f D σ y x H2
abbrev yD(K:br)(ta tv:TE)(f:ag):TS:=λD σ H=>tv σ H λy H1=>ta σ H1 (IX K f D σ y)
abbrev IY(X:Cx)(op:Operator)(d:V->V->Hp->VK->Prop):Prop:=∀(pins:List (af×bu)) (s:ar) (σ:St) (H:Hp) (x y:V) (u v:aj) (Q:VK),Inv X pins σ H s->RelV x u->RelV y v->d x y H Q->aH (aF X.prog X.w) X.A (inplaceOp op u v) (EP X pins σ Q) X.xe s
abbrev IZ(K:br)(ta tv:TE)(j:V->V->Hp->VK->Prop)(f:ag):TS:=λD σ H=>ta σ H λx H1=>∃a C dx fs v,x=.ref a/\H1 a=some (.ins C dx fs)/\Cls K C/\iU K C f/\fs.lookup f=some v/\tv σ H1 λy H2=>j v y H2 λz g=>∃d sy,g a=some (.ins C d sy)/\sy.length<1000/\D.nx σ (upd g a (.ins C d (gn f z sy)))
section
variable{X:Cx}{o e value:bp}{f:ag}{pos pos' oA:cj}{ta tv:TE}
def yF(he:PE X e ta)(d:jl e f X.env (aP e X.env)=aP e X.env):PE X (.Attribute e f pos) (md X.K ta f):=by intro pins s σ H Q I h;refine IV d (ba (he pins s σ H _ I h) λu G z1=>?_);obtain⟨x,H1,g,j,a,C,dx,fs,v,ex,z,c,n,l,q⟩:=z1;subst ex;obtain rfl:u=d9 a:=j;exact IT g z c n l λJ L B F=>⟨v,H1,B,F,q⟩
def I0(d:PE X o ta)(g:PE X value tv)(j:fJ value (some (.Attribute o f pos')) pos.line X.env=pure false):PS X (.Assign [.Attribute o f pos'] value pos) (yD X.K ta tv f):=by intro pins s σ H D I h;refine plainObj_wpAny_Assign_Attribute (ba (g pins s σ H _ I h) λu z ⟨y,H1,B,F,q⟩=>ba (d pins z σ H1 _ B q) λG S z1=>?_) j;obtain⟨x,H2,J,L,a,C,dx,fs,ex,M,c,n,l,N⟩:=z1;subst ex;obtain rfl:G=d9 a:=L;exact IU J M c n l F λU O=>⟨σ,_,O,N⟩
def TU(j:PE X o ta)(B:PE X value tv)(d:IY X op F):PS X (.AugAssign (.Attribute o f oA) op value pos) (IZ X.K ta tv F f):=by intro pins s σ H D I h;refine wpAny_AugAssign_AttributeAny (ba (j pins s σ H _ I h) λG s1 z1=>?_);obtain⟨x,H1,J,L,a,C,dx,fs,v,ex,M,c,n,l,q⟩:=z1;subst ex;obtain rfl:G=d9 a:=L;refine IT J M c n l λu N O S=>ba (B pins N σ H1 _ O q) λU W ⟨y,H2,Y,Z,q3⟩=>ba (d pins W σ H2 v y u U _ Y S Z q3) λw4 s4 z2=>?_;obtain⟨z,H3,I4,rz,oB,sy,g,l',q4⟩:=z2;exact IU I4 g c n l' rz λs5 I5=>⟨σ,_,I5,q4⟩
inductive CF(x:V)(y:V)(H:Hp)(Q:VK):Prop|mk:∀i j,x=.int i->y=.int j->Q (.int (i+j)) H->CF x y H Q
def TV:IY X .Add CF:=by rintro pins s σ H x y u v Q I d g ⟨i,j,rfl,rfl,q⟩;obtain⟨t,rfl⟩:=(show∃t,u=pB i t from d);obtain⟨t',rfl⟩:=(show∃t',v=pB j t' from g);exact abM ⟨.int (i+j),H,I.tok _,⟨_,rfl⟩,q⟩
def acM(he:PE X e te)(I:Inv X pins σ H s)
    (h:te σ H λx H1=>∃a C dx fs g,x=.ref a/\H1 a=some (.ins C dx fs)/\Cls X.K C/\Meth X.K C m g/\fs.lookup m=none/\∀j,Inv X pins σ H1 j->aH (aF X.prog X.w) X.A (pF pos (.ref g) [.ref a] (bF pos (aB args X.env)) (ii pos (ij [] X.env))) Q X.xe j)(B:aP (.Call (.Attribute e m apos) args [] pos) X.env=(do
     let n<-aP e X.env
     mN apos.atName let(f,d)<-jP [n] (pE n m J)
     pF pos f d (bF pos (aB args X.env)) (ii pos (ij [] X.env)))):aH (aF X.prog X.w) X.A (aP (.Call (.Attribute e m apos) args [] pos) X.env) Q X.xe s:=by refine QY (ba (he pins s σ H _ I h) λu j z1=>?_) B;obtain⟨x,H1,z,F,a,C,dx,fs,g,ex,G,c,k,l,q⟩:=z1;subst ex;obtain rfl:u=d9 a:=F;exact CD z G c k l (q j z)
end
end L2
namespace L2
open PySem PySem.Spec PyProof.Rows
def bO.mono(r:bO k A)(h:j<=k):bO j A:=⟨r.hd,by have:=r.dp;lia,by have:=r.un;lia⟩
def bO.deeper(r:bO (k+1) A)(env:Env):bO k (A.deeper env):=⟨r.hd,by have:=r.dp;show A.depth+1+3*k+5<_;lia,by have:=r.un;show A.units+3+16*k+200<_;lia⟩
def bO.in1(r:bO (k+1) A):bO k A.in1:=⟨r.hd,by have:=r.dp;lia,by have:=r.un;lia⟩
def TW{A:cG}:(A.under (.builtin "type.__call__" ⟨.ref C::us,d⟩)).depth=A.depth+1:=by rfl
def TX{A:cG}:(A.under (.builtin "type.__call__" ⟨.ref C::us,d⟩)).units=A.units+1:=by rfl
def bO.make(r:bO (k+1) A)(C:af)(us:List aj)(d:List (ag×aj)):bO k (A.under (.builtin "type.__call__" ⟨.ref C::us,d⟩)):=⟨r.hd,by haveI:=r.dp;rw[TW];lia,by haveI:=r.un;rw[TX];lia⟩
def bO.depth(r:bO k A):A.depth<Qs:=by haveI:=r.dp;lia
def bO.units(r:bO k A):A.units+64<dU:=by haveI:=r.un;lia
def bO.CG(r:bO k A):A.units<dU:=by haveI:=r.un;lia
abbrev eu:TA:=λ_ H Q=>Q [] H
abbrev eW(ta:TE)(d:TA):TA:=λσ H Q=>ta σ H λx H1=>d σ H1 λxs H2=>Q (x::xs) H2
section
variable{X:Cx}{e:bp}{es:List bp}{te:TE}{t:TA}{pos:cj}
def bG:PA X [] eu:=λ_ _ _ _ H Q I h=>Calls.spliced_nil ⟨[],H,I,.nil,h⟩
def aV(d:PE X e te)(g:PA X es t)(j: ~~~(aB (e::es) X.env=(false,aP e X.env)::aB es X.env)):PA X (e::es) (eW te t):=by intro pos pins s σ H Q I h;rw[j];refine QZ (ba (d pins s σ H _ I h) λu n z1=>?_);obtain⟨x,H1,q,z,B⟩:=z1;exact ba (g pos pins n σ H1 _ q B) λus L ⟨xs,H2,F,G,J⟩=>⟨x::xs,H2,F,.cons z G,J⟩
abbrev u5(t:TA):TE:=λσ H Q=>t σ H λxs H1=>xs.length<=bj/\∀p,H1 p=none->Q (.ref p) (upd H1 p (.tup xs))
abbrev yG(t:TA):TE:=λσ H Q=>t σ H λxs H1=>xs.length<=bj/\∀p,H1 p=none->Q (.ref p) (upd H1 p (.lst xs))
def sH(h:PA X es t):PE X (.Tuple es j pos) (u5 t):=by intro pins s σ H Q I g;refine wpAny_Tuple_spliced (ba (h pos pins s σ H _ I g) λus n ⟨xs,H1,d,r,z,q⟩=>⟨by rw[<-r.length];exact z,?_⟩);haveI hf:=d.a9.fresh (bR _);refine⟨.ref _,upd H1 _ _,d.laid (λb u e=>bL _ e) (bR _) ?_,rfl,q _ hf⟩;exact⟨z,us,r,⟨_,dL _ rfl,rfl,_,rfl⟩⟩
def lg(h:PA X es t):PE X (.List es pos) (yG t):=by intro pins s σ H Q I g;refine wpAny_List_spliced (ba (h pos pins s σ H _ I g) λus j ⟨xs,H1,d,r,z,q⟩=>⟨by rw[<-r.length];exact z,?_⟩);haveI hf:=d.a9.fresh (bR _);refine⟨.ref _,upd H1 _ _,d.laid (λb u e=>bL _ e) (bR _) ?_,rfl,q _ hf⟩;exact⟨z,us,0,r,dL _ rfl⟩
end
@[reducible]def Sp:=List V->Hp->VK->XK->Prop
@[reducible]def hU:=List Env->Hp->ar->XK->aj->ar->Prop
structure lh(P:bA)(w:bB)(K:br)(mg:ag->Option aj)(base:aZ)(A:cG)(outer:List Env)(s:ar)(H:Hp):Prop where
 frames:A.frames=some outer
 mod:Mod K mg base
 bs:∀b o,base.get? b=some o->s.heap.get? b=some o/\H b=none
 jw:base.objs.size<=s.heap.objs.size
 iG:s.heap.FunFrames base outer
 k8:∀b∈eG outer,H b=none
 a9:dM P w H s.heap
 bare:rJ s.gens
inductive CE(outer:List Env)(P:bA)(w:bB)(H:Hp)(s:ar)(Q:VK)(u:aj)(s':ar):Prop|mk:∀v H',s'.os=s.os->rJ s'.gens->Un (eG outer) [] H H' s.heap s'.heap->dM P w H' s'.heap->RelV v u->Q v H'->CE outer P w H s Q u s'
abbrev CR(CX:hU)(outer:List Env)(P:bA)(w:bB)(H:Hp)(s:ar)(Q:VK)(E:XK)(r:Result)(s':ar):Prop:=match r with|.ok (.ret u)=>CE outer P w H s Q u s'|.ok _=>False|.error e=>CX outer H s E e s'
structure bS(P:bA)(w:bB)(K:br)(mg:ag->Option aj)(base:aZ)(CX:hU)(k:Nat)(f:af)(fd:eQ)(ps:List ag)(sp:Sp):Prop where
 len:∀vs H Q E,sp vs H Q E->vs.length=ps.length
 run:∀(A:cG)(outer:List Env)(s:ar)(H:Hp)(args:Args)(us:List aj)(vs:List V)(Q:VK)(E:XK),bO k A->lh P w K mg base A outer s H->BindsTo s fd args (ps.zip us)->Vals vs us->sp vs H Q E->nX (aF P w) A (.call (.ref f) args) (CR CX outer P w H s Q E) s
def bS.mono{K:br}(F:bS P w K mg base CX j f fd ps sp)(h:j<=k):bS P w K mg base CX k f fd ps sp:=⟨F.len,λA outer s H args us vs Q E d=>F.run A outer s H args us vs Q E (d.mono h)⟩
def bS.imp{K:br}(F:bS P w K mg base CX k f fd ps sp)(h:∀vs H Q E,d vs H Q E->sp vs H Q E):bS P w K mg base CX k f fd ps d:=⟨λvs H Q E q=>F.len vs H Q E (h _ _ _ _ q),λA outer s H args us vs Q E g he j n z=>F.run A outer s H args us vs Q E g he j n (h _ _ _ _ z)⟩
def lh.make{K:br}(e:lh P w K mg base A outer s H)(C:af)(us:List aj)(d:List (ag×aj)):lh P w K mg base (A.under (.builtin "type.__call__" ⟨.ref C::us,d⟩)) outer s H:=⟨by first|exact e.frames|(simpa using e.frames),e.mod,e.bs,e.jw,e.iG,e.k8,e.a9,e.bare⟩
def lh.in1{K:br}(e:lh P w K mg base A outer s H):lh P w K mg base A.in1 outer s H:=⟨e.frames,e.mod,e.bs,e.jw,e.iG,e.k8,e.a9,e.bare⟩
section
variable{X:Cx}{pins:List (af×bu)}{σ:St}{H:Hp}{s s':ar}
def Inv.CH(I:Inv X pins σ H s):lh X.prog X.w X.K X.mg X.base X.A X.stack s H:=⟨I.ok.frames,I.ok.mod,I.bs,gI I.ok.jw I.sz,I.stack,I.yk,I.a9,I.bare⟩
def Inv.after(I:Inv X pins σ H s)(h:CE X.stack X.prog X.w H s Q u s'):EP X pins σ Q u s':=by obtain⟨v,H',os,j,F,n,r,q⟩:=h;obtain⟨G,g,d,t,B⟩:=s';obtain rfl:B=s.os:=os;exact⟨v,H',I.call F n j (λb z=>bw z (by simp)),r,q⟩
end
abbrev p1(sp:Sp)(eX:List V)(E:XK)(t:TA):TE:=λσ H Q=>t σ H λvs H1=>sp (vs++eX) H1 Q E
inductive Ja(C:af)(m:ag)(sp:Sp)(eX:List V)(E:XK)(t:TA)(σ:St)(Q:VK)(x:V)(H1:Hp):Prop|mk:∀a dx fs,x=.ref a->H1 a=some (.ins C dx fs)->fs.lookup m=none->(t σ H1 λvs H2=>sp (x::(vs++eX)) H2 Q E)->Ja C m sp eX E t σ Q x H1
abbrev p5(C:af)(m:ag)(sp:Sp)(eX:List V)(E:XK)(ta:TE)(t:TA):TE:=λσ H Q=>ta σ H (Ja C m sp eX E t σ Q)
abbrev u6(C:af)(sp:Sp)(eX:List V)(E:XK)(t:TA):TE:=λσ H Q=>t σ H λvs H1=>∀x dx,H1 x=none->H1 dx=none->dx≠x->sp (.ref x::(vs++eX)) (upd (upd H1 dx (.own x)) x (.ins C dx [])) (λv H2=>v=.ah/\Q (.ref x) H2) E
abbrev Binds(K:br)(fd:eQ)(ps:List ag)(ds:List aj):Prop:=∀(s:ar) (us:List aj),K.In s.heap->(us++ds).length=ps.length->BindsTo s fd ⟨us,[]⟩ (ps.zip (us++ds))
def Binds.all{K:br}(h:∀us:List aj,us.length=ps.length->Ba fd ⟨us,[]⟩=pure (ps.zip us)):Binds K fd ps []:=λs us _ d=>by
 rw[nY]at d⊢
 exact .of_eq (h us d)
abbrev Passes(CX:hU)(X:Cx)(E:XK):Prop:=∀(pins:List (af×bu)) (σ:St) (H:Hp) (s:ar) (e:aj) (s':ar),Inv X pins σ H s->CX X.stack H s E e s'->X.xe e s'
section
variable{X:Cx}{CX:hU}{k:Nat}{f C:af}{fd:eQ}{ps:List ag}{sp:Sp}{eX:List V}{ds:List aj}{E:XK}{x m:ag}{p pos apos:cj}{e o:bp}{es:List bp}{ta:TE}{t:TA}
def u7(F:bS X.prog X.w X.K X.mg X.base CX k f fd ps sp)(j:bO k X.A)(n:Binds X.K fd ps ds)(q:Vals eX ds)(z:Passes CX X E)(I:Inv X pins σ H s)(r:Vals vs us)(h:sp (vs++eX) H Q E):aH (aF X.prog X.w) X.A (call (.ref f) us) (EP X pins σ Q) X.xe s:=by
 haveI d:=r.append q;haveI B:(us++ds).length=ps.length:=by rw[<-d.length];exact F.len _ _ _ _ h
 refine xO (uz (F.run X.A X.stack s H _ _ _ Q E j I.CH (n s us I.gm B) d h) λr s' g=>?_);cases r with|error e=>exact z pins σ H s e s' I g|ok G=>cases G with|ret u=>exact I.after g|next=>assumption|brk=>assumption|cont=>assumption
def Jb(F:bS X.prog X.w X.K X.mg X.base CX k f fd ps sp)(j:bO k X.A)(n:Gl X x)(z:X.mg x=some (.ref f))(B:jJ X.K (.ref f)=true)(G:Binds X.K fd ps ds)(J:Vals eX ds)(L:Passes CX X E)(M:PA X (e::es) t)(d:((x==("__debug__":ag))=false)⁻¹) (he: ~~~(aB (e::es) X.env=(false,aP e X.env)::aB es X.env)) (hpl: ~~~((bF pos (aB es X.env)).any (·.1)=false)):PE X (.Call (.Name x p) (e::es) [] pos) (p1 sp eX E t):=by intro pins s σ H Q I h;refine lV (pX I n z ?_ d);refine Gs I.ok.mod.ol B (ba (M pos pins s σ H _ I h) λus N ⟨vs,H1,g,r,q⟩=>⟨g.gm,?_⟩) he hpl;exact u7 F j G J L g r q
def TY(F:bS X.prog X.w X.K X.mg X.base CX k f fd ps sp)(g:bO k X.A)(j:Gl X x)(n:X.mg x=some (.ref f))(q:jJ X.K (.ref f)=true)(z:Binds X.K fd ps ds)(B:Vals eX ds)(G:Passes CX X E)(d:((x==("__debug__":ag))=false)⁻¹):PE X (.Call (.Name x p) [] [] pos) (p1 sp eX E eu):=by intro pins s σ H Q I h;refine lV (pX I j n ?_ d);exact Q0 I.gm q (u7 F g z B G I .nil h)
def Jc(he:PE X o ta)(c:Cls X.K C)(j:Meth X.K C m f)(F:bS X.prog X.w X.K X.mg X.base CX k f fd ps sp)(G:bO k X.A)(J:Binds X.K fd ps ds)(L:Vals eX ds)(M:Passes CX X E)(N:PA X (e::es) t)
    (g: ~~~(aB (e::es) X.env=(false,aP e X.env)::aB es X.env)) (hpl: ~~~((bF pos (aB es X.env)).any (·.1)=false)) (O:aP (.Call (.Attribute o m apos) (e::es) [] pos) X.env=(do
     let n<-aP o X.env
     mN apos.atName let(f,d)<-jP [n] (pE n m pl)
     pF pos f d (bF pos (aB (e::es) X.env)) (ii pos (ij [] X.env))):=by rfl):PE X (.Call (.Attribute o m apos) (e::es) [] pos) (p5 C m sp eX E ta t):=by intro pins s σ H Q I h;refine QY (ba (he pins s σ H _ I h) λu S z1=>?_) O;obtain⟨x,H1,z,U,a,dx,fs,ex,Y,l,q⟩:=z1;subst ex;obtain rfl:u=d9 a:=U;refine CD z Y c j l ?_;refine Gs I.ok.mod.ol j.kp (ba (N pos pins S σ H1 _ z q) λus s2 ⟨vs,H2,B,r,Z⟩=>⟨B.gm,?_⟩) g hpl;exact u7 (vs:=.ref a::vs) F G J L M B (.cons rfl r) Z
def TZ(he:PE X o ta)(c:Cls X.K C)(j:Meth X.K C m f)(F:bS X.prog X.w X.K X.mg X.base CX k f fd ps sp)(z:bO k X.A)(B:Binds X.K fd ps ds)(G:Vals eX ds)(J:Passes CX X E)
    (L:aP (.Call (.Attribute o m apos) [] [] pos) X.env=(do
     let n<-aP o X.env
     mN apos.atName let(f,d)<-jP [n] (pE n m O)
     pF pos f d (bF pos (aB [] X.env)) (ii pos (ij [] X.env))):=by rfl):PE X (.Call (.Attribute o m apos) [] [] pos) (p5 C m sp eX E ta eu):=by intro pins s σ H Q I h;refine QY (ba (he pins s σ H _ I h) λu S z1=>?_) L;obtain⟨x,H1,g,M,a,dx,fs,ex,N,l,q⟩:=z1;subst ex;obtain rfl:u=d9 a:=M;refine CD g N c j l ?_;exact Q0 g.gm j.kp (u7 (vs:=[.ref a]) F z B G J g (.cons rfl .nil) q)
structure Mk(K:br)(C f:af):Prop where
 makes:Gf K C=true
 init:kS K (.ref C) "__init__"=some (some (.ref f))
 fn:xp K (.ref f)=true
 kp:jJ K (.ref C)=true
def Jd(M:Mk X.K C f)(F:bS X.prog X.w X.K X.mg X.base CX k f fd ps sp)(q:bO (k+1) X.A)(z:Binds X.K fd ps ds)(B:Vals eX ds)(G:Passes CX X E)(I:Inv X pins σ H s)(r:Vals vs us)(h:∀x dx,H x=none->H dx=none->dx≠x->sp (.ref x::(vs++eX)) (upd (upd H dx (.own x)) x (.ins C dx [])) (λv H2=>v=.ah/\Q (.ref x) H2) E):aH (aF X.prog X.w) X.A (call (.ref C) us) (EP X pins σ Q) X.xe s:=by
 haveI j:=h _ _ (I.a9.fresh (Nat.le_succ _)) (I.a9.fresh (bR _)) (ea (QX _));haveI g:=Inv.made (C:=C) I;haveI n:Vals (V.ref (s.heap.objs.size+1)::(vs++eX)) _:=.cons rfl (r.append B);haveI J:(d9 (s.heap.objs.size+1)::us++ds).length=ps.length:=by haveI e:=n.length;rw[F.len _ _ _ _ j]at e;exact e.symm
 refine xO (TM I.gm M.makes M.init (eE.mp M.fn) (uz (F.run _ X.stack _ _ _ _ _ _ E (q.make C us []) (g.CH.make C us []) (z _ _ g.gm J) n j) λr s' d=>?_));cases r with|error e=>exact G pins σ _ _ e s' g d|ok L=>cases L with|ret u=>obtain⟨v,H',N,O,S,U⟩:=g.after d;subst S;exact⟨O,⟨V.ref _,H',N,rfl,U⟩⟩|next=>assumption|brk=>assumption|cont=>assumption
def Je(M:Mk X.K C f)(F:bS X.prog X.w X.K X.mg X.base CX k f fd ps sp)(j:bO (k+1) X.A)(n:Gl X x)(z:X.mg x=some (.ref C))(B:Binds X.K fd ps ds)(G:Vals eX ds)(J:Passes CX X E)(L:PA X (e::es) t)(d:((x==("__debug__":ag))=false)⁻¹) (he: ~~~(aB (e::es) X.env=(false,aP e X.env)::aB es X.env)) (hpl: ~~~((bF pos (aB es X.env)).any (·.1)=false)):PE X (.Call (.Name x p) (e::es) [] pos) (u6 C sp eX E t):=by intro pins s σ H Q I h;refine lV (pX I n z ?_ d);refine Gs I.ok.mod.ol M.kp (ba (L pos pins s σ H _ I h) λus N ⟨vs,H1,g,r,q⟩=>⟨g.gm,?_⟩) he hpl;exact Jd M F j B G J g r q
def T1(M:Mk X.K C f)(F:bS X.prog X.w X.K X.mg X.base CX k f fd ps sp)(g:bO (k+1) X.A)(j:Gl X x)(n:X.mg x=some (.ref C))(q:Binds X.K fd ps ds)(z:Vals eX ds)(B:Passes CX X E)(d:((x==("__debug__":ag))=false)⁻¹):PE X (.Call (.Name x p) [] [] pos) (u6 C sp eX E eu):=by intro pins s σ H Q I h;refine lV (pX I j n ?_ d);exact Q0 I.gm M.kp (Jd M F g q z B I .nil h)
end
structure du(N P:List ag)(sc:fe):Prop where
 kind:sc.kind=.function
 co:sc.isCoroutine=false
 gen:sc.isGenerator=false
 nd:N.Nodup
 pre:N.take P.length=P
 par:∀x∈P,sc.names.lookup x=some .local\/sc.names.lookup x=some .cell
 T2:∀y∈sc.names,y.2≠.free
def Jf{kindOf:ag->Option jm}:∀{d:List (ag×aj)}{m:ag->Option aj},(∀v,(x,v)∉d)->rN kindOf d m x=m x
 |[],_,_=>rfl
 |(n,v)::r,m,h=>by
  unfold rN;rw[Jf λw g=>h w (jk _ g)];split;·grind
  ·rfl
def Jg{kindOf:ag->Option jm}:∀{d:List (ag×aj)}{m:ag->Option aj},(∀v,(x,v)∉d)->rO kindOf d m x=m x
 |[],_,_=>rfl
 |(n,v)::r,m,h=>by
  unfold rO;rw[Jg λw g=>h w (jk _ g)];split;·rfl
  grind
def Jh{kindOf:ag->Option jm}{x:ag}{v:aj}:∀{P:List ag}{vs:List aj}{i:Nat}{m:ag->Option aj},P.Nodup->P[i]?=some x->vs[i]?=some v->kindOf x=some .local->rN kindOf (P.zip vs) m x=some v|[],_,_,_,_,h,_,_=>by simp at h|_::_,[],_,_,_,_,h,_=>by simp at h|p::P,w::vs,0,m,d,h1,h2,g=>by simp at h1 h2;subst h1;subst h2;show rN kindOf ((p,w)::P.zip vs) m p=_;unfold rN;rw[Jf λv j=>(kW.mp d).1 (Gu j).1,ax g];simp|p::P,w::vs,i+1,m,d,h1,h2,g=>by show rN kindOf ((p,w)::P.zip vs) m x=_;unfold rN;exact Jh (i:=i) (kW.mp d).2 (by simpa using h1) (by simpa using h2) g
def Ji{kindOf:ag->Option jm}{x:ag}{v:aj}:∀{P:List ag}{vs:List aj}{i:Nat}{m:ag->Option aj},P.Nodup->P[i]?=some x->vs[i]?=some v->kindOf x≠some .local->rO kindOf (P.zip vs) m x=some v|[],_,_,_,_,h,_,_=>by simp at h|_::_,[],_,_,_,_,h,_=>by simp at h|p::P,w::vs,0,m,d,h1,h2,g=>by simp at h1 h2;subst h1;subst h2;show rO kindOf ((p,w)::P.zip vs) m p=_;unfold rO;rw[Jg λv j=>(kW.mp d).1 (Gu j).1,ay g];simp|p::P,w::vs,i+1,m,d,h1,h2,g=>by show rO kindOf ((p,w)::P.zip vs) m x=_;unfold rO;exact Ji (i:=i) (kW.mp d).2 (by simpa using h1) (by simpa using h2) g
abbrev start(N:List ag)(vs:List V):St:=vs.map some++jn (N.length-vs.length) none
abbrev hV(CX:hU)(P:bA)(w:bB)(K:br)(mg:ag->Option aj)(base:aZ)(N:List ag)(qual:ag)(scope:fe)(f:af)(cd:aj)(A:cG)(outer:List Env)(s:ar)(H:Hp)(E:XK):Cx where prog:=P;w:=w;K:=K;mg:=mg;base:=base;A:=A.deeper (gY qual scope s.heap.objs.size f cd);N:=N;er:=s;om:=H;env:=gY qual scope s.heap.objs.size f cd;outer:=outer;stack:=gY qual scope s.heap.objs.size f cd::outer;ex:=[];calm:=true;fn:=λ_=>true;pn:=[];xe:=λe s'=>aH (aF P w) (A.deeper (gY qual scope s.heap.objs.size f cd)) (leaving (gY qual scope s.heap.objs.size f cd) e) (λ_ d=>CX outer H s E e d) (λg d=>CX outer H s E g d) s'
def Jj{sc:fe}(h:sc.names.lookup x=some .cell):∃c,(gJ n sc.names []).lookup x=some c:=by haveI q:=abU _ n [] (.inl h);exact abV.mp q
def T3{K:br}(S:du N ps scope)(I:A.handled=none)(d:lh P w K mg base A outer s H)(O:vs.length=ps.length)(r:Vals vs us)(x:InCallC s s.heap.objs.size (rN (gY qual scope s.heap.objs.size f cd).kindOf (ps.zip us) λ_=>none) (gJ (s.heap.objs.size+1) scope.names []) (rO (gY qual scope s.heap.objs.size f cd).kindOf (ps.zip us) λ_=>none) J):Inv (hV CX P w K mg base N qual scope f cd A outer s H E) [] (start N vs) H J:=by
 haveI hpl:ps.length<=N.length:=by have:=bz ki S.pre;rw[Bb]at this;lia
 obtain⟨h1,U,rfl,F⟩:=x.done;haveI g:∀b:af,b∉(hV CX P w K mg base N qual scope f cd A outer s H E).ex:=λb z=>bw (show b∈([]) from z) (by simp);refine⟨⟨d.mod,S.kind,rfl,rfl,bR _,λy z c h1 h2=>?_,λy j=>?_,λy c _ h=>?_,λ_=>I,Around.frames_deeper d.frames,.inr ⟨rfl,rfl⟩,λb z=>bw z (g b),d.bs,d.jw,λb _ _=>g b,λb z=>bw z (g b),d.iG,d.k8⟩,rfl,d.bare,Un.kept F,⟨_,x.toInCall.ns,λi y v h1 h2 Y=>?_⟩,λy c h=>⟨_,x.cell y c h⟩,d.a9.fresh (bR _),λy c h=>?_,λp n=>bw (show p∈([]) from n) (by simp),d.a9.kept F,?_⟩;·exact name_of_addr x.apart (jR h1) (jR h2)
 ·rcases j with j|j;·exact Jj j
  ·exact bw rfl (S.T2 _ (jR j))
 ·exact Go (x.above y c (jR h))
 ·have hi:i<vs.length:=by
   unfold start at h2;by_cases hi:i<vs.length;·exact hi
   ·grind
  haveI L:vs[i]?=some v:=by delta start at h2;rw[AX (by simp_all)]at h2;cases e:vs[i]?with|none=>simp_all|some a=>simp_all
  obtain⟨u,G,M⟩:=r.get L;have n:ps[i]?=some y:=by rw[<-S.pre,List.getElem?_take_of_lt (by lia)];exact h1
  have B:ps.Nodup:=by rw[<-S.pre];exact S.nd.sublist (abW _ _)
  refine⟨u,M,?_⟩;rcases S.par y (fY n)with k|k;·exact .inl ⟨k,Jh B n G k⟩
  ·obtain⟨c,e⟩:=Jj k;refine .inr ⟨.inl k,c,e,?_⟩;haveI q:=x.cell y c e;rw[Ji B n G (by show scope.names.lookup y≠_;lia)]at q;exact q
 ·exact d.a9.fresh (Go (x.above y c (jR h)))
 ·delta start;show _=N.length;simp_all
def yH{P:bA}{w:bB}{K:br}{mg:ag->Option aj}{base:aZ}{k:Nat}{name qual:ag}{g:rn}{j:List dm}{scope:fe}{dV kV L pm d ct oc:aj}{an od:Option af}{U:Array (Option aj)}{N ps:List ag}{sp:Sp}(lk:K.lookup f=some ⟨oc,od,.func (rp name qual g j scope dV kV L pm an d ct),U⟩)(Y:Gc K d qual=true)(S:du N ps scope)(len:∀vs H Q E,sp vs H Q E->vs.length=ps.length)(B:∀(A:cG)(outer:List Env)(s:ar)(H:Hp)(vs:List V)(Q:VK)(E:XK),bO k (A.deeper (gY qual scope s.heap.objs.size f d))->sp vs H Q E->∃t,df (hV CX P w K mg base N qual scope f d A outer s H E) j t/\t {nx:=λ_ H'=>Q .ah H',rt:=Q} (start N vs) H):bS P w K mg base CX (k+1) f (rp name qual g j scope dV kV L pm an d ct) ps sp:=by
 refine⟨len,λA outer s H args us vs Q E Z M hb r O=>?_⟩;have hl:=len _ _ _ _ O;have KX:=M.mod.ol.keeps λb o e=>(M.bs b o e).1;have lim:=M.mod.nolimit.keeps λb o e=>(M.bs b o e).1;haveI F:∀y∈ps.zip us,scope.names.lookup y.1=some .local\/(scope.names.lookup y.1=some .cell/\((gJ (s.heap.objs.size+1) scope.names []).lookup y.1).isSome=true):=λ⟨n,v⟩ hy=>by
  rcases S.par n (Gu hy).1 with q|q;·exact .inl q
  ·exact .inr ⟨q,abU _ _ _ (.inl q)⟩
 refine codeAny_call_function Z.depth (KX _ _ lk) rfl S.co S.gen rfl (PySem.W.codeRec_of KX Y) (hb _ _ _ _ ?_);refine wpAny_newFunctionEnv_cells S.kind F λenv he s1 x=>?_;subst he;refine⟨lim.keeps x.toInCall.keep,codeAny_func ?_⟩;obtain⟨t,ht,hq⟩:=B A outer s H vs Q E (Z.deeper _) O;haveI I:Inv (hV CX P w K mg base N qual scope f d A outer s H E) [] (start N vs) H s1:=T3 S Z.hd M hl r x;refine fw (ht [] s1 (start N vs) H _ I hq) (λfl s' G=>?_) λe s' G=>G;have fin:∀{z:St} {H':Hp} {v:V} {u:aj},Inv (hV CX P w K mg base N qual scope f d A outer s H E) [] z H' s'->RelV v u->Q v H'->CE outer P w H s Q u s':=λ{z H' v u} J rv q=>⟨v,H',J.os,J.bare,J.base,J.a9,rv,q⟩;cases fl with|ret u=>obtain⟨v,z,H',J,rv,q⟩:=G;exact fin J rv q|next=>obtain⟨z,H',J,q⟩:=G;exact fin (v:=V.ah) J rfl q|brk=>obtain⟨_,_,_,q⟩:=G;simp_all|cont=>obtain⟨_,_,_,q⟩:=G;simp_all
end L2
namespace L2
open PySem PySem.Spec PyProof.Rows
section
variable{X:Cx}{x:ag}{p pos:cj}{e:bp}{es:List bp}{t:TA}{id T:String}{r:List V->Hp->VK->Prop}
abbrev li(r:List V->Hp->VK->Prop)(t:TA):TE:=λσ H Q=>t σ H λvs H1=>r vs H1 Q
def p8(g:l9 X (.builtin id) r)(j:Gl X x)(n:X.mg x=none)(q:ut x=some (.builtin id))(z:PA X (e::es) t)(B:(x≠"__name__")⁻¹) (d:((x==("__debug__":ag))=false)⁻¹) (he: ~~~(aB (e::es) X.env=(false,aP e X.env)::aB es X.env)) (hpl: ~~~((bF pos (aB es X.env)).any (·.1)=false)):PE X (.Call (.Name x p) (e::es) [] pos) (li r t):=by intro pins s σ H Q I h;refine lV (k9 I j n q ?_ B d);exact PyProof.Rows.callWith_builtin1 (ba (z pos pins s σ H _ I h) λus F ⟨vs,H1,G,J,L⟩=>g pins F σ H1 vs us Q G J L) he hpl
def CI(g:l9 X (.type T) r)(j:Gl X x)(n:X.mg x=none)(q:ut x=some (.type T))(z:PA X (e::es) t)(B:(x≠"__name__")⁻¹) (d:((x==("__debug__":ag))=false)⁻¹) (he: ~~~(aB (e::es) X.env=(false,aP e X.env)::aB es X.env)) (hpl: ~~~((bF pos (aB es X.env)).any (·.1)=false)):PE X (.Call (.Name x p) (e::es) [] pos) (li r t):=by intro pins s σ H Q I h;refine lV (k9 I j n q ?_ B d);exact uw (ba (z pos pins s σ H _ I h) λus F ⟨vs,H1,G,J,L⟩=>g pins F σ H1 vs us Q G J L) he hpl
end
end L2
namespace HT
open PySem PyProof.Rows
abbrev lexLt:List Int->List Int->Bool|[],[]=>false|[],_::_=>true|_::_,[]=>false|x::xs,y::ys=>if x=y then lexLt xs ys else decide (x<y)
def Jk(x y:Int)(xs ys:List Int):lexLt (x::xs) (y::ys)=if x=y then lexLt xs ys else decide (x<y):=rfl
def T4(x:Int)(xs:List Int):lexLt (x::xs) []=false:=rfl
def T5(A:cG)(s:ar)(a:Int)(t:Tok)(c:Int)(u:Tok):∃e,Q1 A s (.int a t) (.int c u) e/\(e=true↔a=c):=⟨(a==c),abX a t c u,by simp⟩
def T6(A:cG)(s:ar)(a:Int)(t:Tok)(c:Int)(u:Tok)(prog:bA)(w:bB)(E:aj->ar->Prop)(Q:aj->ar->Prop)(h:Q (.bool (decide (a<c))) s):aH (aF prog w) A (richCompare .Lt (.int a t) (.int c u)) Q E s:=(abR h)
section
variable{prog:bA}{w:bB}{A:cG}{E:aj->ar->Prop}{s:ar}
abbrev iV(n d:Nat):Option Int->Nat|none=>d|some v=>if v<0 then(v+(n:Int)).toNat else min v.toNat n
def yI(n d:Nat):iV n d none=d:=rfl
def oC(n d k:Nat):iV n d (some (k:Int))=min k n:=by rfl
end
end HT
namespace L2
open PySem PySem.Spec PyProof.Rows
@[reducible]def TO:=St->Hp->(Option Int->Hp->Prop)->Prop
abbrev PO(X:Cx)(e:Option bp)(t:TO):Prop:=∀(pins:List (af×bu)) (s:ar) (σ:St) (H:Hp) (Q:Option Int->Hp->Prop),Inv X pins σ H s->t σ H Q->aH (aF X.prog X.w) X.A (evalPart e X.env) (λu s'=>∃o H',Inv X pins σ H' s'/\IsPart u o/\Q o H') X.xe s
abbrev Jl:TO:=λ_ H Q=>Q none H
inductive Jm(Q:Option Int->Hp->Prop)(x:V)(H1:Hp):Prop|mk:∀i,x=.int i->Q (some i) H1->Jm Q x H1
abbrev Jn(t:TE):TO:=λσ H Q=>t σ H (Jm Q)
def intsAre_of:∀{us:List aj},Vals (ns.map V.int) us->kj us ns:=by induction ns with|nil=>intro us r;cases r;exact .nil|cons n ns d=>intro us r;cases r with|cons g j=>obtain⟨t,e⟩:=g;subst e;exact .cons n t (d j)
section
variable{X:Cx}{e:bp}{te:TE}{lo hi:Option bp}{tl th:TO}{pos p2:cj}
def CJ:PO X none Jl:=by intro pins s σ H Q I h;exact ce ⟨none,H,I,.none,h⟩
def u8(h:PE X e te):PO X (some e) (Jn te):=by intro pins s σ H Q I d;refine ba (h pins s σ H _ I d) λu z z1=>?_;obtain⟨x,H1,g,j,n⟩:=z1;obtain⟨i,rfl,q⟩:=n;obtain⟨t,rfl⟩:=j;exact⟨some i,H1,g,.int i t,q⟩
abbrev Jo(X:Cx)(r:V->Option Int->Option Int->Hp->VK->Prop):Prop:=∀(pins:List (af×bu)) (s:ar) (σ:St) (H:Hp) (x:V) (v d g:aj) (lo hi:Option Int) (j:af) (Q:VK),Inv X pins σ H s->RelV x v->s.heap.IsSliceOf j d g .none->IsPart d lo->IsPart g hi->r x lo hi H Q->∃T id,xP (.type T) "__getitem__"=pure (some (.builtin id))/\s.TypeIs v T/\aH (aF X.prog X.w) X.A (xQ v (.ref j)) (EP X pins σ Q) X.xe s
abbrev CK(r:V->Option Int->Option Int->Hp->VK->Prop)(te:TE)(tl th:TO):TE:=λσ H Q=>te σ H λx H1=>tl σ H1 λl H2=>th σ H2 λu d=>r x l u d Q
def Jp(z:Jo X r)(he:PE X e te)(B:PO X lo tl)(F:PO X hi th):PE X (.Subscript e (.Slice lo hi none p2) pos) (CK r te tl th):=by intro pins s σ H Q I h;refine Gv (ba (he pins s σ H _ I h) λv G z1=>?_);obtain⟨x,H1,J,L,M⟩:=z1;refine wpAny_Slice (ba (B pins G σ H1 _ J M) λd N ⟨l,H2,O,S,U⟩=>ba (F pins N σ H2 _ O U) λg j z2=>?_);obtain⟨u,n,W,Y,Z⟩:=z2;refine ce ?_;haveI I4:Inv X pins σ n {j with heap:=j.heap.push {cls:=.type "slice",data:=.fields #[d,g,.none]}}:=W.kept λb ob q=>bL _ q;obtain⟨T,id,hT,ht,hg⟩:=z pins _ σ n x v d g l u _ Q I4 L (Heap.IsSliceOf.new ..) S Y Z;exact tail_any ht hT hg (by rfl)
abbrev mf(xs:List V)(lo hi:Option Int):List V:=(xs.drop (HT.iV xs.length 0 lo)).take (HT.iV xs.length xs.length hi-HT.iV xs.length 0 lo)
def T7(xs:List V)(lo hi:Option Int):(mf xs lo hi).length<=xs.length:=gI (abW _ _).length_le (List.drop_sublist _ _).length_le
end
end L2
namespace L2
open PySem PySem.Spec PyProof.Rows
abbrev h0(n:Nat)(i:Int):Option Nat:=if 0<=i then(if i<n then some i.toNat else none)else if-(n:Int)<=i then some (i+n).toNat else none
abbrev ew{d:Type}(xs:List d)(i:Int):Option d:=(h0 xs.length i).bind λj=>xs[j]?
def Jq(h:h0 n i=some j):seqIndex? i n=some j/\j<n/\-(n:Int)<=i/\i<n:=by
 delta h0 at h;by_cases d:0<=i
 ·rw[ax d]at h;by_cases h1:i<n;·rw[ax h1]at h;haveI e:=eR h;exact⟨by rw[Q2 d h1,e],by lia,by lia,h1⟩
  simp_all
 ·rw[ay d]at h;by_cases h1:-n<=i;·rw[ax h1]at h;haveI e:=eR h;exact⟨by rw[Q3 (by lia) h1,e],by lia,h1,by lia⟩
  simp_all
def CL{d:Type}{xs:List d}{v:d}(h:ew xs i=some v):∃j,seqIndex? i xs.length=some j/\xs[j]?=some v/\j<xs.length/\-(xs.length:Int)<=i/\i<xs.length:=by delta ew at h;cases e:h0 xs.length i with|none=>simp_all|some j=>obtain⟨h1,h2,g,n⟩:=Jq e;simp_all
abbrev yJ(b:bp):Prop:=∀o i,Gw b false o i=operate [o,i] (xQ o i)
abbrev mZ(X:Cx)(r:R2):Prop:=∀(value d:bp) (pins:List (af×bu)) (s:ar) (σ:St) (H:Hp) (x y:V) (v u:aj) (Q:VK),Inv X pins σ H s->RelV x v->RelV y u->r x y H Q->Gw d false v u=operate [v,u] (xQ v u)->aH (aF X.prog X.w) X.A (subscriptTail value d v u) (EP X pins σ Q) X.xe s
abbrev T8(X:Cx)(id:String)(r:V->List V->Hp->VK->Prop):Prop:=∀(pins:List (af×bu)) (s:ar) (σ:St) (H:Hp) (x:V) (xs:List V) (v:aj) (us:List aj) (Q:VK),Inv X pins σ H s->RelV x v->Vals xs us->r x xs H Q->aH (aF X.prog X.w) X.A (call (.builtin id) (v::us)) (EP X pins σ Q) X.xe s
section
variable{X:Cx}{a b:bp}{ta tb:TE}{pos:cj}
def mZ.or(h:mZ X r)(h':mZ X z):mZ X (λx y H Q=>r x y H Q\/z x y H Q):=by
 intro value d pins s σ H x y v u Q I g j q n;rcases q with q|q;·exact h value d pins s σ H x y v u Q I g j q n
 ·exact h' value d pins s σ H x y v u Q I g j q n
def CM(d:mZ X r)(g:PE X a ta)(j:PE X b tb)(n:yJ b):PE X (.Subscript a b pos) (fA r ta tb):=by intro pins s σ H Q I h;exact Gv (Cv g j I h λv u z x y H2 B F G q=>d a b pins z σ H2 x y v u Q B F G q (n _ _))
inductive yK(K:br)(x:V)(y:V)(H:Hp)(Q:VK):Prop|mk:∀p xs i v,x=.ref p->y=.int i->dG K H p xs->ew xs i=some v->Q v H->yK K x y H Q
inductive CN(K:br)(x:V)(y:V)(H:Hp)(Q:VK):Prop|mk:∀p xs i v,x=.ref p->y=.int i->cS K H p xs->ew xs i=some v->Q v H->CN K x y H Q
inductive CO(x:V)(y:V)(H:Hp)(Q:VK):Prop|mk:∀z i c,x=.str z->y=.int i->z.length<=bj->ew z.cps.toList i=some c->Q (.str ⟨#[c]⟩) H->CO x y H Q
def Jr:mZ X (yK X.K):=by
 intro value d pins s σ H x y v u Q I G J h B;obtain⟨p,xs,i,z,rfl,rfl,L,he,q⟩:=h;subst G;obtain⟨t,rfl⟩:=J;obtain⟨its,r,g,U⟩:=I.list L;obtain⟨j,h1,h2,W,M,N⟩:=CL he;obtain⟨w,Y,n⟩:=r.get h2;haveI O:=r.length;haveI Z:=sG;haveI fin:EP X pins σ Q w s:=⟨z,H,I,n,q⟩;by_cases F:0<=i
 ·haveI S:i.toNat=j:=by rw[Q2 F N]at h1;exact eR h1
  exact item_listR g.isList F (by lia) (by simp_all) fin B
 ·haveI S:(i+its.toArray.size).toNat=j:=by rw[Q3 (by lia) M]at h1;rw[lW,<-O];exact eR h1
  exact abY g.isList.typeIs slot_list_getitem.lookup (wpAny_getItem_list_neg g.isList (by lia) (by simp_all) (by lia) (by simp_all) ⟨rfl,fin⟩) B
def T9:mZ X (CN X.K):=by intro value d pins s σ H x y v u Q I B F h G;obtain⟨p,xs,i,z,rfl,rfl,J,he,q⟩:=h;subst B;obtain⟨t,rfl⟩:=F;obtain⟨its,r,n,L⟩:=I.tuple J;obtain⟨j,h1,h2,M,N,O⟩:=CL he;obtain⟨w,S,g⟩:=r.get h2;have U:=r.length;have W:=sG;have fin:EP X pins σ Q w s:=⟨z,H,I,g,q⟩;exact abY n.typeIs slot_tuple_getitem.lookup (getItem_tuple (j:=j) n (by lia) (by lia) (by simp_all) (by simp_all) ⟨rfl,fin⟩) G
def Ua:mZ X CO:=by
 intro value d pins s σ H x y v u Q I g n h B;obtain⟨z,i,c,rfl,rfl,L,he,q⟩:=h;obtain⟨t,rfl⟩:=g;obtain⟨t',rfl⟩:=n;obtain⟨j,h1,h2,M,F,G⟩:=CL he;have J:z.cps.toList.length=z.length:=by simp[Str.length]
 rw[J]at h1 F G;have N:=sG;exact tail_any (typeIs_str s z t) slot_str_getitem.lookup (getItem_str (c:=c) (by lia) (by grind) ⟨.str ⟨#[c]⟩,H,I.tok _,⟨_,rfl⟩,q⟩) B
abbrev p9(K:br):R2:=λx y H Q=>yK K x y H Q\/CN K x y H Q\/CO x y H Q
def Js:mZ X (p9 X.K):=Jr.or (T9.or Ua)
def Ub(its:List aj)(n j:Nat)(u:aj):jo (·.setIfInBounds j u) {cls:=.type "list",data:=.seq its.toArray n}={cls:=.type "list",data:=.seq (its.set j u).toArray n}:=by simp[jo]
def Inv.lst{pins:List (af×bu)}{σ:St}{H:Hp}{s:ar}{p:af}{xs:List V}(I:Inv X pins σ H s)(h:H p=some (.lst xs)):∃(its:List aj)(n:Nat),Vals xs its/\s.heap.get? p=some {cls:=.type "list",data:=.seq its.toArray n}/\xs.length<=bj:=by obtain⟨z,its,n,r,e⟩:=I.a9 p _ h;exact⟨its,n,r,e,z⟩
def Inv.Uc{its d:List aj}(I:Inv X pins σ H s)(h:H p=some (.lst xs))(j:s.heap.get? p=some {cls:=.type "list",data:=.seq its.toArray n}) (hf:f {cls:=.type "list",data:=.seq its.toArray n}={cls:=.type "list",data:=.seq d.toArray g}) (r:Vals ys d) (z:ys.length<=bj) (t:Nat):Inv X pins σ (upd H p (.lst ys)) {s with heap:=s.heap.update p f,toks:=t}:=by
 haveI e:(s.heap.update p f).get? p=some {cls:=.type "list",data:=.seq d.toArray g}:=by rw[Gy f j (by rw[hf]<;>rfl),hf]
 refine I.write (by rw[h];trivial) (.inl rfl) (λb u B q=>(Q4 _ _ (bK B)).trans q) ⟨_,e⟩ ?_;exact⟨z,d,g,r,e⟩
inductive CP(o:V)(i:V)(v:V)(H:Hp)(Q:Hp->Prop):Prop|mk:∀p xs k j,o=.ref p->i=.int k->H p=some (.lst xs)->h0 xs.length k=some j->Q (upd H p (.lst (xs.set j v)))->CP o i v H Q
def set_list:Ih X CP:=by
 intro pins s σ H o i v S U u Q I B F G h;obtain⟨p,xs,k,j,rfl,rfl,g,J,q⟩:=h;subst B;obtain⟨t,rfl⟩:=F;obtain⟨its,n,r,d,Y⟩:=I.lst g;obtain⟨h1,h2,L,M⟩:=Jq J;haveI N:=r.length;haveI Z:=sG;haveI I':=I.Uc g d (Ub its n j u) (r.set G j) (by simp_all) s.toks;by_cases z:0<=k
 ·haveI O:k.toNat=j:=by rw[Q2 z M]at h1;exact eR h1
  exact PySem.W.ki_setAt d z (by lia) (by simp_all) (by grind)
 ·haveI O:(k+its.toArray.size).toNat=j:=by rw[Q3 (by lia) L]at h1;rw[lW,<-N];exact eR h1
  exact PySem.W.ki_setBack d (by lia) (by simp_all) (by lia) (by grind)
def Ud(lo hi:Option Int)(n:Nat):(Bd lo hi none n).1=((HT.iV n 0 lo:Nat):Int)/\(Bd lo hi none n).2.1=((HT.iV n n hi:Nat):Int)/\(Bd lo hi none n).2.2=1:=by
 refine⟨?_,?_,rfl⟩;·cases lo with|none=>rfl|some i=>simp only[Bd,HT.iV,if_true];grind
 ·cases hi with|none=>rfl|some i=>simp only[Bd,HT.iV,if_true];grind
def Ue(its:List aj)(lo hi:Option Int):slicePick its.toArray lo hi none=((its.drop (HT.iV its.length 0 lo)).take (HT.iV its.length its.length hi-HT.iV its.length 0 lo)).toArray:=by obtain⟨h1,h2,d⟩:=Ud lo hi _;delta slicePick;rw[h1,h2,d];rw[sliceRange_one,pick_run]<;>rfl
abbrev CQ(K:br):V->Option Int->Option Int->Hp->VK->Prop:=λx lo hi H Q=>∃a xs,x=.ref a/\dG K H a xs/\∀p,H p=none->Q (.ref p) (upd H p (.lst (mf xs lo hi)))
def Jt:Jo X (CQ X.K):=by intro pins s σ H x v G J lo hi L Q I g j n z h;obtain⟨a,xs,rfl,B,q⟩:=h;subst g;obtain⟨its,r,d,F⟩:=I.list B;have hlen:=r.length;refine⟨"list",_,slot_list_getitem.lookup,d.isList.typeIs,?_⟩;refine wpAny_getItem_list_slice d.isList j n z .none (by simp) ?_ (by simp_all);rw[Ue,<-hlen];refine⟨.ref _,_,I.laid (λb M q=>bL _ q) (bR _) ?_,rfl,q _ (I.a9.fresh (bR _))⟩;exact⟨gI (T7 xs lo hi) F,_,0,(r.drop _).take _,dL _ rfl⟩
abbrev m6:V->Bool|.ah=>true|.bl _=>true|.int _=>true|.str _=>true|_=>false
abbrev oE:V->V->Bool|.ah,.ah=>true|.bl a,.bl b=>a==b|.bl a,.int b=>(if a then 1 else 0)==b|.int a,.bl b=>a==(if b then 1 else 0)|.int a,.int b=>a==b|.str a,.str b=>a==b|_,_=>false
def Uf(g:RelV y u)(d:RelV x v)(n:m6 y=true)(j:m6 x=true):Q1 A s u v (oE y x):=by
 cases y with
 |ah=>cases g;cases x with|ah=>subst d;exact SeqAt.EqAt.same _|bl b=>subst d;exact SeqAt.EqAt.none_bool b|int b=>obtain⟨t,rfl⟩:=d;exact SeqAt.EqAt.none_int b t|str b=>obtain⟨t,rfl⟩:=d;exact SeqAt.EqAt.none_str b t|_=>exact bw (show false=true from j) bE
 |bl a=>subst g;cases x with|ah=>subst d;exact SeqAt.EqAt.bool_none a|bl b=>subst d;exact SeqAt.EqAt.bool_bool a b|int b=>obtain⟨t,rfl⟩:=d;exact SeqAt.EqAt.bool_int a b t|str b=>obtain⟨t,rfl⟩:=d;exact SeqAt.EqAt.bool_str a b t|_=>exact bw (show false=true from j) bE
 |int a=>obtain⟨t',rfl⟩:=g;cases x with|ah=>subst d;exact SeqAt.EqAt.int_none a t'|bl b=>subst d;exact SeqAt.EqAt.int_bool a t' b|int b=>obtain⟨t,rfl⟩:=d;exact abX a t' b t|str b=>obtain⟨t,rfl⟩:=d;exact abD a t' b t|_=>exact bw (show false=true from j) bE
 |str a=>obtain⟨t',rfl⟩:=g;cases x with|ah=>subst d;exact SeqAt.EqAt.str_none a t'|bl b=>subst d;exact SeqAt.EqAt.str_bool a t' b|int b=>obtain⟨t,rfl⟩:=d;exact abE a t' b t|str b=>obtain⟨t,rfl⟩:=d;exact SeqAt.EqAt.str_str a t' b t|_=>exact bw (show false=true from j) bE
 |_=>exact bw (show false=true from n) bE
abbrev iW(x:V)(u:aj):Bool:=match u with|.none=>oE .ah x|.bool b=>oE (.bl b) x|.int i _=>oE (.int i) x|.str z _=>oE (.str z) x|_=>false
def Ju(r:RelV y u)(f:m6 y=true):iW x u=oE y x:=by cases y with|ah=>subst r;rfl|bl b=>subst r;rfl|int i=>obtain⟨t,rfl⟩:=r;rfl|str z=>obtain⟨t,rfl⟩:=r;rfl|_=>exact bw (show false=true from f) bE
def u9{x:V}:∀{xs:List V}{us:List aj},Vals xs us->xs.all m6=true->us.any (iW x)=xs.any λy=>oE y x|_,_,.nil,_=>rfl|y::xs,u::us,.cons r t,f=>by rw[nZ,d0]at f;rw[nR,nR,Ju r f.1,u9 t f.2]
def va(g:RelV x v)(j:m6 x=true):∀{xs:List V}{us:List aj},Vals xs us->xs.all m6=true->∀u∈us,Q1 A s u v (iW x u)
 |_,_,.nil,_=>λu d=>by cases d
 |y::xs,u::us,.cons r t,f=>λn d=>by
  rw[nZ,d0]at f;rcases ff.mp d with rfl|d;·rw[Ju r f.1];exact Uf r g f.1 j
  ·exact va g j t f.2 n d
abbrev oF(x:V)(xs:List V):Bool:=xs.any λy=>oE y x
inductive vb(K:br)(neg:Bool)(x:V)(y:V)(H:Hp)(Q:VK):Prop|mk:∀p xs,y=.ref p->((dG K H p xs\/cS K H p xs))->m6 x=true->xs.all m6=true->Q (.bl (if neg then !oF x xs else oF x xs)) H->vb K neg x y H Q
def Jv:dH X (fg .In) (vb X.K false):=by
 intro pins s σ H x y v u Q I j z h;obtain⟨p,xs,rfl,d,n,fs,q⟩:=h;subst z;rcases d with d|d;·obtain⟨its,r,g,B⟩:=I.list d;refine SeqAt.in_listAt (iW x) g.isList (λw F=>va j n r fs w (by grind)) ⟨.bl _,H,I,rfl,?_⟩;rw[show its.toArray.any (iW x)=its.any (iW x) by grind,u9 r fs];exact q
 ·obtain⟨its,r,g,B⟩:=I.tuple d;refine SeqAt.in_tupleAt (iW x) g (λw F=>va j n r fs w (by grind)) ⟨.bl _,H,I,rfl,?_⟩;rw[show its.toArray.any (iW x)=its.any (iW x) by grind,u9 r fs];exact q
def Ug:dH X (fg .NotIn) (vb X.K true):=by
 intro pins s σ H x y v u Q I j z h;obtain⟨p,xs,rfl,d,n,fs,q⟩:=h;subst z;rcases d with d|d;·obtain⟨its,r,g,B⟩:=I.list d;refine SeqAt.notIn_listAt (iW x) g.isList (λw F=>va j n r fs w (by grind)) ⟨.bl _,H,I,rfl,?_⟩;rw[show its.toArray.any (iW x)=its.any (iW x) by grind,u9 r fs];exact q
 ·obtain⟨its,r,g,B⟩:=I.tuple d;refine SeqAt.notIn_tupleAt (iW x) g (λw F=>va j n r fs w (by grind)) ⟨.bl _,H,I,rfl,?_⟩;rw[show its.toArray.any (iW x)=its.any (iW x) by grind,u9 r fs];exact q
def CS:l9 X (.builtin "len") (λxs H Q=>∃p ys,xs=[.ref p]/\(dG X.K H p ys\/cS X.K H p ys)/\Q (.int ys.length) H):=by
 intro pins s σ H xs us Q I r h;obtain⟨p,ys,rfl,d,q⟩:=h;obtain⟨u,rfl,n⟩:=vals1 r;subst n;haveI B:=sG;rcases d with d|d;·obtain⟨its,g,j,z⟩:=I.list d;have hlen:=g.length;exact Calls.call_len_list j.isList (by grind) ⟨.int ys.length,H,I.tok _,⟨s.toks+1,by grind⟩,q⟩
 ·obtain⟨its,g,j,z⟩:=I.tuple d;have hlen:=g.length;exact len_tuple j (by grind) ⟨.int ys.length,H,I.tok _,⟨s.toks+1,by grind⟩,q⟩
def Uh:l9 X (.type "list") (λxs H Q=>∃p ys,xs=[.ref p]/\(dG X.K H p ys\/cS X.K H p ys)/\∀l,H l=none->Q (.ref l) (upd H l (.lst ys))):=by
 intro pins s σ H xs us Q I r h;obtain⟨p,ys,rfl,g,q⟩:=h;obtain⟨u,rfl,L⟩:=vals1 r;subst L;haveI fin:∀(its:List aj),Vals ys its->ys.length<=bj->∀(h':aZ) (c':Nat),(∀b o',s.heap.get? b=some o'->h'.get? b=some o')->h'.get? _=some _->EP X pins σ Q _ _:=λits d j h' c' z e=>⟨.ref _,_,I.laid (t':=s.toks) z (bR _) (show da X.prog X.w _ h' _ (.lst ys) from⟨j,its,c',d,e⟩),rfl,q _ (I.a9.fresh (bR _))⟩;rcases g with g|g;·obtain⟨its,d,B,j⟩:=I.list g;have hlen:=d.length;obtain⟨o,F,G,n,J⟩:=B.isList;exact call_list_seq p (.inl rfl) F G J (λh' c' z e=>fin its d j h' c' z e) (by simp_all)
 ·obtain⟨its,d,B,j⟩:=I.tuple g;have hlen:=d.length;obtain⟨o,F,G,n,J⟩:=B;exact call_list_seq p (.inr rfl) F G J (λh' c' z e=>fin its d j h' c' z e) (by simp_all)
def Ui:l9 X (.type "tuple") (λxs H Q=>∃p ys,xs=[.ref p]/\((dG X.K H p ys/\∀l,H l=none->Q (.ref l) (upd H l (.tup ys)))\/(cS X.K H p ys/\Q (.ref p) H))):=by
 intro pins s σ H xs us Q I r h;obtain⟨p,ys,rfl,h⟩:=h;obtain⟨u,rfl,B⟩:=vals1 r;subst B;rcases h with⟨d,q⟩|⟨d,q⟩;·obtain⟨its,g,j,n⟩:=I.list d;haveI hlen:=g.length;refine call_tuple_list j.isList (λh' F=>?_) (by simp_all);haveI z:=I.kept (t':=s.toks) F;haveI G:=z.laid (t':=s.toks) (λb o e=>bL _ e) (bR _) (show da X.prog X.w _ _ _ (.tup ys) from⟨n,its,g,IsTup.new _ _⟩);exact⟨.ref _,_,G,rfl,q _ (z.a9.fresh (bR _))⟩
 ·obtain⟨its,g,j,n⟩:=I.tuple d;exact call_tuple_same j ⟨.ref p,H,I,rfl,q⟩
abbrev Jw(K:br)(T:String)(x:V)(H:Hp):Prop:=match x with|.str _=>T="str"|.int _=>T="int"|.ref p=>(T="list"/\∃xs,dG K H p xs)\/(T="tuple"/\∃o,K.lookup p=some o/\o.cls=.type "tuple"/\o.dict=none)\/(T="dict"/\((∃kvs,H p=some (.dK kvs))\/∃kvs,H p=some (.dT kvs)))\/(T="set"/\∃S n,H p=some (.set S n))|_=>False
def Uj(I:Inv X pins σ H s)(r:RelV x v)(ty:Jw X.K T x H):s.TypeIs v T/\∀a,v=.ref a->∃j,s.heap.get? a=some j/\j.dict=none:=by
 cases x with
 |str z=>obtain⟨t,rfl⟩:=r;cases(show T="str" from ty);exact⟨typeIs_str s z t,λ_ e=>nomatch e⟩|int i=>obtain⟨t,rfl⟩:=r;cases(show T="int" from ty);exact⟨typeIs_int s i t,λ_ e=>nomatch e⟩
 |ref p=>
  subst r;rcases ty with⟨rfl,xs,F⟩|⟨rfl,o,d,G,q⟩|⟨rfl,d⟩|⟨rfl,S,n,d⟩;·obtain⟨its,_,B,_⟩:=I.list F;refine⟨B.isList.typeIs,λa e=>?_⟩;obtain⟨o,n,e,c,q,_⟩:=B;simp_all
  ·refine⟨⟨o,I.gm p o d,G⟩,λa e=>?_⟩;cases e;exact⟨o,I.gm _ o d,q⟩
  ·have z:∃o,s.heap.get? p=some o/\o.ExactDict:=by
    rcases d with⟨kvs,d⟩|⟨kvs,d⟩;·obtain⟨_,_,_,_,o,_,_,e,ex,_⟩:=I.a9 p _ d;simp_all
    ·obtain⟨_,_,_,_,o,_,_,e,ex,_⟩:=I.a9 p _ d;simp_all
   obtain⟨o,e,ex⟩:=z;refine⟨⟨o,e,ex.1⟩,λa g=>?_⟩;cases g;exact⟨o,e,ex.2.1⟩
  ·obtain⟨o,_,_,_,e,ex,_⟩:=I.a9 p _ d;refine⟨⟨o,e,ex.1⟩,λa g=>?_⟩;cases g;exact⟨o,e,ex.2.1⟩|_=>exact mO ty
abbrev sJ(K:br)(T:String)(r:V->List V->Hp->VK->Prop)(to:TE)(t:TA):TE:=λσ H Q=>to σ H λx H1=>Jw K T x H1/\t σ H1 λxs H2=>r x xs H2 Q
variable{o e:bp}{es:List bp}{to:TE}{t:TA}{name:ag}{apos oG:cj}{T id:String}{r:V->List V->Hp->VK->Prop}
def yL(G:PlainAttrs T)(slot:Slot T name id)(q:typeOf (.builtin id)=pure (.type "method_descriptor"))(J:T8 X id r)(L:PE X o to)(M:PA X (e::es) t)(d: ~~~(jl o name X.env (aP o X.env)=aP o X.env)) (j: ~~~(((bF oG (aB (e::es) X.env)).all (λx=>!x.1)&&(ii oG (ij [] X.env)).all (λx=>x.1.isSome)&&decide ((e::es).length+([]:List n0).length+(if([]:List n0).isEmpty then 0 else 1)<30))=true)) (g: ~~~((apos.endLine==oG.line)=true)) (N: ~~~(aB (e::es) X.env=(false,aP e X.env)::aB es X.env)) (n: ~~~((bF oG (aB es X.env)).any (·.1)=false)):PE X (.Call (.Attribute o name apos) (e::es) [] oG) (sJ X.K T r to t):=by
 intro pins s σ H Q I h;refine wpAny_Call_method_late d j g rfl (ba (L pins s σ H _ I h) λv O z1=>?_);obtain⟨x,H1,z,B,ty,S⟩:=z1;obtain⟨h1,h2⟩:=Uj z B ty;refine⟨T,id,G,slot,q,h1,h2,?_⟩;haveI F:=M oG pins O σ H1 _ z S;rw[N]at F⊢
 refine Calls.callWith_builtin (by grind) (Calls.evalArgs_plain ?_);exact ba F λus U ⟨vs,H2,W,Y,Z⟩=>J pins U σ H2 x vs v us Q W B Y Z
end
end L2
namespace L2
open PySem PySem.Spec PyProof.Rows
abbrev Jx(X:Cx)(id:String)(r:V->List V->Hp->VK->Prop):Prop:=∀(pins:List (af×bu)) (s:ar) (σ:St) (H:Hp) (x:V) (xs:List V) (v:aj) (us:List aj) (Q:VK),Inv X pins σ H s->RelV x v->Vals xs us->r x xs H Q->aH (aF X.prog X.w) X.A (call (.builtin id) (v::us)) (EP X pins σ Q) X.xe s
def Vals.inv{x:V}{xs:List V}{us:List aj}(h:Vals (x::xs) us):∃u t,us=u::t/\RelV x u/\Vals xs t:=by cases h with|cons r t=>exact⟨_,_,rfl,r,t⟩
def Vals.one:∀{x:V}{us:List aj},Vals [x] us->∃u,us=[u]/\RelV x u:=λh=>by obtain⟨u,t,rfl,r,q⟩:=Vals.inv h;cases q;exact⟨u,rfl,r⟩
def Vals.two:∀{x y:V}{us:List aj},Vals [x,y] us->∃u v,us=[u,v]/\RelV x u/\RelV y v:=λh=>by obtain⟨u,t,rfl,r,q⟩:=Vals.inv h;obtain⟨v,rfl,k⟩:=Vals.one q;exact⟨u,v,rfl,r,k⟩
def Vals.zero:∀{us:List aj},Vals [] us->us=[]|_,.nil=>rfl
def Vals.reverse(h:Vals xs us):Vals xs.reverse us.reverse:=by induction h with|nil=>exact .nil|cons r t d=>rw[xx,xx];exact Vals.append d (.cons r .nil)
section
variable{X:Cx}{pins:List (af×bu)}{σ:St}{H:Hp}{s:ar}{l b:af}{xs ys zs:List V}
def Inv.Jy{its d:List aj}(I:Inv X pins σ H s)(g:H l=some (.lst xs))(e:s.heap.get? l=some {cls:=.type "list",data:=.seq its.toArray n}) (hf:f its.toArray=d.toArray) (j:Vals ys d) (z:ys.length<=bj):Inv X pins σ (upd H l (.lst ys)) {s with heap:=s.heap.update l (jo f),toks:=t'}:=by haveI q:=PySem.IsL.update e f;rw[hf]at q;refine I.write (by rw[g];exact trivial) (.inl rfl) (λb' u B F=>(Q4 s.heap _ (bK B)).trans F) ⟨_,q⟩ ?_;exact⟨z,d,_,j,q⟩
def Inv.Uk(I:Inv X pins σ H s)(d:Vals ys its)(g:ys.length<=bj):Inv X pins σ (upd H s.heap.objs.size (.lst ys)) {s with heap:=s.heap.push {cls:=.type "list",data:=.seq its.toArray},toks:=t'}:=I.laid (λ_ _ q=>bL _ q) (bR _) ⟨g,its,0,d,dL _ rfl⟩
def Inv.fresh(I:Inv X pins σ H s):H s.heap.objs.size=none:=I.a9.fresh (bR _)
def Inv.Jz(I:Inv X pins σ H s)(d:H l=some (.lst xs)):xs.length<=bj/\∃(its:List aj)(n:Nat),Vals xs its/\xs.length=its.length/\s.heap.get? l=some {cls:=.type "list",data:=.seq its.toArray n}:=by obtain⟨z,its,n,r,e⟩:=I.a9 l _ d;exact⟨z,its,n,r,r.length,e⟩
def Ul(h:n<=bj):Q5 n=false:=by delta Q5;simp_all
end
section
variable{X:Cx}
inductive vc(x:V)(vs:List V)(H:Hp)(Q:VK):Prop|mk:∀l xs y,x=.ref l->vs=[y]->H l=some (.lst xs)->xs.length<bj->Q .ah (upd H l (.lst (xs++[y])))->vc x vs H Q
def JA:Jx X "list.append" vc:=by intro pins s σ H x vs v us Q I g j h;obtain⟨l,xs,y,rfl,rfl,d,G,q⟩:=h;subst g;obtain⟨u,rfl,B⟩:=j.one;obtain⟨z,its,n,r,J,e⟩:=I.Jz d;refine call_meets Q6 ⟨_,e,rfl⟩ F.entry_list_append (F.args_list_append_2 _ _) (PySem.list_append l _ n u (by simp_all)) ⟨e,?_⟩;refine⟨.ah,_,I.Jy d e (by simp) (r.append (.cons B .nil)) ?_,rfl,q⟩;grind
end
end L2
namespace L2
open PySem PySem.Spec PyProof.Rows
def Vals.ints:∀{ns:List Int}{us:List aj},Vals (ns.map V.int) us->kj us ns|[],us,h=>by cases h;exact IntsAre.nil|n::ns,us,h=>by cases h with|cons r t=>obtain⟨k,rfl⟩:=r;exact IntsAre.cons n k (Vals.ints t)
def JB:∀{us:List aj}{ns:List Int},kj us ns->Vals (ns.map V.int) us|_,_,.nil=>Paired.nil|_,_,.cons n t h=>Paired.cons (show RelV _ _ from⟨t,rfl⟩) (JB h)
def Vals.strs:∀{xs:List ag}{us:List aj},Vals (xs.map V.str) us->StrsAre us xs|[],us,h=>by cases h;exact StrsAre.nil|x::xs,us,h=>by cases h with|cons r t=>obtain⟨k,rfl⟩:=r;exact StrsAre.cons x k (Vals.strs t)
def Vals.qb:∀{bs:List Bool}{us:List aj},Vals (bs.map V.bl) us->us=bs.map pC|[],us,h=>by cases h;rfl|b::bs,us,h=>by cases h with|cons r t=>subst r;rw[Vals.qb t,gv]
def Vals.CT(r:Vals [V.ref a] us):us=[d9 a]:=by cases r with|cons r t=>cases t;subst r;rfl
section
variable{prog:bA}{w:bB}{A:cG}{E:aj->ar->Prop}{s:ar}{l:af}{its:List aj}{ns:List Int}{Q:aj->ar->Prop}
def Um(j:A.handled=none)(d:s.heap.IsList l its.toArray)(hi:kj its ns)(h:∀h' tk t',(∀b o,s.heap.get? b=some o->h'.get? b=some o)->Q (.int ns.sum t') {s with heap:=h',toks:=tk}):aH (aF prog w) A (call (.builtin "sum") [.ref l]) Q E s:=by
 obtain⟨xs,e⟩:=hi.allInts.items;have g:numsOf (intItems xs).toList=ns:=by rw[<-e];exact hi.numsOf
 rw[nums_intItems]at g;rw[e]at d;refine PySem.sum_intListG j d λh' tk t' n=>?_;haveI:=h h' tk t' n;rw[preSum_eq,mJ (by simp),g];exact this
end
section
variable{X:Cx}
inductive JC(K:br)(vs:List V)(H:Hp)(Q:VK):Prop|mk:∀(a:af)(ns:List Int),vs=[V.ref a]->dG K H a (ns.map V.int)->Q (.int ns.sum) H->JC K vs H Q
def Uo(d:X.calm=true):l9 X (.builtin "sum") (JC X.K):=by intro pins s σ H vs us Q I r h;obtain⟨a,ns,rfl,g,q⟩:=h;obtain⟨its,j,n,_⟩:=I.list g;rw[Vals.CT r];exact Um (I.ok.hd d) n.isList j.ints λh' B t' z=>⟨.int _,H,I.kept z,⟨_,rfl⟩,q⟩
end
def JD(j:s.heap.IsList l g)(h:∀d:ar,d={s with heap:=s.heap.push {cls:=.type "list_iterator",data:=.fields #[.ref l,.int 0 0]}}->(d.heap.IsListIter s.heap.objs.size l 0/\d.heap.IsList l g)->l≠s.heap.objs.size->Q (.ref s.heap.objs.size) d):aH (aF prog w) A (pyIter (.ref l)) Q E s:=by
 haveI n:l<s.heap.objs.size:=by obtain⟨_,e,_⟩:=j;exact cu e
 exact QU j (h _ rfl ⟨⟨_,dL _ rfl,rfl,rfl⟩,j.push _⟩ (ea n))
def JE{bs:List Bool}(e:its=bs.map pC):TruthOf prog w A (λi v=>its.toArray[i]?=some v) (λi=>bs.getD i false):=λi v s Q E j n=>by
 have d:its[i]?=some v:=by simpa using j
 rw[e,jp]at d;obtain⟨b,q,rfl⟩:=Gz.mp d;have z:bs.getD i false=b:=by rw[jf,q]<;>rfl
 have g:Q (bs.getD i false) s:=n;rw[z]at g;exact mM g
def any_range:∀bs:List Bool,(bU bs.length).any (λi=>bs.getD i false)=bs.any id|[]=>rfl|b::bs=>by simp only[jj,GA,nR,GB,nR,<-any_range bs];all_goals rfl
def all_range:∀bs:List Bool,(bU bs.length).all (λi=>bs.getD i false)=bs.all id|[]=>rfl|b::bs=>by simp only[jj,GA,nZ,Q7,nZ,<-all_range bs];all_goals rfl
section
variable{X:Cx}
inductive yM(K:br)(vs:List V)(H:Hp)(Q:VK):Prop|mk:∀(a:af)(bs:List Bool),vs=[V.ref a]->dG K H a (bs.map V.bl)->Q (.bl (bs.any id)) H->yM K vs H Q
inductive yN(K:br)(vs:List V)(H:Hp)(Q:VK):Prop|mk:∀(a:af)(bs:List Bool),vs=[V.ref a]->dG K H a (bs.map V.bl)->Q (.bl (bs.all id)) H->yN K vs H Q
def Up(B:X.calm=true):l9 X (.builtin "any") (yM X.K):=by
 intro pins s σ H vs us Q I r h;obtain⟨a,bs,rfl,F,q⟩:=h;obtain⟨its,G,J,_⟩:=I.list F;rw[Vals.CT r];have j:=G.qb;refine call_any_walk (JD J.isList λn L st g=>?_);subst L;refine⟨_,_,_,_,_,_,_,rfl,Walks.list (A:=X.A.in1) (I.ok.hd B) _ a g _,st,JE j,λh' O M=>?_⟩;refine⟨.bl _,H,I.kept λb o z=>M b o (λd=>?_) (bL _ z),?_,q⟩
 ·rcases ff.mp d with N|d;·exact bw (N▸cu z) (mL _)
  simp_all
 ·show pC _=pC _;rw[<-any_range,j,lW,bZ]
def Uq(B:X.calm=true):l9 X (.builtin "all") (yN X.K):=by
 intro pins s σ H vs us Q I r h;obtain⟨a,bs,rfl,F,q⟩:=h;obtain⟨its,G,J,_⟩:=I.list F;rw[Vals.CT r];have j:=G.qb;refine call_all_walk (JD J.isList λn L st g=>?_);subst L;refine⟨_,_,_,_,_,_,_,rfl,Walks.list (A:=X.A.in1) (I.ok.hd B) _ a g _,st,JE j,λh' O M=>?_⟩;refine⟨.bl _,H,I.kept λb o z=>M b o (λd=>?_) (bL _ z),?_,q⟩
 ·rcases ff.mp d with N|d;·exact bw (N▸cu z) (mL _)
  simp_all
 ·show pC _=pC _;rw[<-all_range,j,lW,bZ]
end
mutual
inductive Dp(K:br)(H:Hp):V->rP->Prop|ah:Dp K H .ah .none|bl(b:Bool):Dp K H (.bl b) (.bool b)|int(i:Int):Dp K H (.int i) (.int i)|str(x:ag):Dp K H (.str x) (.str x)|lst{a:af}{xs:List V}{ds:List rP}:dG K H a xs->qc K H xs ds->Dp K H (.ref a) (.list ds)|tup{a:af}{xs:List V}{ds:List rP}:cS K H a xs->qc K H xs ds->Dp K H (.ref a) (.tuple ds)inductive qc(K:br)(H:Hp):List V->List rP->Prop|nil:qc K H [] []|cons{v:V}{vs:List V}{d:rP}{ds:List rP}:Dp K H v d->qc K H vs ds->qc K H (v::vs) (d::ds)end
section
variable{X:Cx}{pins:List (af×bu)}{σ:St}{H:Hp}{s:ar}
mutual
theorem Dp.reads(I:Inv X pins σ H s):∀(d:rP)(v:V)(u:aj),Dp X.K H v d->RelV v u->∃g,Reads s.heap u d g
 |.none,_,_,h,r=>by cases h;cases r;exact⟨_,Reads.none⟩|.bool b,_,_,h,r=>by cases h;cases r;exact⟨_,Reads.bool b⟩|.int i,_,_,h,r=>by cases h;obtain⟨t,rfl⟩:=r;exact⟨_,Reads.int i t⟩|.str x,_,_,h,r=>by cases h;obtain⟨t,rfl⟩:=r;exact⟨_,Reads.str x t⟩|.list ds,_,_,h,r=>by cases h with|lst j q=>cases r;obtain⟨its,z,⟨o,n,B,F,_,G⟩,_⟩:=I.list j;obtain⟨g,J⟩:=Dp.readsAll I ds _ its q z;exact⟨_,Reads.list B F G J⟩
 |.tuple ds,_,_,h,r=>by cases h with|tup j q=>cases r;obtain⟨its,z,⟨o,B,F,n,G⟩,_⟩:=I.tuple j;obtain⟨g,J⟩:=Dp.readsAll I ds _ its q z;exact⟨_,Reads.tuple B F G J⟩
 |.dict _,_,_,h,_=>by cases h
theorem Dp.readsAll (I:Inv X pins σ H s):∀(ds:List rP) (vs:List V) (us:List aj),qc X.K H vs ds->Vals vs us->∃g,ReadsAll s.heap us ds g|[],_,_,h,r=>by cases h;cases r;exact⟨_,ReadsAll.nil⟩|d::ds,_,_,h,r=>by cases h with|cons h1 h2=>cases r with|cons L M=>obtain⟨g,N⟩:=Dp.reads I d _ _ h1 L;obtain⟨bs,O⟩:=Dp.readsAll I ds _ _ h2 M;exact⟨_,ReadsAll.cons N O⟩end
end
section
variable{X:Cx}
inductive JF(K:br)(x:V)(y:V)(H:Hp)(Q:VK):Prop|mk:∀d e,Dp K H x d->Dp K H y e->GC d=true->GC e=true->Q (.bl (PyData.eqv d e)) H->JF K x y H Q
def Ur(g:X.A.units+64<dU):dH X (fg .Eq) (JF X.K):=by intro pins s σ H x y v u Q I j n h;obtain⟨d,e,z,he,B,F,q⟩:=h;obtain⟨L,G⟩:=Dp.reads I d x v z j;obtain⟨bs,J⟩:=Dp.reads I e y u he n;exact SeqAt.compareEq_shaped G J B F g ⟨.bl _,H,I,rfl,q⟩
end
end L2
namespace L2
open PySem PySem.Spec PyProof.Rows
@[reducible]def JG(h:aZ)(c:af)(v:Option aj):Prop:=h.IsCell c v
abbrev Us(scope sc:fe):fe:={scope with names:=scope.names.map λ(n,k)=>if(k==.free&&sc.kind==.function&&sc.names.lookup n==some .cell)then(n,.cell)else(n,k)}
abbrev gp(cells:List (ag×af)):List (ag×jm)->List (ag×af)->List (ag×af)|[],acc=>acc|(n,k)::r,acc=>if k==.free then gp cells r ((n,(cells.lookup n).getD 0)::acc)else gp cells r acc
def JH(env:Env)(f:ag×jm->List (ag×af)->d4 (ForInStep (List (ag×af))))(hf:∀n k c,f (n,k) c=if k==.free then(do let a<-cellOf env n;pure (.yield ((n,a)::c)))else pure (.yield c)):∀(names:List (ag×jm))(acc:List (ag×af)),(∀y∈names,y.2=.free->∃c,env.cells.lookup y.1=some c)->forIn names acc f=pure (gp env.cells names acc)
 |[],acc,_=>by rfl
 |(n,k)::r,acc,h=>by
  have q:=λacc=>JH env f hf r acc λy d=>h y (jk _ d);unfold gp;by_cases g:(k==xR)=true
  ·obtain⟨c,j⟩:=h (n,k) pG (by simpa using g);have e:cellOf env n=pure c:=by delta cellOf;rw[j]
   grind
  grind
def Ut(h:∀y∈scope.names,y.2=.free->∃c,env.cells.lookup y.1=some c):closureFor scope env=pure (gp env.cells scope.names []):=by rw[closureFor];rw[JH env _ (λn k c=>rfl) _ [] h];rfl
def mem_lookup{d:Type}:∀{l:List (ag×d)}{n:ag}{c:d},(n,c)∈l->∃c',l.lookup n=some c'
 |(k,v)::r,n,c,h=>by
  rw[mQ];cases g:n==k with
  |true=>grind
  |false=>
   rcases ff.mp h with e|h;·lia
   ·exact mem_lookup h
def yO:∀{names:List (ag×jm)}{acc:List (ag×af)}{n:ag}{c:af},(n,c)∈gp cells names acc->(n,c)∈acc\/((n,.free)∈names/\c=(cells.lookup n).getD 0)
 |[],_,_,_,h=>.inl h
 |(m,k)::r,acc,n,c,h=>by
  unfold gp at h;split at h
  ·rcases yO h with h|⟨h1,h2⟩;·grind
   grind
  ·rcases yO h with h|⟨h1,h2⟩;·grind
   grind
def CU:∀{names:List (ag×jm)}{acc:List (ag×af)}{p:ag×af},p∈acc->p∈gp cells names acc
 |[],_,_,h=>h
 |(m,k)::r,acc,p,h=>by
  unfold gp;split;·exact CU (jk _ h)
  ·exact CU h
def CV{cells:List (ag×af)}:∀{names:List (ag×jm)}{acc:List (ag×af)}{n:ag},(n,.free)∈names->(n,(cells.lookup n).getD 0)∈gp cells names acc
 |(m,k)::r,acc,n,h=>by
  unfold gp;rcases ff.mp h with e|h;·cases e;exact CU pG
  ·split;·exact CV h
   ·exact CV h
def vd:∀{names:List (ag×jm)}{h:aZ}{acc:List (ag×af)}{x:ag}{c:af},(x,c)∈gJ h.objs.size names acc->(x,c)∈acc\/((x,.cell)∈names/\h.objs.size<=c/\JG (rQ h names) c none)
 |[],_,_,_,_,h=>.inl h
 |(n,k)::r,h,acc,x,c,d=>by
  unfold gJ at d;unfold rQ;split at d
  ·rename_i g;rw[ax g];haveI g:k=.cell:=by simpa using g
   rw[<-gX h {cls:=.type "cell",data:=.cell none}]at d;rcases vd d with d|⟨h1,h2,j⟩
   ·rcases ff.mp d with e|d;·cases e;exact .inr ⟨g▸pG,bR _,_,GD r _ _ _ (dL _ rfl),rfl⟩
    ·exact .inl d
   ·rw[gX]at h2;exact .inr ⟨jk _ h1,Q8 h2,j⟩
  ·rename_i g;rw[ay g];rcases vd d with d|⟨h1,h2,j⟩;·exact .inl d
   ·exact .inr ⟨jk _ h1,h2,j⟩
def yP:∀{names:List (ag×jm)}{n:Nat}{acc:List (ag×af)}{p:ag×af},p∈acc->p∈gJ n names acc
 |[],_,_,_,h=>h
 |(m,k)::r,n,acc,p,h=>by
  unfold gJ;split;·exact yP (jk _ h)
  ·exact yP h
def CW:∀{names:List (ag×jm)}{n:Nat}{acc:List (ag×af)}{x:ag},(x,.cell)∈names->∃c,(x,c)∈gJ n names acc
 |(m,k)::r,n,acc,x,h=>by
  unfold gJ;rcases ff.mp h with e|h;·cases e;exact⟨n,yP pG⟩
  ·split;·exact CW h
   ·exact CW h
def CY:∀{names:List (ag×jm)}{h:aZ}{acc:List (ag×af)}{x y:ag}{c:af},(∀p∈acc,p.2<h.objs.size)->(∀x y c,(x,c)∈acc->(y,c)∈acc->x=y)->(x,c)∈gJ h.objs.size names acc->(y,c)∈gJ h.objs.size names acc->x=y
 |[],_,_,_,_,_,_,hi,h1,h2=>hi _ _ _ h1 h2
 |(n,k)::r,h,acc,x,y,c,g,hi,h1,h2=>by
  unfold gJ at h1 h2;split at h1
  ·rename_i d;rw[ax d]at h2;rw[<-gX h {cls:=.type "cell",data:=.cell none}]at h1 h2;refine CY (λp j=>?_) (λx y c a b=>?_) h1 h2;·rw[gX];grind
   grind
  ·rename_i d;rw[ay d]at h2;exact CY g hi h1 h2
def Uu{code:aj}(h:Q (newEnv scope s.heap.objs.size j (gJ (s.heap.objs.size+1) scope.names d) qual z code (some q) g) {s with heap:=rQ (s.heap.push {cls:=.type "dict",data:=.dict #[]}) scope.names}):aH M A (newFunctionEnv scope j d [] qual z code (some q) g) Q E s:=by refine aJ (wpAny_alloc ?_);refine aJ (wpAny_layCells _ (λn k c=>rfl) _ d _ _ ?_);rw[show({s with heap:=s.heap.push _}:ar).heap.objs.size=s.heap.objs.size+1 from gX ..];exact aJ (ce (ce h))
def CZ{sc:fe}:∀{names:List (ag×jm)}{x:ag}{k:jm},(names.map λ(n,k)=>if(k==xR&&sc.kind==.function&&sc.names.lookup n==some .cell)then(n,Q9)else(n,k)).lookup x=some k->∃k',names.lookup x=some k'/\(k=k'\/(k'=.free/\k=.cell))
 |[],_,_,h=>by simp at h
 |(n,d)::r,x,k,h=>by
  haveI q:=@CZ sc r x k;haveI h':uy x ((if(d==xR&&sc.kind==.function&&sc.names.lookup n==some .cell)=true then(n,Q9)else(n,d))::(r.map _))=some k:=h;cases j:x==n with
  |true=>
   simp only[mQ,j];by_cases g:(d==xR&&sc.kind==.function&&sc.names.lookup n==some .cell)=true;·rw[ax g]at h';simp only[mQ,j]at h';cases h';simp only[d0,eE]at g;exact⟨d,rfl,.inr ⟨g.1.1,rfl⟩⟩
   ·rw[ay g]at h';simp only[mQ,j]at h';cases h';exact⟨_,rfl,.inl rfl⟩
  |false=>
   rw[mQ,j];by_cases g:(d==xR&&sc.kind==.function&&sc.names.lookup n==some .cell)=true;·rw[ax g]at h';rw[mQ,j]at h';exact q h'
   ·rw[ay g]at h';rw[mQ,j]at h';exact q h'
structure ve(N:List ag)(sc scope:fe)(own:List (ag×Nat)):Prop where
 kind:scope.kind=.function
 uniq:∀y∈scope.names,scope.names.lookup y.1=some y.2
 ix:∀p∈own,N[p.2]?=some p.1
 free:∀y∈scope.names,y.2=.free->sc.names.lookup y.1=some .cell\/sc.names.lookup y.1=some .free
 own:∀y∈scope.names,y.2=.local\/y.2=.cell->y.1∈own.map (·.1)\/y.1∉N
abbrev wipe(σ:St):List Nat->St|[]=>σ|v::vs=>(wipe σ vs).set v none
def C0(σ:St):∀vs:List Nat,(wipe σ vs).length=σ.length|[]=>rfl|v::vs=>by unfold wipe;rw[List.length_set,C0 σ vs]
def C1:∀{vs:List Nat},(wipe σ vs)[i]?=some (some x)->σ[i]?=some (some x)/\i∉vs
 |[],h=>⟨h,by simp⟩
 |v::vs,h=>by
  unfold wipe at h;by_cases hi:v=i;·grind
  ·rw[fu hi]at h;obtain⟨h1,h2⟩:=C1 h;grind
@[reducible]def Cx.db(X:Cx)(s:ar)(H:Hp)(scope:fe)(Uv:Env)(fp:List af):Cx:={X with er:=s,om:=H,env:=Uv,outer:=X.stack,ex:=fp,fn:=λx=>scope.names.lookup x==some .cell,pn:=[],xe:=λ_ _=>False}
section
variable{X:Cx}{pins:List (af×bu)}{σ:St}{H:Hp}{s:ar}
def Uw{scope:fe}{own:List (ag×Nat)}{fp:List af}(I:Inv X pins σ H s)(M:ve X.N X.env.scope scope own)(hN:X.N.Nodup)(J:∀b∈fp,kC X pins H b/\b<s.heap.objs.size):Inv (X.db s H scope (ec scope (gJ (s.heap.objs.size+1) scope.names (gp X.env.cells scope.names [])) s.heap.objs.size X.env) fp) [] (wipe σ (own.map (·.2))) H {s with heap:=rQ (s.heap.push {cls:=.type "dict",data:=.dict #[]}) scope.names}:=by
 haveI W:∀y∈scope.names,y.2=.free->∃c,X.env.cells.lookup y.1=some c:=λy hy e=>by
  rcases M.free y hy e with k|k;·exact I.ok.has _ (.inl k)
  ·exact I.ok.has _ (.inr k)
 generalize g:ec scope (gJ (s.heap.objs.size+1) scope.names (gp X.env.cells scope.names [])) s.heap.objs.size X.env=d;have kp:∀b o,s.heap.get? b=some o->(rQ (s.heap.push {cls:=.type "dict",data:=.dict #[]}) scope.names).get? b=some o:=λb o e=>GD _ _ _ _ (bL _ e);have hL:d.locals=s.heap.objs.size:=by rw[<-g];rfl
 have j:d.cells=gJ (s.heap.objs.size+1) scope.names (gp X.env.cells scope.names []):=by rw[<-g];rfl
 have Y:d.scope=Us scope X.env.scope:=by rw[<-g];rfl
 rw[<-gX s.heap {cls:=.type "dict",data:=.dict #[]}]at j;have cm:∀{y c},(y,c)∈gp X.env.cells scope.names []->X.env.cells.lookup y=some c/\c<s.heap.objs.size:=λ{y c} B=>by
  rcases yO B with B|⟨h1,rfl⟩;·cases B
  ·obtain⟨c,hc⟩:=W _ h1 rfl;rw[hc];obtain⟨w,z⟩:=I.cell _ _ hc;exact⟨rfl,z.lt⟩
 have mem:∀{y c},d.cells.lookup y=some c->(X.env.cells.lookup y=some c/\c<s.heap.objs.size)\/(s.heap.objs.size+1<=c/\JG (rQ (s.heap.push {cls:=.type "dict",data:=.dict #[]}) scope.names) c none):=λ{y c} e=>by
  rw[j]at e;rcases vd (jR e)with B|⟨_,h2,h3⟩;·exact .inl (cm B)
  ·rw[gX]at h2;exact .inr ⟨h2,h3⟩
 have O:∀{y},scope.names.lookup y=some .free->∃c,d.cells.lookup y=some c/\X.env.cells.lookup y=some c:=λ{y} hl=>by
  haveI hy:(y,xR)∈scope.names:=jR hl;obtain⟨c',F⟩:=mem_lookup (yP (names:=scope.names) (n:=(s.heap.push {cls:=.type "dict",data:=.dict #[]}).objs.size) (CV (cells:=X.env.cells) (acc:=[]) hy));rw[<-j]at F;refine⟨c',F,?_⟩;rw[j]at F;rcases vd (jR F)with B|⟨h1,_,_⟩;·exact(cm B).1
  ·have:=M.uniq _ h1;rw[hl]at this;cases this
 haveI Ux:(X.db s H scope d fp).Ok:=by
  refine⟨I.ok.mod,by show d.scope.kind=_;rw[Y];exact M.kind,by show d.globals=_;rw[<-g];exact I.ok.glob,by show d.builtins=_;rw[<-g];exact I.ok.blt,by show s.heap.objs.size<=d.locals;rw[hL];lia,λy z c S U=>?_,λy hy=>?_,λy c z e=>?_,I.ok.hd,I.ok.frames,.inl rfl,λb hb=>⟨?_,λy c e z=>?_⟩,I.bs,gI I.ok.jw I.sz,λb o e hb=>?_,λb hb z=>?_,I.stack,I.yk⟩;·have S:d.cells.lookup y=some c:=S;have U:d.cells.lookup z=some c:=U;rw[j]at S U;refine CY (λp hp=>?_) (λy z c a b=>I.ok.inj y z c (cm a).1 (cm b).1) (jR S) (jR U);rw[gX];exact Ra (cm (y:=p.1) (c:=p.2) hp).2
  ·show∃c,d.cells.lookup y=some c;have key:∀k,d.kindOf y=some k->(k=.cell\/k=.free)->∃c,d.cells.lookup y=some c:=λk Z C3=>by
    delta Env.kindOf at Z;rw[Y]at Z;obtain⟨k',e,r⟩:=CZ Z;have:k'=.cell\/k'=.free:=by
     rcases r with rfl|⟨rfl,_⟩;·exact C3
     ·simp
    rcases this with rfl|rfl;·obtain⟨c,B⟩:=CW (n:=(s.heap.push {cls:=.type "dict",data:=.dict #[]}).objs.size) (acc:=gp X.env.cells scope.names []) (jR e);obtain⟨c',F⟩:=mem_lookup B;exact⟨c',by rw[j];exact F⟩
    ·obtain⟨c,h1,_⟩:=O e;exact⟨c,h1⟩
   grind
  ·have z:(scope.names.lookup y==some Q9)=true:=z;have z:scope.names.lookup y=some .cell:=by simpa using z
   have e:d.cells.lookup y=some c:=e;rw[j]at e;rcases vd (jR e)with B|⟨_,h2,_⟩
   ·rcases yO B with B|⟨h1,_⟩;·nomatch B
    ·have q:=M.uniq _ h1;rw[z]at q;nomatch q
   ·rw[gX]at h2;exact Q8 h2
  ·grind
  ·have e:d.cells.lookup y=some c:=e;rcases mem e with⟨h1,_⟩|⟨h1,_⟩;·exact(J b hb).1.2.2.2.2.1 y c h1 z
   grind
  ·rcases(J b hb).1.2.2.2.1 with z|z;·exact I.ok.oq b o e z
   ·exact bw (gf (cu e) (gI I.ok.jw z)) (mL _)
  ·rcases ff.mp (I.Cf b z)with z|z;·exact(J b hb).1.2.1 z
   ·exact(J b hb).1.2.2.1 z
 refine⟨Ux,rfl,I.bare,Un.kept kp,⟨λ_=>none,?_,λi y av S U G=>?_⟩,λy c e=>?_,?_,λy c e=>?_,λp hp=>?_,I.a9.kept kp,by rw[C0];exact I.len⟩;·show Heap.Ns _ d.locals _;rw[hL];exact Heap.Ns.keeps (Heap.Ns.new ..) λb o e=>GD _ _ _ _ e
 ·obtain⟨U,sK⟩:=C1 U;have L:scope.names.lookup y=some .free/\(d.kindOf y=some .cell\/d.kindOf y=some .free):=by
   have key:∀k,d.scope.names.lookup y=some k->k=.local\/k=.cell\/k=.free->scope.names.lookup y=some .free/\(d.kindOf y=some .cell\/d.kindOf y=some .free):=λk Z C3=>by
    haveI yQ:=Z;rw[Y]at Z;obtain⟨k',e,r⟩:=CZ Z;have no:¬(k'=.local\/k'=.cell):=λhh=>by
     rcases M.own _ (jR e) hh with F|F;·obtain⟨p,hp,Uy⟩:=mK.mp F;have G:=M.ix p hp;have:p.1=y:=Uy;rw[this]at G;exact sK (mK.mpr ⟨p,hp,Cg hN G S⟩)
     ·exact F (fY S)
    rcases r with rfl|⟨rfl,rfl⟩
    ·rcases C3 with rfl|rfl|rfl;·exact bw (.inl rfl) no
     ·exact bw (.inr rfl) no
     ·exact⟨e,.inr yQ⟩
    ·exact⟨e,.inl yQ⟩
   have G:fP d.scope y:=G;rcases G with G|G|G;·exact key _ G (.inl rfl)
   ·exact key _ G (.inr (.inl rfl))
   ·exact key _ G (.inr (.inr rfl))
  obtain⟨m,hn,hl⟩:=I.loc;haveI C4:fP X.env.scope y:=(M.free _ (jR L.1) rfl).elim (λk=>.inr (.inl k)) (λk=>.inr (.inr k));obtain⟨w,r,q⟩:=hl i y av S U C4;refine⟨w,r,.inr ⟨L.2,?_⟩⟩;obtain⟨c,h1,h2⟩:=O L.1;rcases q with⟨k,_⟩|⟨_,c',F,z⟩;·haveI k:X.env.scope.names.lookup y=some .local:=k;rcases M.free _ (jR L.1) rfl with k'|k'<;>rw[show X.env.scope.names.lookup y=_ from k']at k<;>nomatch k
  ·rw[h2]at F;cases F;exact⟨c,h1,z.keeps kp⟩
 ·have e:d.cells.lookup y=some c:=e;rcases mem e with⟨h1,_⟩|⟨_,z⟩;·obtain⟨w,z⟩:=I.cell y c h1;exact⟨w,z.keeps kp⟩
  ·exact⟨_,z⟩
 ·show H d.locals=none;rw[hL];exact I.a9.fresh (bR _)
 ·have e:d.cells.lookup y=some c:=e;rcases mem e with⟨h1,_⟩|⟨h1,_⟩;·exact I.iH y c h1
  ·exact I.a9.fresh (Q8 h1)
 ·exact bw (show p∈([]:List (af×bu))++[] from hp) (by simp)
def Uz(I:Inv X pins σ H s)(g:H D=some (.lst xs))(G:xs.length<bj)(r:RelV y v)(h:∀s',Inv X pins σ (upd H D (.lst (xs++[y]))) s'->Q .none s'):aH (aF X.prog X.w) X.A (call (.builtin "list.append") [.ref D,v]) Q E s:=by obtain⟨z,its,n,j,e⟩:=I.a9 D _ g;have J:=j.length;refine append_at (hsz:=by simp_all) e λh' B d=>?_;refine h _ (I.write (by rw[g];trivial) (.inl rfl) (λb u F q=>(B.2 b F).trans q) ⟨_,d⟩ ⟨by grind,its++[v],n+1,j.append (.cons r .nil),?_⟩);simp_all
abbrev lj(X:Cx)(d:List bp)(t:TT):Prop:=∀(pins:List (af×bu)) (s:ar) (σ:St) (H:Hp) (Q:Bool->Hp->Prop),Inv X pins σ H s->t σ H Q->aH (aF X.prog X.w) X.A (forIn d true λc r=>if r=true then do let g<-isTrue c X.env (aP c X.env);pure (GF g)else pure (GF r)) (TP X pins σ Q) X.xe s
abbrev sL:TT:=λ_ H Q=>Q true H
def C6:lj X [] sL:=λ_ _ _ H _ I h=>wpAny_tests_nil ⟨H,I,h⟩
def UA(h:PT X c t):lj X [c] t:=λpins s σ H Q I d=>wpAny_tests_one (h pins s σ H Q I d)
end
def sM{d:Type}{t:d4 d}{Q g:d->ar->Prop}{M:Model}{A:cG}{E:aj->ar->Prop}{s:ar}(h:aH M A t Q (λ_ _=>False) s)(j:∀a s,Q a s->g a s):aH M A t g E s:=fw h j λ_ _ z=>mO z
def UB(I:Nat->ar->Prop)(turn:∀n s,I n s->aH (aF prog w) A (uv it) (λr g=>match r with|none=>R (.ok .next) g|some v=>aH (aF prog w) A (QT d it v) (λ_ j=>aH (aF prog w) A (rK d env v) (λ_ z=>aH (aF prog w) A (forIn U true λc r=>if r=true then do let M<-isTrue c env (aP c env);pure (GF M)else pure (GF r)) (λM q=>if M=true then aH (aF prog w) A (aP W env) (λx B=>aH (aF prog w) A (call (.builtin "list.append") [acc,x]) (λ_ F=>∃m,m<n/\I m F) (xS (aF prog w) A env λe s'=>R (.error e) s') B) (xS (aF prog w) A env λe s'=>R (.error e) s') q else∃m,m<n/\I m q) (xS (aF prog w) A env λe s'=>R (.error e) s') z) (xS (aF prog w) A env λe s'=>R (.error e) s') j) (xS (aF prog w) A env λe s'=>R (.error e) s') g) (xS (aF prog w) A env λe s'=>R (.error e) s') s)(n:Nat)(h:I n s):nX (aF prog w) A (.compLoop (.ListComp W [⟨d,iter,U,0⟩] scope pos) 0 it acc env) R s:=by refine codeAny_loop rfl I (λn s Y=>?_) n h;refine wpAny_noted ?_;refine aJ (Gp (aJ (fw (turn n s Y) (λr g G=>?_) λ_ _ h'=>h')));cases r with|none=>exact ce G|some v=>refine aJ (fw G (λ_ j L=>?_) λ_ _ h'=>h');refine aJ (fw L (λ_ z N=>aJ (fw N (λM q J=>?_) λ_ _ h'=>h')) λ_ _ h'=>h');cases M with|false=>exact ce ⟨rfl,J⟩|true=>exact aJ (aJ (fw J (λx B O=>aJ (fw O (λ_ F S=>ce (ce ⟨rfl,S⟩)) λ_ _ h'=>h')) λ_ _ h'=>h'))
section
variable{X:Cx}
abbrev m7(B:TI)(g:TG)(F:TT)(te:TE)(vs:List Nat):TE:=λσ H Q=>B σ H λJ H1=>∀D,H1 D=none->∃W:Nat->Nat->Hp->Prop,(∃m,W 0 m (upd H1 D (.lst [])))/\∀i m H,W i m H->(J.stop i H/\Q (.ref D) H)\/(J.go i H/\∃j:Hp->Prop,(∀H',j H'->∃n,n<m/\W (i+1) n H')/\∀x H',J.yu i H x H'->g x (wipe σ vs) H' λd H2=>wipe d vs=wipe σ vs/\F d H2 λb q=>if b=true then te d q λy z=>∃acc,z D=some (.lst acc)/\acc.length<bj/\j (upd z D (.lst (acc++[y])))else j q)
def JI{pins:List (af×bu)}{s:ar}{σ:St}{H:Hp}{Q:VK}{M tg iter:bp}{O:List bp}{scope:fe}{own:List (ag×Nat)}{pos pos':cj}{wi:TI}{g:TG}{tt:TT}{te:TE}{use:Option (aj->d4 Unit)}{Qf:aj->ar->Prop}(hc:X.calm=true)(hN:X.N.Nodup)(I:Inv X pins σ H s)(hi:PI X tg iter wi)(ok:ve X.N X.env.scope scope own)(hg:∀(s:ar)(H:Hp)(C:af)(cl:List (ag×af))(B:List af),PG (X.db s H scope (ec scope cl C X.env) B) tg g)(ht:∀(s:ar)(H:Hp)(C:af)(cl:List (ag×af))(B:List af),lj (X.db s H scope (ec scope cl C X.env) B) O tt)(he:∀(s:ar)(H:Hp)(C:af)(cl:List (ag×af))(B:List af),PE (X.db s H scope (ec scope cl C X.env) B) M te)(hs:∀x,nW iter X.env x=pure x)(h:m7 wi g tt te (own.map (·.2)) σ H Q)(UC:∀D C s' m H',Inv X pins σ H' s'->Q (.ref D) H'->s'.heap.Ns C m->kC X pins H' C->compPost (aF X.prog X.w) X.A X.xe use Qf (.ref D) C (.ok .next) s'):aH (aF X.prog X.w) X.A (comprehension (.ListComp M [⟨tg,iter,O,0⟩] scope pos) scope X.env pos' (newList []) false (aP iter X.env) use) Qf X.xe s:=by
 haveI HL:∀y∈scope.names,y.2=.free->∃c,X.env.cells.lookup y.1=some c:=λy hy e=>by
  rcases ok.free y hy e with k|k;·exact I.ok.has _ (.inl k)
  ·exact I.ok.has _ (.inr k)
 refine wpAny_comprehension_free (use:=use) rfl hs (Ut HL) ok.kind (λy hy e=>by rw[ok.uniq y hy,e]) (ba (hi pins s σ H _ I h) λxv s1 hx=>ba hx λyx s2 h2=>?_);obtain⟨it,B,tn,J,H2,e,I2,T,yA,f2,q⟩:=h2;subst e;refine Rb (Uu ?_) (by show 0<=bj;decide);generalize hD:s2.heap.objs.size=D;have UD:H2 D=none:=I2.a9.fresh (lU hD);obtain⟨W,⟨m0,w0⟩,turn⟩:=q D UD;generalize vf:({s2 with heap:=s2.heap.push {cls:=.type "list",data:=.seq ([]:List aj).toArray}}:ar)=d;have I3:Inv X pins σ (upd H2 D (.lst [])) d:=by rw[<-vf];refine I2.laid (t':=s2.toks) (λb o e=>bL _ e) (lU hD) ⟨fK _,[],0,.nil,?_⟩;rw[<-hD];exact dL _ rfl
 have h3:d.heap=s2.heap.push {cls:=.type "list",data:=.seq ([]:List aj).toArray}:=by rw[<-vf]
 have sz:∀b∈B,b<s2.heap.objs.size:=λb F=>by obtain⟨o,e,_⟩:=T.obj _ _ yA b F;exact cu e
 have f3:∀b∈B,kC X pins (upd H2 D (.lst [])) b/\b<d.heap.objs.size:=λb F=>by haveI f6:=sz b F;refine⟨⟨?_,(f2 b F).2⟩,by rw[h3,gX];exact Ra f6⟩;rw[aD (by rw[<-hD];exact ea f6)];exact(f2 b F).1
 haveI UE:tn 0 d.heap:=T.keep _ _ _ yA λb _ o e=>by rw[h3];exact bL _ e
 haveI I4:=Uw I3 ok hN f3;haveI pg:=hg d (upd H2 D (.lst [])) d.heap.objs.size (gJ (d.heap.objs.size+1) scope.names (gp X.env.cells scope.names [])) B;haveI pt:=ht d (upd H2 D (.lst [])) d.heap.objs.size (gJ (d.heap.objs.size+1) scope.names (gp X.env.cells scope.names [])) B;haveI pe:=he d (upd H2 D (.lst [])) d.heap.objs.size (gJ (d.heap.objs.size+1) scope.names (gp X.env.cells scope.names [])) B;show nX _ _ (.compStart (.ListComp M [⟨tg,iter,O,0⟩] scope pos) 0 (.ref it) (.ref D) (ec scope (gJ (d.heap.objs.size+1) scope.names (gp X.env.cells scope.names [])) d.heap.objs.size X.env)) (compPost (aF X.prog X.w) X.A X.xe use Qf (.ref D) d.heap.objs.size) {d with heap:=rQ (d.heap.push {cls:=.type "dict",data:=.dict #[]}) scope.names};haveI JJ:∀b∈B,(upd H2 D (.lst [])) b=none:=λb F=>(f3 b F).1.1;generalize UF:ec scope (gJ (d.heap.objs.size+1) scope.names (gp X.env.cells scope.names [])) d.heap.objs.size X.env=G at I4 pg pt pe⊢
 have cL:G.locals=d.heap.objs.size:=by subst UF;rfl
 generalize hH3:upd H2 D (.lst [])=S at I3 I4 pg pt pe w0 JJ f3;generalize UG:({d with heap:=rQ (d.heap.push {cls:=.type "dict",data:=.dict #[]}) scope.names}:ar)=s4 at I4⊢
 haveI JK:tn 0 s4.heap:=T.keep _ _ _ UE λb _ o e=>by rw[<-UG];exact GD _ _ _ _ (bL _ e)
 have L:∀{et:St} {H':Hp} {s':ar},Inv (X.db d S scope G B) [] et H' s'->(∀b∈B,H' b=none)->∀b∈B,kC (X.db d S scope G B) [] H' b:=λ{et H' s'} I' hn b F=>⟨hn b F,(I'.ok.pW b F).1,I'.ok.ot b F,.inl F,λx c e=>(I'.ok.pW b F).2 x c e,λp hp=>bw (show p∈([]:List (af×bu))++[] from hp) (by simp)⟩;haveI Y:nX (aF X.prog X.w) X.A (.compLoop (.ListComp M [⟨tg,iter,O,0⟩] scope pos) 0 (.ref it) (.ref D) G) (compPost (aF X.prog X.w) X.A X.xe use Qf (.ref D) d.heap.objs.size) s4:=by
  refine UB (λn s'=>∃i H',Inv (X.db d S scope G B) [] (wipe σ (own.map (·.2))) H' s'/\tn i s'.heap/\(∀b∈B,H' b=none)/\W i n H') ?_ m0 ⟨0,S,I4,JK,JJ,w0⟩;rintro n s5 ⟨i,H5,I5,JL,n5,w5⟩;rcases turn i n H5 w5 with⟨stop,qq⟩|⟨go,Nx,UH,step⟩
  ·have td:=T.done (X.db d S scope G B) rfl rfl rfl hc i [] s5 _ H5 (λ_ _=>False) I5 (L I5 n5) JL stop;refine sM td λr s6 z1=>?_;obtain⟨hr,I6⟩:=z1;subst hr;haveI I7:Inv X pins σ H5 s6:=I3.HM (ch:=B) I6.os I6.base I6.a9 I6.bare λb F=>⟨(f3 b F).1.2.2.2.1,(f3 b F).1.2.1,(f3 b F).1.2.2.2.2.1,(f3 b F).1.2.2.2.2.2⟩;have nC:H5 d.heap.objs.size=none:=by have z:H5 G.locals=none:=I6.free;rw[cL]at z;exact z
   obtain⟨m,hn,_⟩:=I6.loc;have hn:s6.heap.Ns G.locals m:=hn;rw[cL]at hn;exact UC D d.heap.objs.size s6 m H5 I7 qq hn (I3.mY (bR _) nC)
  ·haveI ti:=T.item (X.db d S scope G B) rfl rfl rfl hc i [] s5 _ H5 (λ_ _=>False) I5 (L I5 n5) JL go;refine sM ti λr s6 z2=>?_;obtain⟨u,hr,h6⟩:=z2;subst hr;refine sM h6 λ_ s7 z3=>?_;obtain⟨x,H7,I7,r7,y7,C7,n7⟩:=z3;haveI UI:=I7.pinned (L I7 n7) (T.obj _ _ C7);refine sM (pg _ s7 _ H7 x u _ UI r7 (step x H7 y7)) λ_ s8 z4=>?_;obtain⟨U,H8,I8,JM,q8⟩:=z4;refine sM (pt _ s8 U H8 _ I8 q8) λb s9 z5=>?_;obtain⟨H9,I9,q9⟩:=z5;have fin:∀{s':ar} {H':Hp},Inv (X.db d S scope G B) ([]++u0 B s7.heap) U H' s'->Nx H'->∃m,m<n/\∃i H',Inv (X.db d S scope G B) [] (wipe σ (own.map (·.2))) H' s'/\tn i s'.heap/\(∀b∈B,H' b=none)/\W i m H':=λ{s' H'} I' nx=>by
    obtain⟨m',hm,w'⟩:=UH H' nx;have Z:∀b∈B,∀o,s7.heap.get? b=some o->s'.heap.get? b=some o/\H' b=none:=λb F o e=>let z:=I'.pin (b,o) (jQ _ (jQ _ (Ct F e)));⟨z.1,z.2.1⟩;have hl:(wipe σ (own.map (·.2))).length=U.length:=by rw[<-JM,C0]
    refine⟨m',hm,i+1,H',(I'.yz (pins:=[])).weak hl (λj v e=>?_),T.keep _ _ _ C7 λb F o e=>(Z b F o e).1,λb F=>?_,w'⟩;·rw[<-JM]at e;exact(C1 e).1
    ·obtain⟨o,e,_⟩:=T.obj _ _ C7 b F;exact(Z b F o e).2
   cases b with
   |false=>
    simp only[xT,if_false]at q9⊢
    exact fin I9 q9
   |true=>
    simp only[if_true]at q9⊢
    refine sM (pe _ s9 U H9 _ I9 q9) λz s10 z6=>?_;obtain⟨yv,H10,UJ,UK,acc,UL,UM,nx⟩:=z6;exact Uz (X:=X.db d S scope G B) UJ UL UM UK λs11 UN=>fin UN nx
 exact codeAny_compStart_list Y (T.self X.A 0 _ _ _ JK Y)
def JN(z:X.calm=true)(B:X.N.Nodup)(hi:PI X tg iter F)(G:ve X.N X.env.scope scope own)(J:∀(s:ar)(H:Hp)(C:af)(cl:List (ag×af))(d:List af),PG (X.db s H scope (ec scope cl C X.env) d) tg g)(L:∀(s:ar)(H:Hp)(C:af)(cl:List (ag×af))(d:List af),lj (X.db s H scope (ec scope cl C X.env) d) j M)(he:∀(s:ar)(H:Hp)(C:af)(cl:List (ag×af))(d:List af),PE (X.db s H scope (ec scope cl C X.env) d) n te)(O:∀x,nW iter X.env x=pure x:=by intro _;rfl):PE X (.ListComp n [⟨tg,iter,j,0⟩] scope pos) (m7 F g M te (own.map (·.2))):=by intro pins s σ H Q I h;refine JI z B I hi G J L he O h λD C s' m H' S q U f=>⟨m,U,λW Y=>?_⟩;obtain⟨Z,f1,f2,f3,f4,f5⟩:=f;exact⟨.ref D,H',S.turned (λb o hb e=>(Y.2 b hb).trans e) Z f1 f3 f4 f5,rfl,q⟩
def C8{O:TI}{g:TG}{S:TT}{te:TE}(W:X.calm=true)(U:X.N.Nodup)(Y:X.N[i]?=some y)(d:X.env.scope.names.lookup y=some .local)(G:fJ (.ListComp j [⟨tg,iter,n,0⟩] scope pos) (some (.Name y Z)) B.line X.env=pure true)(hi:PI X tg iter O)(ok:ve X.N X.env.scope scope own)(hg:∀(s:ar)(H:Hp)(C:af)(cl:List (ag×af))(F:List af),PG (X.db s H scope (ec scope cl C X.env) F) tg g)(ht:∀(s:ar)(H:Hp)(C:af)(cl:List (ag×af))(F:List af),lj (X.db s H scope (ec scope cl C X.env) F) n S)(he:∀(s:ar)(H:Hp)(C:af)(cl:List (ag×af))(F:List af),PE (X.db s H scope (ec scope cl C X.env) F) j te)(hs:∀x,nW iter X.env x=pure x:=by intro _;rfl):PS X (.Assign [.Name y Z] (.ListComp j [⟨tg,iter,n,0⟩] scope pos) B) (la (m7 O g S te (own.map (·.2))) (iT i)):=by
 intro pins s σ H D I h;rw[exec_Assign_Name_used _ _ _ _ G];refine aJ (Gp (aJ ?_));refine aJ (ba (JI W U I hi ok hg ht he hs h λL C s' m H' I' q hn f=>?_) λ_ s' hq=>ce (ce hq));refine wpAny_assign_Name (HK (v:=V.ref L) I' U Y (.inl d) rfl (λs2 I2 ⟨a,sb,ha⟩=>?_) (.inr d));obtain⟨f0,f1,f2,f3,f4,f5⟩:=f;have J:C≠a:=by
  rcases ha with z|z;·lia
  ·grind
 refine⟨m,hn.sameBut sb J,λh3 M=>?_⟩;exact⟨_,H',I2.turned (λb o hb e=>(M.2 b hb).trans e) f0 f1 f3 f4 f5,q⟩
def JO{d:bp}{j:List Comprehension}{scope:fe}{pos g:cj}{y:ag}{l:Nat}{env:Env}(q:env.scope.kind=.function)(z:env.scope.names.lookup y=some .local)(B:(g.line==pos.line)=true)(F:(scope.names.any λ(n,k)=>n==y&&(k==.local||k==.cell))=false):fJ (.ListComp d j scope pos) (some (.Name y g)) l env=pure true:=by
 have G:env.kindOf y=some .local:=z;have I:env.blockKind=.function:=by unfold Env.blockKind;rw[q];rfl
 show pure (env.blockKind==.function&&env.kindOf y==some .local&&g.line==pos.line&&!(scope.names.any λ(n,k)=>n==y&&(k==.local||k==.cell)))=_;rw[I,G,F,B];rfl
end
abbrev ll(N:List ag)(sc scope:fe)(own:List (ag×Nat)):Bool:=(match scope.kind with|.function=>true|_=>false)&&(scope.names.all λy=>decide (scope.names.lookup y.1=some y.2))&&(own.all λp=>decide (N[p.2]?=some p.1))&&(scope.names.all λy=>match y.2 with|.free=>(match sc.names.lookup y.1 with|some .cell=>true|some .free=>true|_=>false)|.local=>decide (y.1∈own.map (·.1))||decide (y.1∉N)|.cell=>decide (y.1∈own.map (·.1))||decide (y.1∉N)|_=>true)
def vg(h:ll N sc scope own=true):ve N sc scope own:=by
 delta ll at h;simp only[d0,ji,jK]at h;obtain⟨⟨⟨h1,h2⟩,j⟩,g⟩:=h;refine⟨?_,h2,j,λy d e=>?_,λy d e=>?_⟩
 ·split at h1;·assumption
  ·cases h1
 ·haveI q:=g y d;simp only[e]at q;split at q<;>first|exact .inl (by assumption)|exact .inr (by assumption)|cases q
 ·haveI q:=g y d;rcases e with e|e<;>(simp only[e,Bool.or_eq_true,jK]at q;exact q)
end L2
namespace L2
open PySem PySem.Spec PyProof.Rows
end L2
namespace L2
open PySem PySem.Spec PyProof.Rows
section
variable{κ:Type}[DecidableEq κ]
abbrev iq(kvs:List (κ×V))(k:κ):Option V:=(kvs.find? λkv=>decide (kv.1=k)).map (·.2)
abbrev putK(kvs:List (κ×V))(k:κ)(v:V):List (κ×V):=if(kvs.any λkv=>decide (kv.1=k))=true then kvs.map (λkv=>if kv.1=k then(kv.1,v)else kv)else kvs++[(k,v)]
def C9{k:κ}(e:p.1=k):iq (p::r) k=some p.2:=by simp[iq,e]
def Db{k:κ}(e:¬p.1=k):iq (p::r) k=iq r k:=by simp[iq,e]
def JP(k:κ):∀kvs:List (κ×V),(kvs.any λkv=>decide (kv.1=k))=(iq kvs k).isSome
 |[]=>rfl
 |p::r=>by
  rw[nR];by_cases e:p.1=k;·simp only[C9 e,gT e,Bool.true_or,Option.isSome_some]
  ·rw[Db e,iC e,Rc];exact JP k r
def JQ(kvs:List (κ×V))(k:κ)(v:V):(putK kvs k v).length<=kvs.length+1:=by delta putK;grind
def hJ.vh(r:hJ o u):o.isSome=u.isSome:=by
 cases o with
 |none=>cases u with|none=>rfl|some _=>exact(show False from r).elim
 |some _=>cases u with|none=>exact(show False from r).elim|some _=>rfl
def hJ.getD(r:hJ o u)(g:RelV d j):RelV (o.getD d) (u.getD j):=by
 cases o with
 |none=>cases u with|none=>exact g|some _=>exact(show False from r).elim
 |some _=>cases u with|none=>exact(show False from r).elim|some _=>exact r
def KV.val(r:KV kvs vs)(k:κ):hJ (iq kvs k) (xU vs k):=by
 induction r with
 |nil=>exact xN
 |@cons p q ps d h t j=>
  obtain⟨h1,h2⟩:=h;by_cases e:p.1=k
  ·have g:=h1.symm.trans e;have b:xU (q::d) k=some q.2:=by simp[xU,g]
   rw[C9 e,b];exact h2
  ·have g:¬q.1=k:=λz=>e (h1.trans z);have b:xU (q::d) k=xU d k:=by simp[xU,g]
   rw[Db e,b];exact j
def KV.any(r:KV kvs vs)(k:κ):(kvs.any λkv=>decide (kv.1=k))=vs.any λkv=>decide (kv.1=k):=by induction r with|nil=>rfl|cons h t d=>simp_all
def KV.Dc(r:KV kvs vs)(k:κ)(g:RelV y u):KV (kvs.map λkv=>if kv.1=k then(kv.1,y)else kv) (vs.map λkv=>if kv.1=k then(kv.1,u)else kv):=by induction r with|nil=>exact .nil|@cons p q ps j h t d=>refine .cons ?_ d;lia
def KV.put(r:KV kvs vs)(k:κ)(d:RelV y u):KV (putK kvs k y) (stored vs k u):=by
 delta putK stored;rw[r.any k];by_cases e:(vs.any λkv=>decide (kv.1=k))=true;·rw[ax e,ax e];exact r.Dc k d
 ·rw[ay e,ay e];exact Paired.snoc r ⟨rfl,d⟩
def KV.keys{vs:List (κ×aj)}(r:KV kvs vs):kvs.map (·.1)=vs.map (·.1):=by induction r with|nil=>rfl|cons h t d=>simp_all
def KV.length{vs:List (κ×aj)}(r:KV kvs vs):kvs.length=vs.length:=QN r
end
def vi(r:RelV (kV k) u):(hG P w).is k u=true:=by cases k with|inl i=>obtain⟨t,e⟩:=(show∃t,u=pB i t from r);subst e;exact SN P w i t|inr x=>obtain⟨t,e⟩:=(show∃t,u=Gn x t from r);subst e;exact SO P w x t
def JR:∀{ks:List Key}{us:List aj},Vals (ks.map kV) us->ItemsAre (hG P w) ks us|[],_,r=>by cases r;exact .nil|k::ks,_,r=>by cases r with|cons h t=>exact .cons (vi h) (JR t)
@[reducible]def KT(H:Hp):List (List Key×V)->List (List Key×af×aj)->Prop:=xI λp q=>p.1=q.1/\H q.2.1=some (.tup (p.1.map kV))/\RelV p.2 q.2.2
def KT.val(r:KT H kvs xs)(k:List Key):hJ (iq kvs k) ((rR xs k).map (·.2)):=by
 induction r with
 |nil=>exact xN
 |@cons p q ps d h t j=>
  obtain⟨h1,_,h2⟩:=h;by_cases e:p.1=k
  ·have g:=h1.symm.trans e;have b:rR (q::d) k=some q.2:=by simp[rR,g]
   rw[C9 e,b];exact h2
  ·have g:¬q.1=k:=λz=>e (h1.trans z);have b:rR (q::d) k=rR d k:=by simp[rR,g]
   rw[Db e,b];exact j
def KT.Dc(r:KT H kvs xs)(k:List Key)(g:RelV y u):KT H (kvs.map λkv=>if kv.1=k then(kv.1,y)else kv) (xs.map (putAt k u)):=by induction r with|nil=>exact .nil|@cons p q ps j h t d=>refine .cons ?_ d;delta putAt;lia
def KT.put(r:KT H kvs xs)(k:List Key)(g:H b=some (.tup (k.map kV)))(d:RelV y u):KT H (putK kvs k y) (storedH xs k b u):=by
 haveI e:(kvs.any λkv=>decide (kv.1=k))=(rR xs k).isSome:=by rw[JP,(r.val k).vh,Be]
 delta putK storedH;rw[e];by_cases q:(rR xs k).isSome=true;·rw[ax q,ax q];exact r.Dc k d
 ·rw[ay q,ay q];exact Paired.snoc r ⟨rfl,g,d⟩
def KT.keeps(r:KT H kvs xs)(d:∀b ys,H b=some (.tup ys)->H' b=some (.tup ys)):KT H' kvs xs:=Paired.Cd r λ_ _ z=>⟨z.1,d _ _ z.2.1,z.2.2⟩
section
variable{P:bA}{w:bB}{H:Hp}{h:aZ}{a:af}
def Dd(d:dM P w H h)(e:Rd H a u):da P w H h a u:=e.ok d
def vj(d:dM P w H h)(e:Rd H a (.dK kvs)):kvs.length<=bj/\(a==nU)=false/\∃vs,KV kvs vs/\h.DictOf (hG P w) a vs:=show da P w H h a _ from Dd d e
def UO(d:dM P w H h)(e:H a=some (.dK kvs)):kvs.length<=bj/\(a==nU)=false/\∃vs,KV kvs vs/\h.DictOf (hG P w) a vs:=vj d (.inl e)
def vk(d:dM P w H h)(e:H a=some (.tup (ks.map kV))):(A1 (hG P w)).is h ks a:=by obtain⟨_,its,r,o,h1,h2,n,g⟩:=(show da P w H h a _ from d a _ e);exact⟨o,its.toArray,n,h1,h2,g,by simpa using JR r⟩
def vl(g:dM P w H h)(e:Rd H a (.dT kvs)):kvs.length<=bj/\(a==nU)=false/\∃xs,KT H kvs xs/\h.DictOfH (A1 (hG P w)) a xs:=by
 obtain⟨z,y,xs,r,o,es,j,h1,h2,n,B,F⟩:=(show da P w H h a _ from Dd g e);refine⟨z,y,xs,r,o,es,j,h1,h2,n,B,λx d=>?_,F⟩;have all:∀{l:List _} {m:List _},KT H l m->∀x∈m,(A1 (hG P w)).is h x.1 x.2.1:=by
  intro l m q;induction q with
  |nil=>simp
  |@cons p q ps I J t G=>
   intro x d;rcases ff.mp d with e|d;·exact vk g (by simp_all)
   ·exact G x d
 exact all r x d
def UP(d:dM P w H h)(e:H a=some (.dT kvs)):kvs.length<=bj/\(a==nU)=false/\∃xs,KT H kvs xs/\h.DictOfH (A1 (hG P w)) a xs:=vl d (.inl e)
end
abbrev m8(H:Hp)(a:af)(y:V)(r:Option V):Prop:=(∃kvs k,Rd H a (.dK kvs)/\y=kV k/\r=iq kvs k)\/∃kvs k b,Rd H a (.dT kvs)/\y=.ref b/\H b=some (.tup (k.map kV))/\r=iq kvs k
abbrev m9(H:Hp)(a:af)(y v:V)(H':Hp):Prop:=(∃kvs k,H a=some (.dK kvs)/\y=kV k/\kvs.length<bj/\H'=upd H a (.dK (putK kvs k v)))\/∃kvs k b,H a=some (.dT kvs)/\y=.ref b/\H b=some (.tup (k.map kV))/\kvs.length<bj/\H'=upd H a (.dT (putK kvs k v))
def m9.k{k:Key}(e:H a=some (.dK kvs))(d:kvs.length<bj):m9 H a (kV k) v (upd H a (.dK (putK kvs k v))):=.inl ⟨kvs,k,e,rfl,d,rfl⟩
def m9.t{k:List Key}(e:H a=some (.dT kvs))(d:H b=some (.tup (k.map kV)))(g:kvs.length<bj):m9 H a (.ref b) v (upd H a (.dT (putK kvs k v))):=.inr ⟨kvs,k,b,e,rfl,d,g,rfl⟩
section
variable{X:Cx}{pins:List (af×bu)}{σ:St}{H:Hp}{s:ar}{a:af}{y v:V}{u r:aj}{o:Option V}{A:cG}{E:aj->ar->Prop}
def Inv.big(I:Inv X pins σ H s):nU<s.heap.objs.size:=by have h:=(I.mod.glob.keeps I.bk).lt;exact Nat.lt_trans (by decide) h
def UQ(J:A.units+1<dU)(I:Inv X pins σ H s)(g:m8 H a y (some v))(G:RelV y u)(h:∀n s',Inv X pins σ H s'->RelV v n->Q n s'):aH (aF X.prog X.w) A (xQ (.ref a) u) Q E s:=by
 rcases g with⟨kvs,k,e,q,l⟩|⟨kvs,k,b,e,q,L,l⟩;·subst q;obtain⟨z,M,vs,d,dd⟩:=vj I.a9 e;obtain⟨n,B,j⟩:=hJ.some_of (by rw[l];exact d.val k);exact wpAny_getItem_of (vi G) dd.mapOf B (h n _ (I.tok _) j)
 ·subst q;cases(show u=d9 b from G);obtain⟨z,M,xs,d,dd⟩:=vl I.a9 e;obtain⟨n,B,j⟩:=hJ.some_of (by rw[l];exact d.val k);obtain⟨p,N,F⟩:=Gz.mp B;refine wpAny_getItem_heap (GG J) (vk I.a9 L) dd N ?_;rw[F];exact h n _ (I.tok _) j
def UR(F:A.units+1<dU)(I:Inv X pins σ H s)(g:m8 H a y o)(B:RelV y u)(h:∀s',Inv X pins σ H s'->Q (.bool o.isSome) s'):aH (aF X.prog X.w) A (fg .In u (.ref a)) Q E s:=by
 rcases g with⟨kvs,k,e,j,l⟩|⟨kvs,k,b,e,j,G,l⟩;·subst j;obtain⟨z,n,vs,d,dd⟩:=vj I.a9 e;refine wpAny_in_of (vi B) n dd.mapOf ?_;rw[<-(d.val k).vh,<-l];exact h _ (I.tok _)
 ·subst j;cases(show u=d9 b from B);obtain⟨z,n,xs,d,dd⟩:=vl I.a9 e;refine wpAny_in_heap (GG F) (vk I.a9 G) n dd ?_;haveI q:=(d.val k).vh;rw[Be]at q;rw[<-q,<-l];exact h _ (I.tok _)
def US(F:A.units+1<dU)(I:Inv X pins σ H s)(g:m8 H a y o)(B:RelV y u)(h:∀s',Inv X pins σ H s'->Q (.bool (!o.isSome)) s'):aH (aF X.prog X.w) A (fg .NotIn u (.ref a)) Q E s:=by
 rcases g with⟨kvs,k,e,j,l⟩|⟨kvs,k,b,e,j,G,l⟩;·subst j;obtain⟨z,n,vs,d,dd⟩:=vj I.a9 e;refine wpAny_notIn_of (vi B) n dd.mapOf ?_;rw[<-(d.val k).vh,<-l];exact h _ (I.tok _)
 ·subst j;cases(show u=d9 b from B);obtain⟨z,n,xs,d,dd⟩:=vl I.a9 e;refine wpAny_notIn_heap (GG F) (vk I.a9 G) n dd ?_;haveI q:=(d.val k).vh;rw[Be]at q;rw[<-q,<-l];exact h _ (I.tok _)
def JS(I:Inv X pins σ H s)(j:uQ (H a))(n:jO a s.heap h')(he:∃q,h'.get? a=some q)(d:da X.prog X.w (upd H a g) h' a g):Inv X pins σ (upd H a g) {s with heap:=h',toks:=t'}:=I.write j (.inl rfl) (λb q B z=>(n.2 b B).trans z) he d
def UT(z:kvs.length<=bj)(g:(a==nU)=false)(d:KV kvs vs)(dd:h'.DictOf (hG P w) a vs):da P w H' h' a (.dK kvs):=⟨z,g,vs,d,dd⟩
def UU(W:A.units+1<dU)(I:Inv X pins σ H s)(g:m9 H a y v H')(M:RelV y u)(N:RelV v r)(h:∀s',Inv X pins σ H' s'->Q () s'):aH (aF X.prog X.w) A (setItem (.ref a) u r) Q E s:=by
 rcases g with⟨kvs,k,e,B,l,F⟩|⟨kvs,k,b,e,B,O,l,F⟩
 ·subst B F;obtain⟨z,G,vs,d,dd⟩:=UO I.a9 e;have S:vs.length<=bj:=by rw[<-d.length];exact z
  have J:(putK kvs k v).length<=bj:=by have:=JQ kvs k v;lia
  refine wpAny_setItem_pairs (vi M) dd λh' j L=>h _ ?_;haveI he:∃q,h'.get? a=some q:=let⟨q,_,_,n,_⟩:=j;⟨q,n⟩;exact JS I (by rw[e];exact xN) L he (UT J G (d.put k N) j)
 ·subst B F;cases(show u=d9 b from M);obtain⟨z,G,xs,d,dd⟩:=UP I.a9 e;have S:xs.length<=bj:=by rw[<-QN d];exact z
  haveI J:(putK kvs k v).length<=bj:=by have:=JQ kvs k v;lia
  refine wpAny_setItem_heap (hsz:=S) (GG W) (vk I.a9 O) dd λh' j L=>h _ ?_;obtain⟨q,es,Y,n,h2,Z,h4,_,h5⟩:=j;refine JS I (by rw[e];exact xN) L ⟨q,n⟩ ⟨J,G,_,(d.put k O N).keeps λc ys U=>?_,q,es,Y,n,h2,Z,h4,h5⟩;rw[aD (SQ U e (λz=>nomatch z))];exact U
end
abbrev vm(i:bp):Prop:=∀d g,Gw i false d g=operate [d,g] (xQ d g)
def UV{T id:String}(F:xP (.type T) "__getitem__"=pure (some (.builtin id)))(G:vm d)(h:aH (aF prog w) A (aP value env) (λo n=>aH (aF prog w) A (aP d env) (λi g=>g.TypeIs o T/\aH (aF prog w) A (xQ o i) Q E g) E n) E s):aH (aF prog w) A (aP (.Subscript value d pos) env) Q E s:=by
 refine Gv (fw h (λo n z=>fw z (λi g j=>?_) λ_ _ x=>x) λ_ _ x=>x);obtain⟨I,j⟩:=j;refine aJ ?_;refine aJ (Re I F ?_);haveI fin:aH (aF prog w) A (Gw d false o i) (λr q=>aH (aF prog w) A (letTemporaryGo value o r>>=λ_=>pure r) Q E q) E g:=by rw[G o i];exact wpAny_operating (fw j (λr q B=>aJ (wpAny_letTemporaryGo (ce B))) λ_ _ x=>x)
 first|exact ce (aJ fin)|exact aJ _|exact aJ fin
def UW(I:Inv X pins σ H s)(g:m8 H a y o):s.TypeIs (.ref a) "dict":=by
 rcases g with⟨kvs,k,e,_,_⟩|⟨kvs,k,b,e,_,_,_⟩;·obtain⟨_,_,vs,_,dd⟩:=vj I.a9 e;exact dd.typeIs
 ·obtain⟨_,_,xs,_,dd⟩:=vl I.a9 e;exact dd.typeIs
inductive JT(Q:VK)(x:V)(y:V)(H2:Hp):Prop|mk:∀a v,x=.ref a->m8 H2 a y (some v)->Q v H2->JT Q x y H2
abbrev yR(td ty:TE):TE:=λσ H Q=>td σ H λx H1=>ty σ H1 (JT Q x)
inductive JU(Q:VK)(y:V)(x:V)(H2:Hp):Prop|mk:∀a o,x=.ref a->m8 H2 a y o->Q (.bl o.isSome) H2->JU Q y x H2
abbrev yS(ty td:TE):TE:=λσ H Q=>ty σ H λy H1=>td σ H1 (JU Q y)
inductive JV(Q:VK)(y:V)(x:V)(H2:Hp):Prop|mk:∀a o,x=.ref a->m8 H2 a y o->Q (.bl (!o.isSome)) H2->JV Q y x H2
abbrev JW(ty td:TE):TE:=λσ H Q=>ty σ H λy H1=>td σ H1 (JV Q y)
inductive JX(D:Ends)(σ:St)(v:V)(x:V)(y:V)(H3:Hp):Prop|mk:∀a H4,x=.ref a->m9 H3 a y v H4->D.nx σ H4->JX D σ v x y H3
abbrev yT(td ty tv:TE):TS:=λD σ H=>tv σ H λv H1=>td σ H1 λx H2=>ty σ H2 (JX D σ v x)
section
variable{X:Cx}{o i e value:bp}{pos pos' oA:cj}{td ty tv:TE}
def yU(n:X.A.units+1<dU)(q:PE X o td)(hi:PE X i ty)(z:vm i):PE X (.Subscript o i pos) (yR td ty):=by intro pins s σ H Q I h;refine UV PySem.F.slot_dict_getitem.lookup z (ba (q pins s σ H _ I h) λu B ⟨x,H1,G,J,L⟩=>ba (hi pins B σ H1 _ G L) λS U z1=>?_);obtain⟨y,H2,j,M,a,v,ex,g,N⟩:=z1;subst ex;obtain rfl:u=d9 a:=J;exact⟨UW j g,UQ n j g M λW Y O d=>⟨v,H2,O,d,N⟩⟩
def yV(d:X.A.units+1<dU)(hi:PE X i ty)(j:PE X o td):PC X .In i o (yS ty td):=by intro pins s σ H Q I h;refine ba (hi pins s σ H _ I h) λN n ⟨y,H1,q,z,B⟩=>ba (j pins n σ H1 _ q B) λu O z1=>?_;obtain⟨x,H2,F,G,a,J,ex,g,L⟩:=z1;subst ex;obtain rfl:u=d9 a:=G;exact UR d F g z λS M=>⟨.bl J.isSome,H2,M,rfl,L⟩
def JY(d:X.A.units+1<dU)(hi:PE X i ty)(j:PE X o td):PC X .NotIn i o (JW ty td):=by intro pins s σ H Q I h;refine ba (hi pins s σ H _ I h) λM n ⟨y,H1,q,z,B⟩=>ba (j pins n σ H1 _ q B) λu N z1=>?_;obtain⟨x,H2,F,G,a,O,ex,g,J⟩:=z1;subst ex;obtain rfl:u=d9 a:=G;exact US d F g z λS L=>⟨.bl _,H2,L,rfl,J⟩
def De(d:X.A.units+1<dU)(j:PE X o td)(hi:PE X i ty)(n:PE X value tv)(q:fJ value (some (.Subscript o i pos')) pos.line X.env=pure false):PS X (.Assign [.Subscript o i pos'] value pos) (yT td ty tv):=by intro pins s σ H D I h;refine wpAny_Assign_Subscript (ba (n pins s σ H _ I h) λr z ⟨v,H1,B,F,G⟩=>ba (j pins z σ H1 _ B G) λu J ⟨x,H2,L,M,N⟩=>ba (hi pins J σ H2 _ L N) λZ s3 ⟨y,H3,O,S,a,U,ex,g,W⟩=>?_) q;subst ex;obtain rfl:u=d9 a:=M;exact UU d O g S F λs4 Y=>⟨σ,U,Y,W⟩
end
def UX(h:aZ)(d:nU<h.objs.size):da P w H (h.push {cls:=.type "dict",data:=.dict #[]}) h.objs.size (.dK []):=⟨fK _,xL.mpr (bK (ea d)),[],.nil,Heap.DictOf.new h⟩
def UY(h:aZ)(d:nU<h.objs.size):da P w H (h.push {cls:=.type "dict",data:=.dict #[]}) h.objs.size (.dT []):=⟨fK _,xL.mpr (bK (ea d)),[],.nil,_,#[],0,dL _ rfl,⟨rfl,rfl,rfl⟩,rfl,rfl,abZ⟩
abbrev JZ:TE:=λ_ H Q=>∀p,H p=none->Q (.ref p) (upd H p (.dK []))
abbrev J1:TE:=λ_ H Q=>∀p,H p=none->Q (.ref p) (upd H p (.dT []))
section
variable{X:Cx}{pos:cj}
def UZ:PE X (.Dict [] [] pos) JZ:=λpins s σ H Q I h=>wpAny_Dict_empty ⟨.ref _,_,I.laid (λ_ _ q=>bL _ q) (bR _) (UX s.heap I.big),rfl,h _ (I.a9.fresh (bR _))⟩
def U0:PE X (.Dict [] [] pos) J1:=λpins s σ H Q I h=>wpAny_Dict_empty ⟨.ref _,_,I.laid (λ_ _ q=>bL _ q) (bR _) (UY s.heap I.big),rfl,h _ (I.a9.fresh (bR _))⟩
end
end L2
namespace L2
open PySem PySem.Spec PyProof.Rows
end L2
namespace L2
open PySem PySem.Spec PyProof.Rows
def U1:ut "reversed"=some (.type "reversed"):=by decide+kernel
section
variable{X:Cx}{pins:List (af×bu)}{σ:St}{H:Hp}{s:ar}{h':aZ}
def Inv.U2{ch:List af}(I:Inv X pins σ H s)(k:∀b o,b∉ch->s.heap.get? b=some o->h'.get? b=some o)(hf:∀b∈ch,kC X pins H b):Inv X pins σ H {s with heap:=h',toks:=t'}:=by
 have j:∀b u,H b=some u->b∉ch:=λb u e z=>by have q:=(hf b z).1;lia
 refine I.step (λb g=>⟨(hf b g).2.2.2.1,(hf b g).2.1,(hf b g).2.2.2.2.1,(hf b g).2.2.2.2.2⟩) (λb o _ _ d e _=>k b o d e) (λb o _ _ d e _=>⟨o.slots,k b o d e⟩) (λ_ _ _ _ n=>n) (λb o d e=>⟨o,k b o d e⟩) (λ_ _ e=>e) (λ_ _ _ e=>e) (λb ps e=>⟨#[],by grind⟩) (λm B=>?_) (λb u e=>?_) I.bare;·obtain⟨o,es,F,G,r⟩:=B;exact⟨o,es,F,k _ o (λz=>(hf _ z).2.1 rfl) G,r⟩
 ·refine(I.a9 b u e).k7 (λc v d q=>k c v ?_ q) (λ_ q=>q) λ_ _ q=>q;grind
def Inv.yW{ch:List af}(I:Inv X pins σ H s)(k:∀b o,b∉ch->s.heap.get? b=some o->h'.get? b=some o)(hf:∀b∈ch,kC X pins H b)(B:s.heap.objs.size<=T)(G:da X.prog X.w (upd H T F) h' T F):Inv X pins σ (upd H T F) {s with heap:=h',toks:=t'}:=by
 have j:=I.a9.fresh B;have J:∀b u,H b=some u->b∉ch:=λb u e z=>by have q:=(hf b z).1;lia
 refine I.step (λb d=>⟨(hf b d).2.2.2.1,(hf b d).2.1,(hf b d).2.2.2.2.1,(hf b d).2.2.2.2.2⟩) (λb o _ _ g e _=>k b o g e) (λb o _ _ g e _=>⟨o.slots,k b o g e⟩) (λb o _ e n=>?_) (λb o g e=>⟨o,k b o g e⟩) (λb xs e=>?_) (λb o u e=>?_) (λb ps e=>⟨#[],?_⟩) (λm L=>?_) (λb u e=>?_) I.bare;·rw[aD (ea (gf (cu e) B))];exact n
 ·rw[aD (im e j)];exact e
 ·rw[aD (im e j)];exact e
 ·rw[aD (im e j),e];rfl
 ·obtain⟨o,es,M,N,r⟩:=L;exact⟨o,es,M,k _ o (λz=>(hf _ z).2.1 rfl) N,r⟩
 ·by_cases d:b=T;·subst d;rw[aW]at e;lia
  ·rw[aD d]at e;refine(I.a9 b u e).k7 (λc v g q=>k c v ?_ q) (λc q=>by rw[aD (im q j)];exact q) λc xs q=>by rw[aD (im q j)];exact q
   grind
end
section
variable{X:Cx}
def U3(I:Inv X pins σ H s)(o:bu)(T:Turn X.prog X.w X.K tg J [s.heap.objs.size] s.heap.objs.size d)(st:d 0 (s.heap.push o))(q:R J H):yw X pins σ tg R (.ref s.heap.objs.size) {s with heap:=s.heap.push o,toks:=tk}:=by
 refine⟨s.heap.objs.size,[s.heap.objs.size],d,J,H,rfl,I.kept λb j e=>bL _ e,T,st,λb g=>?_,q⟩;have e:b=s.heap.objs.size:=by simpa using g
 subst e;exact I.mY (bR _) (I.a9.fresh (bR _))
end
abbrev yX(lo c:Int)(n:Nat):It:=⟨λi _=>i<n,λi H x H'=>H'=H/\x=.int (lo+(i:Nat)*c),λi _=>n<=i⟩
def U4{K:br}(it:af)(lo c:Int)(n:Nat):Turn P w K tg (yX lo c n) [it] it (λi h=>IsRangeIter h it (lo+i*c) (n-i) c)where
 mem:=by simp
 obj:=λi h st b d=>by simp_all
 keep:=λi h h' st k=>k it (by simp) _ st;item:=by intro X L M N j i pins s σ H E I hf st q;subst L M N;obtain⟨z,B,O,F,G,J⟩:=hf it (by simp);haveI W:=Walks.range (prog:=X.prog) (w:=X.w) (I.ok.hd j) it lo c n;refine W.item i s _ _ q st λv h' tk S g kk=>?_;obtain⟨t,rfl⟩:=S;have U:Inv X pins σ H {s with heap:=h',toks:=tk}:=I.turned (λb o d e=>kk b o (by simp_all) e) z B F G J;exact⟨_,rfl,yy g rfl rfl (by decide) ⟨.int _,H,U,⟨t,rfl⟩,⟨rfl,rfl⟩,g,λb d=>(hf b d).1⟩⟩
 done:=by intro X L M N j i pins s σ H E I hf st q;obtain⟨z,B,O,F,G,J⟩:=hf it (by simp);exact abN (I.ok.hd j) st (by have:n<=i:=q;omega) λh' Y=>⟨rfl,I.turned (λb o d e=>Y b o d e) z B F G J⟩
 self:=λA i s Q E st h=>abO st h
abbrev Df(i j c:Int)(n:Nat):Prop:=c≠0/\c.natAbs<1073741824/\Bf i j c=true/\rM i j c=n
def Df.neg(n:-(2^62)<=i)(d:i<2^62)(q:-(2^62)<=j)(g:j<2^62):Df i j (-1) (i-j).toNat:=⟨by decide,by decide,PySem.W.small_down n d q g,PySem.W.rangeSize_downNat i j⟩
inductive J2(R:It->Hp->Prop)(vs:List V)(H1:Hp):Prop|mk:∀(i j c:Int)(n:Nat),vs=[.int i,.int j,.int c]->Df i j c n->R (yX i c n) H1->J2 R vs H1
abbrev J3(ta:TA):TI:=λσ H R=>ta σ H (J2 R)
section
variable{X:Cx}{tg:bp}
def U5(F:Gl X "range")(G:X.mg "range"=none)(J:PA X [a,b,c] ta)(L: ~~~(aB [a,b,c] X.env=(false,aP a X.env)::aB [b,c] X.env)) (hpl: ~~~((bF pos (aB [b,c] X.env)).any (·.1)=false)):PI X tg (.Call (.Name "range" p) [a,b,c] [] pos) (J3 ta):=by
 intro pins s σ H R I h;refine Call_ (k9 I F G boot_range (uw (ba (J pos pins s σ H _ I h) λus B z1=>?_) L hpl));obtain⟨vs,H1,M,N,O⟩:=z1;obtain⟨i,j,k,n,e,⟨S,U,W,Y⟩,q⟩:=O;subst e;cases N with
 |cons r d=>
  cases d with
  |cons Z d=>
   cases d with
   |cons g d=>
    cases d;obtain⟨t,rfl⟩:=r;obtain⟨t',rfl⟩:=Z;obtain⟨z,rfl⟩:=g;refine call_range_3 S ?_ (.inl (abQ U));refine wpAny_pyIter_range (abP ..) W ?_;haveI I2:Inv X pins σ H1 {B with heap:=B.heap.push {cls:=.type "range",data:=.fields #[.int i t,.int j t',.int k z]}}:=M.kept λb o e=>bL _ e;refine U3 I2 _ (U4 _ i k n) ?_ q;haveI e1:i+((0:Nat))*k=i:=by simp
    haveI e2:n-((0:Nat))=rM i j k:=by rw[Y];rfl
    rw[e1,e2];exact dL _ rfl
end
abbrev Dg(K:br)(a:af):It:=⟨λi H=>∃(xs:List V) (x:V),dG K H a xs/\xs[i]?=some x,λi H v H'=>∃T x,v=.ref T/\H T=none/\H'=upd H T (.tup [.int (i:Nat),x])/\∀xs,dG K H a xs->xs[i]?=some x,λi H=>∃xs:List V,dG K H a xs/\xs.length<=i⟩
def U6{K:br}(a e it:af):Turn P w K (.Tuple elts kk oA) (Dg K a) [e,it] e (λi h=>(∃d,lX h e it i d)/\h.IsListIter it a i/\e≠it)where
 mem:=by simp
 obj:=λi h st b j=>by obtain⟨⟨d,he⟩,⟨o,ho,G,hd⟩,_⟩:=st;grind
 keep:=λi h h' st k=>let⟨⟨d,he⟩,hi,g⟩:=st;⟨⟨d,k e (by simp) _ he⟩,hi.at λo q=>k it (by simp) o q,g⟩;item:=by
  intro X J L M G i pins s σ H E I hf st N;subst J L M;obtain⟨⟨d,he⟩,n,g⟩:=st;obtain⟨xs,x,F,O⟩:=N;obtain⟨its,S,p,hz⟩:=I.list F;obtain⟨u,hu,ru⟩:=S.get O;haveI U:=cu he;haveI vn:it<s.heap.objs.size:=by obtain⟨_,q,_⟩:=n;exact cu q
  refine wpAny_pyNext_enum_item he n p.isList (x:=u) (by simp_all) g λh' ho B hT hsz hk=>?_;refine⟨_,rfl,ab0 ho λng U7 Y=>?_⟩;haveI Z:=(Y.2 _ (lT U)).trans hT;haveI new:da X.prog X.w (upd H s.heap.objs.size (.tup [.int i,x])) ng s.heap.objs.size (.tup [.int i,x]):=⟨by show 2<=bj;decide,[.int i s.toks,u],.cons ⟨_,rfl⟩ (.cons ru .nil),⟨_,Z,rfl,_,rfl⟩⟩;haveI I1:Inv X pins σ _ {s with heap:=ng,toks:=s.toks+1}:=I.yW (λb ob j q=>(Y.2 b (λz=>j (by simp[z]))).trans (hk b ob (λz=>j (by simp[z])) (λz=>j (by simp[z])) q)) hf (bR _) new;refine⟨.ref s.heap.objs.size,_,I1,rfl,⟨_,x,rfl,I.a9.fresh (bR _),rfl,λys hy=>by rw[I.Cj hy F];exact O⟩,⟨⟨u,?_⟩,B.at λo q=>(Y.2 it (bK g)).trans q,g⟩,λb j=>?_⟩;·lia
  ·haveI U8:b<s.heap.objs.size:=by
    haveI e':b=e\/b=it:=by simpa using j
    rcases e' with z|z;·simp_all
    ·simp_all
   rw[aD (ea U8)];exact(hf b j).1
 done:=by intro X J L M G i pins s σ H E I hf st N;subst J L M;obtain⟨⟨d,he⟩,n,g⟩:=st;obtain⟨xs,F,O⟩:=N;obtain⟨its,S,p,hz⟩:=I.list F;obtain⟨f0,f1,f2,f3,f4,f5⟩:=hf it (by simp);haveI hl:=S.length;exact wpAny_pyNext_enum_end (I.ok.hd G) he n p.isList (by simp;omega) λh' eb=>⟨rfl,I.turned (λb o j q=>eb b o j q) f0 f1 f3 f4 f5⟩
 self:=λA i s Q E st h=>let⟨⟨_,he⟩,_⟩:=st;GH he h
inductive J4(K:br)(R:It->Hp->Prop)(vs:List V)(H1:Hp):Prop|mk:∀a xs,vs=[.ref a]->dG K H1 a xs->R (Dg K a) H1->J4 K R vs H1
abbrev U9(K:br)(ta:TA):TI:=λσ H R=>ta σ H (J4 K R)
def Va(F:Gl X "enumerate")(G:X.mg "enumerate"=none)(J:PA X [e] ta)(L: ~~~(aB [e] X.env=[(false,aP e X.env)])):PI X (.Tuple B kk oA) (.Call (.Name "enumerate" p) [e] [] pos) (U9 X.K ta):=by
 intro pins s σ H R I h;refine Call_ (k9 I F G boot_enumerate (uw (ba (J pos pins s σ H _ I h) λus d ⟨vs,H1,j,M,N⟩=>?_) L rfl));obtain⟨a,xs,ex,O,q⟩:=N;subst ex;cases M with
 |cons r S=>
  cases S;subst r;obtain⟨its,rv,U,hz⟩:=j.list O;refine call_enumerate_list U.isList λh' he n hsz W=>GH he ?_;haveI Y:=j.kept (t':=d.toks) W;refine⟨d.heap.objs.size+1,[d.heap.objs.size+1,d.heap.objs.size],_,_,H1,rfl,Y,U6 a _ _,⟨⟨.none,he⟩,n,ab1 _⟩,λb Z=>?_,q⟩;haveI e':b=d.heap.objs.size+1\/b=d.heap.objs.size:=by simpa using Z
  haveI g:d.heap.objs.size<=b:=by
   rcases e' with z|z;·simp_all
   ·simp_all
  exact j.mY g (j.a9.fresh g)
def Vb:ut "zip"=some (.type "zip"):=by decide+kernel
end L2
section
namespace Vc
open PySem PyProof.Rows
end Vc
end
section
namespace TL
open PySem PySem.Builtin PySem.Builtin.Str PySem.StrLaws
end TL
end
namespace L2
open PySem PySem.Spec PyProof.Rows
end L2
namespace L2
open PySem PySem.Spec PyProof.Rows
end L2
namespace Vd
open PySem PySem.W PySem.Calls PyProof.Rows
end Vd
namespace L2
open PySem PySem.Spec PyProof.Rows
end L2
namespace L2
open PySem PySem.Spec PyProof.Rows
end L2
namespace L2
open PySem PySem.Spec PyProof.Rows
@[reducible]def aS:hU:=λ_ _ _ _ _ _=>False
@[reducible]def E0:XK:=λ_ _ _=>False
structure cU(K:br)(x qual:ag)(st:dm)(f:af)(fd:eQ):Prop where
 ex:∃(oc:aj)(od:Option af)(kV doc pm:aj)(an:Option af)(gw ct:aj)(Dh:Array (Option aj)),fd=rp x qual (r9 st) (g7 st) (bx st) .none kV doc pm an gw ct/\K.lookup f=some ⟨oc,od,.func fd,Dh⟩/\Gc K gw qual=true
 kp:jJ K (.ref f)=true
section
variable{P:bA}{w:bB}{K:br}{mg:ag->Option aj}{base:aZ}
def cU.ok{st:dm}(F:cU K x qual st f fd)(S:du N ps (bx st))(len:∀vs H Q E,sp vs H Q E->vs.length=ps.length)(g:∀(d:aj)(A:cG)(outer:List Env)(s:ar)(H:Hp)(vs:List V)(Q:VK)(E:XK),bO k (A.deeper (gY qual (bx st) s.heap.objs.size f d))->sp vs H Q E->∃t,df (hV aS P w K mg base N qual (bx st) f d A outer s H E).kB (g7 st) t/\t {nx:=λ_ H'=>Q .ah H',rt:=Q} (start N vs) H):bS P w K mg base aS (k+1) f fd ps sp:=by obtain⟨I,J,kV,z,L,M,d,ct,B,rfl,lk,j⟩:=F.ex;refine yH lk j S len λA outer s H vs Q E G n=>?_;obtain⟨t,h,q⟩:=g d A outer s H vs Q E G n;exact⟨t,h.kB,q⟩
def cU.binds{st:dm}(F:cU K x qual st f fd)(h:∀(kV d j:aj)(n:Option af)(g ct:aj)(us:List aj),us.length=ps.length->Ba (rp x qual (r9 st) (g7 st) (bx st) .none kV d j n g ct) ⟨us,[]⟩=pure (ps.zip us)):Binds K fd ps []:=by obtain⟨B,G,kV,d,j,n,g,ct,q,rfl,lk,z⟩:=F.ex;exact .all (h kV d j n g ct)
def Ve{st:dm}{kV g j d ct:aj}(l:K.lookup f=some ⟨z,B,.func (rp x qual (r9 st) (g7 st) (bx st) .none kV g j q d ct),n⟩)(c:Gc K d qual=true)(k:jJ K (.ref f)=true):cU K x qual st f (rp x qual (r9 st) (g7 st) (bx st) .none kV g j q d ct):=⟨(by exact⟨z,B,kV,g,j,q,d,ct,n,rfl,l,c⟩),k⟩
end
def fB(d:bO k A):A.units+1<dU:=Rf (Bg (by decide) _) d.units
section
variable{X:Cx}
def pv(i:Nat)(g: ~~~(X.N[i]?=some x)) (j:fP X.env.scope x:=by first|exact cy rfl|exact bM (cy rfl)|exact bM (bM rfl)) (n:((x==("__debug__":ag))=false)⁻¹) (d:((x==("__classdict__":ag))=false)⁻¹):PE X (.Name x pos) (d5 i):=S3 g j n d
end
abbrev aG(H H':Hp):Prop:=∀b o,H b=some o->H' b=some o
def aG.refl(H:Hp):aG H H:=λ_ _ h=>h
def aG.trans(a:aG H H1)(b:aG H1 H2):aG H H2:=λc o h=>b c o (a c o h)
def aG.free(e:aG H H')(h:H' l=Option.none):H l=Option.none:=by cases q:H l with|none=>rfl|some o=>rw[e l o q]at h;contradiction
def aG.seq{K:br}(e:aG H H')(h:dG K H a xs):dG K H' a xs:=by
 rcases h with(h|⟨o,h⟩)|h;·exact .inl (.inl (e _ _ h))
 ·exact .inl (.inr ⟨o,e _ _ h⟩)
 ·exact .inr h
end L2
end
namespace DL
open PySem L2
inductive D where|ah|bl(b:Bool)|int(i:Int)|str(x:ag)|fn(t:Nat)|lst(xs:List D)|tup(xs:List D)|ins(c:Nat)(fs:List D)|dk(ks:List Int)(vs:List D)|dt(ks:List (List Int))(vs:List D)|tk(k:List Int)|adr(a:af)
structure Gx where
 K:br
 cm:Nat->af
 fm:Nat->af
 eh:Nat->List ag
 xv:Nat->aj
 me:af->Prop
mutual
def Rep(G:Gx)(O:af->Prop)(H:Hp):D->V->Prop|.ah,v=>v=.ah|.bl b,v=>v=.bl b|.int i,v=>v=.int i|.str x,v=>v=.str x|.fn t,v=>v=.ref (G.fm t)|.lst ds,v=>∃a vs,v=.ref a/\Rd H a (.lst vs)/\¬O a/\aU G O H ds vs|.tup ds,v=>∃a vs,v=.ref a/\cS G.K H a vs/\aU G O H ds vs|.ins c ds,v=>∃a dx vs,v=.ref a/\H a=some (.ins (G.cm c) dx ((G.eh c).zip vs))/\(G.eh c).length=vs.length/\¬O a/\aU G O H ds vs|.dk ks ds,v=>∃a vs,v=.ref a/\H a=some (.dK ((ks.map dW).zip vs))/\ks.length=vs.length/\¬O a/\aU G O H ds vs|.dt ks ds,v=>∃a vs,v=.ref a/\H a=some (.dT ((ks.map λk=>k.map dW).zip vs))/\ks.length=vs.length/\¬O a/\aU G O H ds vs|.tk k,v=>∃a,v=.ref a/\H a=some (.tup (k.map V.int))|.adr a,v=>v=.ref a
def aU(G:Gx)(O:af->Prop)(H:Hp):List D->List V->Prop|[],vs=>vs=[]|d::ds,vs=>∃v r,vs=v::r/\Rep G O H d v/\aU G O H ds r
end
abbrev oH(o:HO):Prop:=(∃xs,o=.tup xs)\/∃a xs,o=.il a (.tup xs)
abbrev Kp(P:af->Prop)(H H':Hp):Prop:=∀b o,H b=some o->(¬P b\/oH o)->H' b=some o
def Kp.of(h:aG H H'):Kp P H H':=λb o e _=>h b o e
def Kp.rd(k:Kp P H H')(n:¬P a)(h:Rd H a u):Rd H' a u:=by
 rcases h with h|⟨o,h⟩;·exact .inl (k _ _ h (.inl n))
 ·exact .inr ⟨o,k _ _ h (.inl n)⟩
def Kp.qd(k:Kp P H H')(h:cS K H a vs):cS K H' a vs:=by
 rcases h with(h|⟨o,h⟩)|h;·exact .inl (.inl (k _ _ h (.inr (.inl ⟨_,rfl⟩))))
 ·exact .inl (.inr ⟨o,k _ _ h (.inr (.inr ⟨_,_,rfl⟩))⟩)
 ·exact .inr h
def J5(h:Rd H a u):H a≠none:=by rcases h with h|⟨o,h⟩<;>rw[h]<;>simp
section
variable{G:Gx}{O O':af->Prop}{H H':Hp}
mutual
theorem Rep.mono(k:Kp O H H')(b:∀a,O' a->O a\/H a=none):∀{d:D}{v:V},Rep G O H d v->Rep G O' H' d v|.ah,_,h=>h|.bl _,_,h=>h|.int _,_,h=>h|.str _,_,h=>h|.fn _,_,h=>h|.lst ds,_,⟨a,vs,e,r,n,l⟩=>⟨a,vs,e,k.rd n r,λz=>(b a z).elim n (λw=>J5 r w),aU.mono k b l⟩|.tup ds,_,⟨a,vs,e,r,l⟩=>⟨a,vs,e,k.qd r,aU.mono k b l⟩|.ins c ds,_,⟨a,dx,vs,e,r,z,n,l⟩=>⟨a,dx,vs,e,k _ _ r (.inl n),z,λq=>(b a q).elim n (λw=>by rw[r]at w;cases w),aU.mono k b l⟩|.dk ks ds,_,⟨a,vs,e,r,z,n,l⟩=>⟨a,vs,e,k _ _ r (.inl n),z,λq=>(b a q).elim n (λw=>by rw[r]at w;cases w),aU.mono k b l⟩|.dt ks ds,_,⟨a,vs,e,r,z,n,l⟩=>⟨a,vs,e,k _ _ r (.inl n),z,λq=>(b a q).elim n (λw=>by rw[r]at w;cases w),aU.mono k b l⟩|.tk _,_,⟨a,e,r⟩=>⟨a,e,k _ _ r (.inr (.inl ⟨_,rfl⟩))⟩|.adr _,_,h=>h
theorem aU.mono (k:Kp O H H') (b:∀a,O' a->O a\/H a=none):∀{ds:List D} {vs:List V},aU G O H ds vs->aU G O' H' ds vs|[],_,h=>h|_::_,_,⟨v,r,e,h,l⟩=>⟨v,r,e,Rep.mono k b h,aU.mono k b l⟩end
def Rep.keep(k:aG H H')(h:Rep G O H d v):Rep G O H' d v:=h.mono (Kp.of k) λ_ z=>.inl z
def aU.keep(k:aG H H')(h:aU G O H d v):aU G O H' d v:=h.mono (Kp.of k) λ_ z=>.inl z
def aU.length:∀{ds:List D}{vs:List V},aU G O H ds vs->ds.length=vs.length|[],_,h=>by subst h;rfl|_::_,_,⟨v,r,e,_,l⟩=>by subst e;simp[l.length]
def aU.get:∀{ds:List D}{vs:List V}{i:Nat}{d:D},aU G O H ds vs->ds[i]?=some d->∃v,vs[i]?=some v/\Rep G O H d v|[],_,_,_,_,e=>by simp at e|_::_,_,0,_,⟨v,r,e,h,_⟩,q=>by simp at q;subst q;subst e;exact⟨v,rfl,h⟩|_::_,_,i+1,d,⟨v,r,e,_,l⟩,q=>by subst e;obtain⟨w,a,b⟩:=l.get (i:=i) (d:=d) (by simpa using q);exact⟨w,by simpa using a,b⟩
def aU.app:∀{ds a:List D}{vs b:List V},aU G O H ds vs->aU G O H a b->aU G O H (ds++a) (vs++b)|[],_,_,_,h,l=>by subst h;exact l|_::_,_,_,_,⟨v,r,e,h,l⟩,c=>by subst e;exact⟨v,r++_,rfl,h,l.app c⟩
def aU.one(h:Rep G O H d v):aU G O H [d] [v]:=⟨v,[],rfl,h,rfl⟩
def aU.set:∀{ds:List D}{vs:List V}(i:Nat){d:D}{v:V},aU G O H ds vs->Rep G O H d v->aU G O H (ds.set i d) (vs.set i v)|[],_,_,_,_,h,_=>by subst h;rfl|_::_,_,0,_,_,⟨v,r,e,h,l⟩,q=>by subst e;exact⟨_,r,rfl,q,l⟩|_::_,_,i+1,_,_,⟨v,r,e,h,l⟩,q=>by subst e;exact⟨v,r.set i _,rfl,h,l.set i q⟩
def aU.take:∀{ds:List D}{vs:List V}(n:Nat),aU G O H ds vs->aU G O H (ds.take n) (vs.take n)|[],_,n,h=>by subst h;simp<;>rfl|_::_,_,0,_=>rfl|_::_,_,n+1,⟨v,r,e,h,l⟩=>by subst e;exact⟨v,r.take n,rfl,h,l.take n⟩
def aU.drop:∀{ds:List D}{vs:List V}(n:Nat),aU G O H ds vs->aU G O H (ds.drop n) (vs.drop n)|[],_,n,h=>by subst h;simp<;>rfl|_::_,_,0,h=>h|_::_,_,n+1,⟨v,r,e,h,l⟩=>by subst e;exact l.drop n
def aU.ints:∀{ns:List Int}{vs:List V},aU G O H (ns.map D.int) vs->vs=ns.map V.int|[],_,h=>h|_::_,_,⟨v,r,e,h,l⟩=>by subst e;subst h;rw[aU.ints l];rfl
def aU.sN:∀(ns:List Int),aU G O H (ns.map D.int) (ns.map V.int)|[]=>rfl|n::ns=>⟨_,_,rfl,rfl,aU.sN ns⟩
def aU.qb:∀{ns:List Bool}{vs:List V},aU G O H (ns.map D.bl) vs->vs=ns.map V.bl|[],_,h=>h|_::_,_,⟨v,r,e,h,l⟩=>by subst e;subst h;rw[aU.qb l];rfl
end
inductive R(α:Type)where|bad|exc(c:Nat)|ok(a:α)
abbrev R.bind{b d:Type}:R b->(b->R d)->R d|.bad,_=>.bad|.exc c,_=>.exc c|.ok a,k=>k a
abbrev Fin{d:Type}(r:R d)(good:d->Prop)(b:Nat->Prop):Prop:=match r with|.bad=>False|.exc c=>b c|.ok a=>good a
@[simp]theorem acN{a b:Type}(k:a->R b):R.bind .bad k=.bad:=rfl
@[simp]theorem acO{a b:Type}(c:Nat)(k:a->R b):R.bind (.exc c) k=.exc c:=rfl
@[simp]theorem ai{b c:Type}(a:b)(k:b->R c):R.bind (.ok a) k=k a:=rfl
inductive Slot where|ah|val(d:D)|aL(ds:List D)|dv(c:Nat)(ds:List D)|f7(ks:List Int)(ds:List D)|eH(ks:List (List Int))(ds:List D)
abbrev Slot.owned:Slot->Bool|.ah=>false|.val _=>false|_=>true
abbrev Slot.vo:Slot->Bool|.dv _ _=>true|_=>false
@[reducible]def Env:=List Slot
abbrev oI(G:Gx)(P:af->Prop)(H:Hp):Slot->Option V->Prop|.ah,_=>True|.val d,b=>∃v,b=some v/\Rep G P H d v|.aL ds,b=>∃a vs,b=some (.ref a)/\P a/\H a=some (.lst vs)/\aU G P H ds vs|.dv c ds,b=>∃a dx vs,b=some (.ref a)/\P a/\H a=some (.ins (G.cm c) dx ((G.eh c).zip vs))/\vs.length<=(G.eh c).length/\aU G P H ds vs|.f7 ks ds,b=>∃a vs,b=some (.ref a)/\P a/\H a=some (.dK ((ks.map dW).zip vs))/\ks.length=vs.length/\aU G P H ds vs|.eH ks ds,b=>∃a vs,b=some (.ref a)/\P a/\H a=some (.dT ((ks.map λk=>k.map dW).zip vs))/\ks.length=vs.length/\aU G P H ds vs
def oI.keep(k:aG H H')(h:oI G P H s b):oI G P H' s b:=by cases s with|ah=>trivial|val d=>obtain⟨v,e,r⟩:=h;exact⟨v,e,r.keep k⟩|aL ds=>obtain⟨a,vs,e,p,q,l⟩:=h;exact⟨a,vs,e,p,k _ _ q,l.keep k⟩|dv c ds=>obtain⟨a,dx,vs,e,p,q,z,l⟩:=h;exact⟨a,dx,vs,e,p,k _ _ q,z,l.keep k⟩|f7 ks ds=>obtain⟨a,vs,e,p,q,z,l⟩:=h;exact⟨a,vs,e,p,k _ _ q,z,l.keep k⟩|eH ks ds=>obtain⟨a,vs,e,p,q,z,l⟩:=h;exact⟨a,vs,e,p,k _ _ q,z,l.keep k⟩
structure RV(G:Gx)(P:af->Prop)(σ:St)(H:Hp)(ρ:Env):Prop where
 len:σ.length=ρ.length
 at_:∀(i:Nat)(s:Slot)(ov:Option V),ρ[i]?=some s->σ[i]?=some ov->oI G P H s ov
 bI:∀a,P a->H a≠none
def jX{P:af->Prop}(d:∀a,P a->H a≠none)(k:aG H H'):∀a,P a->H' a≠none:=λa p z=>by cases e:H a with|none=>simp_all|some o=>rw[k a o e]at z;contradiction
def RV.keep(r:RV G P σ H ρ)(k:aG H H'):RV G P σ H' ρ:=⟨r.len,λi s a e b=>(r.at_ i s a e b).keep k,jX r.bI k⟩
def RV.val(r:RV G P σ H ρ){i:Nat}(e:ρ[i]?=some (.val d)):∃v,σ[i]?=some (some v)/\Rep G P H d v:=by
 obtain⟨a,_⟩:=gg.mp e;have b:i<σ.length:=by rw[r.len];exact a
 obtain⟨v,c,f⟩:=r.at_ i _ σ[i] e (cI b);simp_all
def RV.aL(r:RV G P σ H ρ){i:Nat}(e:ρ[i]?=some (.aL ds)):∃a vs,σ[i]?=some (some (.ref a))/\P a/\H a=some (.lst vs)/\aU G P H ds vs:=by
 obtain⟨b,_⟩:=gg.mp e;have c:i<σ.length:=by rw[r.len];exact b
 obtain⟨a,vs,d,f⟩:=r.at_ i _ σ[i] e (cI c);simp_all
abbrev eY(G:Gx)(Ew:Nat->Hp->Prop)(P:af->Prop)(H:Hp)(r:R D)(Q:VK):Prop:=Fin r (λd=>∀v H',aG H H'->Rep G P H' d v->Q v H') (λc=>∀H',aG H H'->Ew c H')
inductive ap(G:Gx)(Ew:Nat->Hp->Prop)(E:Env->R D)(σ:St)(H:Hp)(Q:VK):Prop|mk:∀P ρ,RV G P σ H ρ->eY G Ew P H (E ρ) Q->ap G Ew E σ H Q
section
variable{G:Gx}{Ew:Nat->Hp->Prop}{P:af->Prop}{σ:St}{H H':Hp}{ρ:Env}{Q Q':VK}
def ap.imp(h:ap G Ew E σ H Q)(k:∀v H',Q v H'->Q' v H'):ap G Ew E σ H Q':=by obtain⟨P,ρ,b,h⟩:=h;refine⟨P,ρ,b,?_⟩;cases a:E ρ with|bad=>rw[a]at h;exact h|exc c=>rw[a]at h;exact h|ok d=>rw[a]at h;exactλv H' s r=>k _ _ (h v H' s r)
inductive Vf(G:Gx)(Ew:Nat->Hp->Prop)(P:af->Prop)(σ:St)(H:Hp)(ρ:Env)(k:D->R D)(Q:VK)(v:V)(H1:Hp):Prop|mk:∀d,aG H H1->Rep G P H1 d v->RV G P σ H1 ρ->eY G Ew P H1 (k d) Q->Vf G Ew P σ H ρ k Q v H1
def step(g:RV G P σ H ρ)(h:eY G Ew P H ((i ρ).bind k) Q):ap G Ew i σ H (λv a=>∃d,aG H a/\Rep G P a d v/\RV G P σ a ρ/\eY G Ew P a (k d) Q):=by refine⟨P,ρ,g,?_⟩;cases b:i ρ with|bad=>rw[b]at h;exact h|exc c=>rw[b]at h;exact h|ok d=>rw[b]at h;intro v a s r;refine⟨d,s,r,g.keep s,?_⟩;cases e:k d with|bad=>rw[ai,e]at h;exact h|exc c=>rw[ai,e]at h;exactλH' f=>h H' (s.trans f)|ok m=>rw[ai,e]at h;exactλj H' f l=>h j H' (s.trans f) l
def eY.done(h:eY G Ew P H (.ok d) Q)(r:Rep G P H d v):Q v H:=h v H (aG.refl H) r
end
section
variable{G:Gx}{Ew:Nat->Hp->Prop}{P:af->Prop}{σ:St}{H H':Hp}{ρ:Env}{Q Q':VK}
def cY(h:H p=none):aG H (upd H p o):=λb u e=>by rw[aD (im e h)];exact e
abbrev aa(i:Nat):Env->R D:=λρ=>match ρ[i]?with|some (.val d)=>.ok d|_=>.bad
def Vg(h:ap G Ew (aa i) σ H Q):d5 i σ H Q:=by
 obtain⟨P,ρ,a,h⟩:=h;delta aa at h;split at h;·rename_i d e;obtain⟨v,b,r⟩:=a.val e;exact⟨v,b,h.done r⟩
 ·exact h.elim
abbrev eC(d:D):Env->R D:=λ_=>.ok d
def sO(a:∀P H,Rep G P H d v)(h:ap G Ew (eC d) σ H Q):tC v σ H Q:=by obtain⟨P,ρ,b,h⟩:=h;exact h.done (a _ _)
abbrev mh(x y:D)(k:Int->Int->R D):R D:=match x,y with|.int i,.int j=>k i j|_,_=>.bad
@[simp]theorem sP(i j:Int)(k:Int->Int->R D):mh (.int i) (.int j) k=k i j:=rfl
def vp(h:eY G Ew P H (mh x y k) Q):∃i j,x=.int i/\y=.int j/\eY G Ew P H (k i j) Q:=by
 cases x<;>first|(exact h.elim)|skip
 cases y<;>first|(exact h.elim)|skip
 simp_all
abbrev aM(C:Int->Int->Bool)(f:Int->Int->D)(a b:Env->R D):Env->R D:=λρ=>(a ρ).bind λx=>(b ρ).bind λy=>mh x y λi j=>if C i j=true then .ok (f i j)else .bad
def Di(c:∀i j,C i j=true->d i j)(e:∀i j P H,Rep G P H (f i j) (g i j))(h:ap G Ew (aM C f k l) σ H Q):fA (rI d g) (ap G Ew k) (ap G Ew l) σ H Q:=by
 obtain⟨P,ρ,m,h⟩:=h;refine(step m h).imp λv t z1=>?_;obtain⟨x,w,n,a,o⟩:=z1;refine(step a o).imp λu z z2=>?_;obtain⟨y,A,p,q,r⟩:=z2;obtain⟨i,j,rfl,rfl,b⟩:=vp r;split at b;·rename_i s;exact⟨i,j,n,p,c i j s,b.done (e i j _ _)⟩
 ·exact b.elim
def mi(c:∀i j P H,Rep G P H (f i j) (g i j))(h:ap G Ew (aM (λ_ _=>true) f d e) σ H Q):fA (hP g) (ap G Ew d) (ap G Ew e) σ H Q:=by obtain⟨P,ρ,k,h⟩:=h;refine(step k h).imp λv p z1=>?_;obtain⟨x,q,l,a,m⟩:=z1;refine(step a m).imp λu r z2=>?_;obtain⟨y,s,n,o,b⟩:=z2;obtain⟨i,j,rfl,rfl,b⟩:=vp b;exact⟨i,j,l,n,b.done (c i j _ _)⟩
inductive cD(G:Gx)(Ew:Nat->Hp->Prop)(E:Env->R (List D))(σ:St)(H:Hp)(Q:VK):Prop|mk:∀P ρ,RV G P σ H ρ->(Fin (E ρ) (λds=>∀a vs H',aG H H'->Rd H' a (.lst vs)->aU G P H' ds vs->Q (.ref a) H') (λc=>∀H',aG H H'->Ew c H'))->cD G Ew E σ H Q
abbrev eL(E:Env->R D):Env->R (List D):=λρ=>(E ρ).bind λd=>match d with|.lst ds=>.ok ds|_=>.bad
def Vh(h:cD G Ew (eL E) σ H Q):ap G Ew E σ H Q:=by obtain⟨P,ρ,f,h⟩:=h;refine⟨P,ρ,f,?_⟩;delta eL at h;cases b:E ρ with|bad=>rw[b]at h;exact h|exc c=>rw[b]at h;exact h|ok d=>rw[b]at h;intro v H' s r;cases d with|lst ds=>obtain⟨a,vs,e,q,n,l⟩:=r;subst e;exact h a vs H' s q l|_=>exact h.elim
abbrev fC(i:Nat):Env->R (List D):=λρ=>match ρ[i]?with|some (.aL ds)=>.ok ds|_=>.bad
def Vi(h:cD G Ew (fC i) σ H Q):d5 i σ H Q:=by
 obtain⟨P,ρ,b,h⟩:=h;delta fC at h;split at h;·rename_i ds e;obtain⟨a,vs,c,p,q,l⟩:=b.aL e;exact⟨.ref a,c,h a vs H (aG.refl H) (.inl q) l⟩
 ·exact h.elim
def cD.imp(h:cD G Ew E σ H Q)(k:∀v H',Q v H'->Q' v H'):cD G Ew E σ H Q':=by obtain⟨P,ρ,e,h⟩:=h;refine⟨P,ρ,e,?_⟩;cases b:E ρ with|bad=>rw[b]at h;exact h|exc c=>rw[b]at h;exact h|ok d=>rw[b]at h;exactλa vs H' s r l=>k _ _ (h a vs H' s r l)
inductive J6(G:Gx)(Ew:Nat->Hp->Prop)(P:af->Prop)(σ:St)(H:Hp)(ρ:Env)(k:List D->R D)(Q:VK)(v:V)(H1:Hp):Prop|mk:∀ds a vs,v=.ref a->aG H H1->Rd H1 a (.lst vs)->aU G P H1 ds vs->RV G P σ H1 ρ->eY G Ew P H1 (k ds) Q->J6 G Ew P σ H ρ k Q v H1
def jx{b:Env->R (List D)}{k:List D->R D}(i:RV G P σ H ρ)(h:eY G Ew P H ((b ρ).bind k) Q):cD G Ew b σ H (J6 G Ew P σ H ρ k Q):=by
 refine⟨P,ρ,i,?_⟩;delta eY at*
 cases e:b ρ with|bad=>rw[e]at h;exact h|exc c=>rw[e]at h;exact h|ok d=>rw[e]at h;intro a vs n s r l;refine⟨d,a,vs,rfl,s,r,l,i.keep s,?_⟩;cases f:k d with|bad=>rw[ai,f]at h;exact h|exc c=>rw[ai,f]at h;exactλH' g=>h H' (s.trans g)|ok o=>rw[ai,f]at h;exactλj H' g m=>h j H' (s.trans g) m
def qe(s:aG H H')(h:Rd H a u):Rd H' a u:=by
 rcases h with h|⟨o,h⟩;·exact .inl (s _ _ h)
 ·exact .inr ⟨o,s _ _ h⟩
def vq(b:RV G P σ H ρ)(l:aU G P H ds vs)(h:eY G Ew P H (.ok (.lst ds)) Q)(a:H p=none):Q (.ref p) (upd H p (.lst vs)):=h _ _ (cY a) ⟨p,vs,rfl,.inl aW,λz=>b.bI p z a,l.keep (cY a)⟩
inductive Dj(x:V)(y:V)(H:Hp)(Q:VK):Prop|mk:∀l b xs zs,x=.ref l->y=.ref b->Rd H l (.lst xs)->Rd H b (.lst zs)->xs.length+zs.length<=bj->(∀p,H p=none->Q (.ref p) (upd H p (.lst (xs++zs))))->Dj x y H Q
abbrev sQ(a b:Env->R (List D)):Env->R D:=λρ=>(a ρ).bind λx=>(b ρ).bind λy=>if x.length+y.length<=bj then .ok (.lst (x++y))else .bad
def Vj(h:ap G Ew (sQ j k) σ H Q):fA Dj (cD G Ew j) (cD G Ew k) σ H Q:=by
 obtain⟨P,ρ,l,h⟩:=h;refine(jx l h).imp λv y z1=>?_;obtain⟨xs,a,vs,m,z,n,o,d,q⟩:=z1;refine(jx d q).imp λu A z2=>?_;obtain⟨B,b,r,s,g,t,i,e,f⟩:=z2;have c:=o.keep g;split at f;·rename_i w;exact⟨a,b,vs,r,m,s,qe g n,t,by rw[<-c.length,<-i.length];exact w,λp x=>vq e (c.app i) f x⟩
 ·exact f.elim
abbrev sR:D->D->Option Bool|.int i,.int j=>some (decide (i=j))|.bl i,.bl j=>some (decide (i=j))|.str i,.str j=>some (decide (i=j))|.ah,.ah=>some true|.ah,.int _=>some false|.int _,.ah=>some false|_,_=>none
abbrev bC(a:Bool)(c d:Env->R D):Env->R D:=λρ=>(c ρ).bind λx=>(d ρ).bind λy=>match sR x y with|some b=>.ok (.bl (if a then !b else b))|none=>.bad
def nS{a:Type}{b:a}{p:Prop}(h:none=some b):p:=by cases h
def J7{x y:D}{v u:V}{b:Bool}{P d:af->Prop}{e f:Hp}(a:Rep G P e x v)(c:Rep G d f y u)(h:sR x y=some b):Cz v u=true/\decide (v=u)=b:=by
 cases x with
 |int i=>cases y with|int j=>subst a;subst c;cases h;exact⟨rfl,jq.2 ⟨V.int.inj,bz _⟩⟩|ah=>subst a;subst c;cases h;exact⟨rfl,rfl⟩|_=>exact nS h
 |bl i=>cases y with|bl j=>subst a;subst c;cases h;exact⟨rfl,jq.2 ⟨V.bl.inj,bz _⟩⟩|_=>exact nS h
 |str i=>cases y with|str j=>subst a;subst c;cases h;exact⟨rfl,jq.2 ⟨V.str.inj,bz _⟩⟩|_=>exact nS h
 |ah=>cases y with|int j=>subst a;subst c;cases h;exact⟨rfl,rfl⟩|ah=>subst a;subst c;cases h;exact⟨rfl,rfl⟩|_=>exact nS h
 |_=>exact nS h
def J8(h:ap G Ew (bC false d e) σ H Q):fA CA (ap G Ew d) (ap G Ew e) σ H Q:=by
 obtain⟨P,ρ,f,h⟩:=h;refine(step f h).imp λv o z1=>?_;obtain⟨x,p,g,a,i⟩:=z1;refine(step a i).imp λu q z2=>?_;obtain⟨y,r,j,k,c⟩:=z2;split at c;·rename_i b l;obtain⟨m,n⟩:=J7 g j l;exact⟨m,by rw[n];exact c.done rfl⟩
 ·exact c.elim
def J9(h:ap G Ew (bC true d e) σ H Q):fA II (ap G Ew d) (ap G Ew e) σ H Q:=by
 obtain⟨P,ρ,f,h⟩:=h;refine(step f h).imp λv o z1=>?_;obtain⟨x,p,g,a,i⟩:=z1;refine(step a i).imp λu q z2=>?_;obtain⟨y,r,j,k,c⟩:=z2;split at c;·rename_i b l;obtain⟨m,n⟩:=J7 g j l;exact⟨m,by rw[n];exact c.done rfl⟩
 ·exact c.elim
abbrev ints?:List D->Option (List Int)|[]=>some []|.int i::r=>(ints? r).map (i::·)|_=>none
def ints_map(ns:List Int):ints? (ns.map D.int)=some ns:=by induction ns with|nil=>rfl|cons n r a=>exact bz (Option.map (n::·)) a
def lm:∀{ds:List D}{ns:List Int},ints? ds=some ns->ds=ns.map D.int|[],_,h=>by cases h;rfl|.int i::r,_,h=>by simp[ints?]at h;obtain⟨a,e,rfl⟩:=h;rw[lm e];rfl|.ah::_,_,h=>by simp[ints?]at h|.bl _::_,_,h=>by simp[ints?]at h|.str _::_,_,h=>by simp[ints?]at h|.fn _::_,_,h=>by simp[ints?]at h|.lst _::_,_,h=>by simp[ints?]at h|.tup _::_,_,h=>by simp[ints?]at h|.ins _ _::_,_,h=>by simp[ints?]at h|.dk _ _::_,_,h=>by simp[ints?]at h|.dt _ _::_,_,h=>by simp[ints?]at h|.tk _::_,_,h=>by simp[ints?]at h|.adr _::_,_,h=>by simp[ints?]at h
abbrev h7(f:List Int->List Int->Bool)(a b:Env->R (List D)):Env->R D:=λρ=>(a ρ).bind λx=>(b ρ).bind λy=>match ints? x,ints? y with|some ns,some c=>.ok (.bl (f ns c))|_,_=>.bad
inductive yY(f:List Int->List Int->Bool)(x:V)(y:V)(H:Hp)(Q:VK):Prop|mk:∀a b ns ms,x=.ref a->y=.ref b->Rd H a (.lst (ns.map V.int))->Rd H b (.lst (ms.map V.int))->Q (.bl (f ns ms)) H->yY f x y H Q
def yZ(h:ap G Ew (h7 f k l) σ H Q):fA (yY f) (cD G Ew k) (cD G Ew l) σ H Q:=by
 obtain⟨P,ρ,m,h⟩:=h;refine(jx m h).imp λv x z1=>?_;obtain⟨xs,a,vs,n,y,e,g,c,o⟩:=z1;refine(jx c o).imp λu z z2=>?_;obtain⟨A,b,B,p,q,i,j,r,d⟩:=z2;split at d;·rename_i ns s t w;rw[lm t]at g;rw[lm w]at j;rw[g.ints]at e;rw[j.ints]at i;exact⟨a,b,ns,s,n,p,qe q e,i,d.done rfl⟩
 ·exact d.elim
abbrev jY(a:Bool)(b:Env->R D):Env->R D:=λρ=>(b ρ).bind λx=>.ok (.bl (match x with|.ah=>!a|_=>a))
def Vk(h:Rep G P H d v):decide (v=.ah)=(match d with|.ah=>true|_=>false):=by cases d with|ah=>subst h;rfl|bl _=>subst h;rfl|int _=>subst h;rfl|str _=>subst h;rfl|fn _=>subst h;rfl|lst _=>obtain⟨a,vs,e,_⟩:=h;lia|tup _=>obtain⟨a,vs,e,_⟩:=h;lia|ins _ _=>obtain⟨a,dx,vs,e,_⟩:=h;lia|dk _ _=>obtain⟨a,vs,e,_⟩:=h;lia|dt _ _=>obtain⟨a,vs,e,_⟩:=h;lia|tk _=>obtain⟨a,e,_⟩:=h;lia|adr _=>subst h;rfl
def Vl(h:ap G Ew (jY true a) σ H Q):HR (ap G Ew a) σ H Q:=by obtain⟨P,ρ,b,h⟩:=h;refine(step b h).imp λv f z1=>?_;obtain⟨x,g,c,d,e⟩:=z1;rw[Vk c];refine e.done ?_;cases x<;>rfl
abbrev ez(p q:Int->Int->Bool)(a b c:Env->R D):Env->R D:=λρ=>(a ρ).bind λx=>(b ρ).bind λy=>mh x y λi j=>if p i j=true then(c ρ).bind λz=>mh (.int j) z λj k=>.ok (.bl (q j k))else .ok (.bl false)
def Ka(h:ap G Ew (ez p q g l m) σ H Q):CB (hP λi j=>.bl (p i j)) (hP λi j=>.bl (q i j)) (ap G Ew g) (ap G Ew l) (ap G Ew m) σ H Q:=by
 obtain⟨P,ρ,n,h⟩:=h;refine(step n h).imp λv E z1=>?_;obtain⟨x,F,o,b,r⟩:=z1;refine(step b r).imp λu I z2=>?_;obtain⟨y,J,f,c,s⟩:=z2;obtain⟨i,j,rfl,rfl,a⟩:=vp s;refine⟨i,j,o,f,p i j,rfl,?_⟩;split;·rename_i d;rw[ax d]at a;refine(step c a).imp λw L z3=>?_;obtain⟨z,M,t,A,B⟩:=z3;obtain⟨N,k,e,rfl,C⟩:=vp B;cases e;exact⟨j,k,f,t,C.done rfl⟩
 ·rename_i d;rw[ay d]at a;exact a.done rfl
abbrev f8(a b:Env->R D):Env->R D:=λρ=>(a ρ).bind λx=>match x with|.bl c=>if c=true then b ρ else .ok (.bl false)|_=>.bad
abbrev oJ(a b:Env->R D):Env->R D:=λρ=>(a ρ).bind λx=>match x with|.bl c=>if c=true then .ok (.bl true)else b ρ|_=>.bad
abbrev ln(a:Env->R D):Env->R D:=λρ=>(a ρ).bind λx=>match x with|.bl c=>.ok (.bl (!c))|_=>.bad
def Vm(h:ap G Ew (f8 e f) σ H Q):HZ (ap G Ew e) (ap G Ew f) σ H Q:=by
 obtain⟨P,ρ,g,h⟩:=h;refine(step g h).imp λv j z1=>?_;obtain⟨x,k,i,b,a⟩:=z1;split at a
 ·rename_i c;refine⟨c,i,?_⟩;split;·rename_i d;rw[ax d]at a;exact⟨P,ρ,b,a⟩
  ·rename_i d;rw[ay d]at a;exact a.done rfl
 ·exact a.elim
def Vn(h:ap G Ew (oJ e f) σ H Q):Ia (ap G Ew e) (ap G Ew f) σ H Q:=by
 obtain⟨P,ρ,g,h⟩:=h;refine(step g h).imp λv j z1=>?_;obtain⟨x,k,i,b,a⟩:=z1;split at a
 ·rename_i c;refine⟨c,i,?_⟩;split;·rename_i d;rw[ax d]at a;exact a.done rfl
  ·rename_i d;rw[ay d]at a;exact⟨P,ρ,b,a⟩
 ·exact a.elim
def Vo(h:ap G Ew (ln b) σ H Q):Ic (ap G Ew b) σ H Q:=by
 obtain⟨P,ρ,c,h⟩:=h;refine(step c h).imp λv f z1=>?_;obtain⟨x,g,d,e,a⟩:=z1;split at a;·exact⟨_,d,a.done rfl⟩
 ·exact a.elim
inductive tT(G:Gx)(Ew:Nat->Hp->Prop)(C:Env->R Bool)(σ:St)(H:Hp)(Q:Bool->Hp->Prop):Prop|mk:∀P ρ,RV G P σ H ρ->(Fin (C ρ) (λb=>∀H',aG H H'->Q b H') (λc=>∀H',aG H H'->Ew c H'))->tT G Ew C σ H Q
abbrev cB(E:Env->R D):Env->R Bool:=λρ=>(E ρ).bind λd=>match d with|.bl b=>.ok b|_=>.bad
def qf{Q:Bool->Hp->Prop}(h:tT G Ew (cB E) σ H Q):tB (ap G Ew E) σ H Q:=by obtain⟨P,ρ,e,h⟩:=h;refine⟨P,ρ,e,?_⟩;delta cB at h;cases a:E ρ with|bad=>rw[a]at h;exact h|exc c=>rw[a]at h;exact h|ok d=>rw[a]at h;intro v H' s r;cases d with|bl b=>subst r;exact⟨b,rfl,h H' s⟩|_=>exact h.elim
def Kb{Q:Bool->Hp->Prop}(h:tT G Ew (cB E) σ H Q):sF (ap G Ew E) σ H Q:=qf h
def tT.imp{Q Q':Bool->Hp->Prop}(h:tT G Ew C σ H Q)(k:∀v H',Q v H'->Q' v H'):tT G Ew C σ H Q':=by obtain⟨P,ρ,b,h⟩:=h;refine⟨P,ρ,b,?_⟩;cases a:C ρ with|bad=>rw[a]at h;exact h|exc c=>rw[a]at h;exact h|ok d=>rw[a]at h;exactλH' s=>k _ _ (h H' s)
def stepT{e:Type}{k:Bool->R e}{good:Hp->e->Prop}(i:RV G P σ H ρ)(j:∀{d:Hp}{a:e},aG H d->good H a->good d a)(h:Fin ((C ρ).bind k) (good H) (λc=>∀H',aG H H'->Ew c H')):tT G Ew C σ H (λb d=>aG H d/\RV G P σ d ρ/\Fin (k b) (good d) (λc=>∀H',aG d H'->Ew c H')):=by refine⟨P,ρ,i,?_⟩;cases f:C ρ with|bad=>rw[f]at h;exact h|exc c=>rw[f]at h;exact h|ok b=>rw[f]at h;intro d s;refine⟨s,i.keep s,?_⟩;cases g:k b with|bad=>rw[ai,g]at h;exact h|exc c=>rw[ai,g]at h;exactλH' l=>h H' (s.trans l)|ok a=>rw[ai,g]at h;exact j s h
abbrev h8(C a:Env->R Bool):Env->R Bool:=λρ=>(C ρ).bind λb=>if b=true then a ρ else .ok false
abbrev iX(C a:Env->R Bool):Env->R Bool:=λρ=>(C ρ).bind λb=>if b=true then .ok true else a ρ
abbrev eZ(C:Env->R Bool):Env->R Bool:=λρ=>(C ρ).bind λb=>.ok (!b)
def Vp{Q:Bool->Hp->Prop}(h:tT G Ew (h8 C e) σ H Q):HW (tT G Ew C) (tT G Ew e) σ H Q:=by
 obtain⟨P,ρ,f,h⟩:=h;refine(stepT (good:=λH b=>∀H',aG H H'->Q b H') f (λs h H' g=>h H' (s.trans g)) h).imp λb i z1=>?_;obtain⟨s,c,a⟩:=z1;split;·rename_i d;rw[ax d]at a;exact⟨P,ρ,c,a⟩
 ·rename_i d;rw[ay d]at a;exact a i (aG.refl _)
def Vq{Q:Bool->Hp->Prop}(h:tT G Ew (iX C e) σ H Q):HX (tT G Ew C) (tT G Ew e) σ H Q:=by
 obtain⟨P,ρ,f,h⟩:=h;refine(stepT (good:=λH b=>∀H',aG H H'->Q b H') f (λs h H' g=>h H' (s.trans g)) h).imp λb i z1=>?_;obtain⟨s,c,a⟩:=z1;split;·rename_i d;rw[ax d]at a;exact a i (aG.refl _)
 ·rename_i d;rw[ay d]at a;exact⟨P,ρ,c,a⟩
def Vr{Q:Bool->Hp->Prop}(h:tT G Ew (eZ C) σ H Q):HY (tT G Ew C) σ H Q:=by obtain⟨P,ρ,a,h⟩:=h;exact(stepT (good:=λH b=>∀H',aG H H'->Q b H') a (λs h H' c=>h H' (s.trans c)) h).imp λb d ⟨s,e,f⟩=>f d (aG.refl _)
abbrev kD(C:Env->R Bool)(a c:Env->R D):Env->R D:=λρ=>(C ρ).bind λb=>if b=true then a ρ else c ρ
def Vs(s:aG H a)(h:∀v H',aG H H'->Rep G P H' r v->Q v H'):∀v H',aG a H'->Rep G P H' r v->Q v H':=λv H' b q=>h v H' (s.trans b) q
def Vt(h:ap G Ew (kD C f g) σ H Q):Ie (tT G Ew C) (ap G Ew f) (ap G Ew g) σ H Q:=by
 obtain⟨P,ρ,i,h⟩:=h;refine(stepT (good:=λH d=>∀v H',aG H H'->Rep G P H' d v->Q v H') i (λs h=>Vs s h) h).imp λb j z1=>?_;obtain⟨s,a,c⟩:=z1;split;·rename_i e;rw[ax e]at c;exact⟨P,ρ,a,c⟩
 ·rename_i e;rw[ay e]at c;exact⟨P,ρ,a,c⟩
end
section
variable{G:Gx}{Ew:Nat->Hp->Prop}{P:af->Prop}{σ:St}{H H':Hp}{ρ:Env}{Q Q':VK}
abbrev Ft{a:Type}(Ew:Nat->Hp->Prop)(H:Hp)(r:R a)(good:Hp->a->Prop):Prop:=Fin r (good H) (λc=>∀H',aG H H'->Ew c H')
def Ft.keep{d:Type}{r:R d}{good:Hp->d->Prop}(s:aG H b)(e:∀{H b:Hp}{a:d},aG H b->good H a->good b a)(h:Ft Ew H r good):Ft Ew b r good:=by cases r with|bad=>exact h|exc c=>exactλH' f=>h H' (s.trans f)|ok a=>exact e s h
@[reducible]def gD(G:Gx)(P:af->Prop)(Q:VK):Hp->D->Prop:=λH d=>∀v H',aG H H'->Rep G P H' d v->Q v H'
@[reducible]def gA(G:Gx)(P:af->Prop)(Q:List V->Hp->Prop):Hp->List D->Prop:=λH ds=>∀vs H',aG H H'->aU G P H' ds vs->Q vs H'
def gD.keep(s:aG H a)(h:gD G P Q H d):gD G P Q a d:=λv H' b r=>h v H' (s.trans b) r
def gA.keep{Q:List V->Hp->Prop}(s:aG H a)(h:gA G P Q H d):gA G P Q a d:=λv H' b r=>h v H' (s.trans b) r
inductive Dk(G:Gx)(Ew:Nat->Hp->Prop)(P:af->Prop)(σ:St)(H:Hp)(ρ:Env){α:Type}(k:D->R α)(good:Hp->α->Prop)(v:V)(H1:Hp):Prop|mk:∀d,aG H H1->Rep G P H1 d v->RV G P σ H1 ρ->Ft Ew H1 (k d) good->Dk G Ew P σ H ρ k good v H1
def Kc{b:Type}{e:Env->R D}{k:D->R b}{good:Hp->b->Prop}(j:∀{H f:Hp}{a:b},aG H f->good H a->good f a)(i:RV G P σ H ρ)(h:Ft Ew H ((e ρ).bind k) good):ap G Ew e σ H (Dk G Ew P σ H ρ k good):=by refine⟨P,ρ,i,?_⟩;delta eY;cases g:e ρ with|bad=>rw[g]at h;exact h|exc c=>rw[g]at h;exact h|ok d=>rw[g,ai]at h;exactλv f s r=>⟨d,s,r,i.keep s,h.keep s j⟩
inductive cM(G:Gx)(Ew:Nat->Hp->Prop)(Es:Env->R (List D))(σ:St)(H:Hp)(Q:List V->Hp->Prop):Prop|mk:∀P ρ,RV G P σ H ρ->Ft Ew H (Es ρ) (gA G P Q)->cM G Ew Es σ H Q
abbrev am:Env->R (List D):=λ_=>.ok []
abbrev ac(E:Env->R D)(a:Env->R (List D)):Env->R (List D):=λρ=>(E ρ).bind λd=>(a ρ).bind λds=>.ok (d::ds)
def cM.imp{Q Q':List V->Hp->Prop}(h:cM G Ew b σ H Q)(k:∀v H',Q v H'->Q' v H'):cM G Ew b σ H Q':=by obtain⟨P,ρ,e,h⟩:=h;refine⟨P,ρ,e,?_⟩;cases a:b ρ with|bad=>rw[a]at h;exact h|exc c=>rw[a]at h;exact h|ok d=>rw[a]at h;exactλv H' s r=>k _ _ (h v H' s r)
inductive Dl(G:Gx)(Ew:Nat->Hp->Prop)(P:af->Prop)(σ:St)(H:Hp)(ρ:Env){α:Type}(k:List D->R α)(good:Hp->α->Prop)(vs:List V)(H1:Hp):Prop|mk:∀ds,aG H H1->aU G P H1 ds vs->RV G P σ H1 ρ->Ft Ew H1 (k ds) good->Dl G Ew P σ H ρ k good vs H1
def Kd{b:Type}{e:Env->R (List D)}{k:List D->R b}{good:Hp->b->Prop}(j:∀{H f:Hp}{a:b},aG H f->good H a->good f a)(i:RV G P σ H ρ)(h:Ft Ew H ((e ρ).bind k) good):cM G Ew e σ H (Dl G Ew P σ H ρ k good):=by refine⟨P,ρ,i,?_⟩;delta Ft;cases g:e ρ with|bad=>rw[g]at h;exact h|exc c=>rw[g]at h;exact h|ok d=>rw[g,ai]at h;exactλv f s r=>⟨d,s,r,i.keep s,h.keep s j⟩
inductive Ke(G:Gx)(Ew:Nat->Hp->Prop)(P:af->Prop)(σ:St)(H:Hp)(ρ:Env)(k:List D->R D)(Q:VK)(vs:List V)(H1:Hp):Prop|mk:∀ds,aG H H1->aU G P H1 ds vs->RV G P σ H1 ρ->eY G Ew P H1 (k ds) Q->Ke G Ew P σ H ρ k Q vs H1
def oK{f:Env->R (List D)}{k:List D->R D}(g:RV G P σ H ρ)(h:eY G Ew P H ((f ρ).bind k) Q):cM G Ew f σ H (Ke G Ew P σ H ρ k Q):=cM.imp (Kd (good:=gD G P Q) (λ{H i a} s z=>gD.keep s z) g h) λv i z=>by obtain⟨d,a,b,c,e⟩:=z;exact⟨d,a,b,c,e⟩
def Vu{b:Env->R (List D)}{k:List D->R (List D)}{Q:List V->Hp->Prop}(c:RV G P σ H ρ)(h:Ft Ew H ((b ρ).bind k) (gA G P Q)):cM G Ew b σ H (Dl G Ew P σ H ρ k (gA G P Q)):=Kd (good:=gA G P Q) (λ{H d a} s z=>gA.keep s z) c h
def Vv{b:Env->R D}{k:D->R (List D)}{Q:List V->Hp->Prop}(c:RV G P σ H ρ)(h:Ft Ew H ((b ρ).bind k) (gA G P Q)):ap G Ew b σ H (Dk G Ew P σ H ρ k (gA G P Q)):=Kc (good:=gA G P Q) (λ{H d a} s z=>gA.keep s z) c h
def Vw{Q:List V->Hp->Prop}(h:cM G Ew am σ H Q):eu σ H Q:=by obtain⟨P,ρ,a,h⟩:=h;exact h [] H (aG.refl H) rfl
def Vx{Q:List V->Hp->Prop}(h:cM G Ew (ac E c) σ H Q):eW (ap G Ew E) (cM G Ew c) σ H Q:=by obtain⟨P,ρ,d,h⟩:=h;refine(Vv d h).imp λv l z1=>?_;obtain⟨x,m,e,a,f⟩:=z1;refine(Vu a f).imp λvs g z2=>?_;obtain⟨xs,i,b,j,k⟩:=z2;exact k _ g (aG.refl _) ⟨v,vs,rfl,e.keep i,b⟩
abbrev de(a:Env->R (List D)):Env->R D:=λρ=>(a ρ).bind λds=>if ds.length<=bj then .ok (.lst ds)else .bad
abbrev dN(a:Env->R (List D)):Env->R D:=λρ=>(a ρ).bind λds=>if ds.length<=bj then .ok (.tup ds)else .bad
def Vy(h:ap G Ew (de c) σ H Q):yG (cM G Ew c) σ H Q:=by
 obtain⟨P,ρ,d,h⟩:=h;refine(oK d h).imp λvs g z1=>?_;obtain⟨ds,i,l,a,b⟩:=z1;split at b;·rename_i e;exact⟨by rw[<-l.length];exact e,λp f=>vq a l b f⟩
 ·exact b.elim
def Vz(h:ap G Ew (dN c) σ H Q):u5 (cM G Ew c) σ H Q:=by
 obtain⟨P,ρ,d,h⟩:=h;refine(oK d h).imp λvs g z1=>?_;obtain⟨ds,i,l,e,a⟩:=z1;split at a;·rename_i f;exact⟨by rw[<-l.length];exact f,λp b=>a _ _ (cY b) ⟨p,vs,rfl,.inl (.inl aW),l.keep (cY b)⟩⟩
 ·exact a.elim
abbrev xk(G:Gx)(Ew:Nat->Hp->Prop):XK:=λcls _ H=>∃c,cls=G.xv c/\Ew c H
inductive gx(G:Gx)(n:Nat)(F:List D->R D)(vs:List V)(H:Hp)(Q:VK)(E:XK):Prop|mk:∀O ds,aU G O H ds vs->((∀a,O a->H a≠none))->ds.length=n->(Fin (F ds) (λd=>∀v H',aG H H'->Rep G O H' d v->Q v H') (λc=>∀H',aG H H'->E (G.xv c) none H'))->gx G n F vs H Q E
abbrev az(n:Nat)(F:List D->R D)(a:Env->R (List D)):Env->R D:=λρ=>(a ρ).bind λds=>if ds.length=n then F ds else .bad
def Dm(b:RV G P σ H ρ)(l:aU G P H ds vs)(h:eY G Ew P H (if ds.length=n then F ds else .bad) Q):gx G n F vs H Q (xk G Ew):=by
 split at h;·rename_i e;refine⟨P,ds,l,b.bI,e,?_⟩;cases a:F ds with|bad=>rw[a]at h;exact h|exc c=>rw[a]at h;exactλH' s=>⟨c,rfl,h H' s⟩|ok d=>rw[a]at h;exact h
 ·exact h.elim
def Kf(h:ap G Ew (az n F b) σ H Q):p1 (gx G n F) [] (xk G Ew) (cM G Ew b) σ H Q:=by obtain⟨P,ρ,c,h⟩:=h;refine(oK c h).imp λvs e z1=>?_;obtain⟨ds,f,l,a,d⟩:=z1;rw[nY];exact Dm a l d
abbrev dI(c n:Nat)(F:List D->R D)(a:Env->R D)(b:Env->R (List D)):Env->R D:=λρ=>(a ρ).bind λo=>match o with|.ins c' fs=>if c'=c then(b ρ).bind λds=>if(D.ins c' fs::ds).length=n then F (.ins c' fs::ds)else .bad else .bad|_=>.bad
def VA(i:∀vs:List V,((G.eh c).zip vs).lookup m=none)(h:ap G Ew (dI c n F j k) σ H Q):p5 (G.cm c) m (gx G n F) [] (xk G Ew) (ap G Ew j) (cM G Ew k) σ H Q:=by
 obtain⟨P,ρ,p,h⟩:=h;refine(step p h).imp λv x z1=>?_;obtain⟨o,y,g,d,b⟩:=z1;cases o with
 |ins c' fs=>
  dsimp only at b;split at b;·rename_i r;subst r;obtain⟨a,dx,vs,e,q,z,A,l⟩:=id g;refine⟨a,dx,_,e,q,i _,?_⟩;refine(oK d b).imp λs B z2=>?_;obtain⟨ds,t,u,f,w⟩:=z2;rw[nY];exact Dm (ds:=.ins c' fs::ds) f ⟨v,s,rfl,g.keep t,u⟩ w
  ·exact b.elim|_=>exact b.elim
inductive oM(G:Gx)(c n:Nat)(F:List D->R (List D))(vs:List V)(H:Hp)(Q:VK)(E:XK):Prop|mk:∀O ds x dx ws,vs=.ref x::ws->H x=some (.ins (G.cm c) dx [])->O x->aU G O H ds ws->((∀a,O a->H a≠none))->ds.length=n->(Fin (F ds) (λfs=>∀v H' us oB,v=.ah->H' x=some (.ins (G.cm c) oB ((G.eh c).zip us))->(G.eh c).length=us.length->aU G O H' fs us->(∀b o,H b=some o->b≠x->H' b=some o)->Q v H') (λ_=>False))->oM G c n F vs H Q E
abbrev eI(c n:Nat)(F:List D->R (List D))(a:Env->R (List D)):Env->R D:=λρ=>(a ρ).bind λds=>if ds.length=n then(match F ds with|.ok fs=>.ok (.ins c fs)|_=>.bad)else .bad
def VB(h:ap G Ew (eI c n F t) σ H Q):u6 (G.cm c) (oM G c n F) [] E (cM G Ew t) σ H Q:=by
 obtain⟨P,ρ,u,h⟩:=h;refine(oK u h).imp λvs s z1=>?_;obtain⟨ds,B,l,f,d⟩:=z1;intro x dx g i C;rw[nY];split at d
 ·rename_i w;have j:aG s (upd (upd s dx (.own x)) x (.ins (G.cm c) dx [])):=λb o e=>by rw[aD (im e g),aD (im e i)];exact e
  have y:=λz=>f.bI x z g;refine⟨λa=>P a\/a=x,ds,x,dx,vs,rfl,aW,.inr rfl,l.mono (Kp.of j) (λa z=>z.elim .inl λe=>.inr (by simp_all)),λa z=>?_,w,?_⟩
  ·rcases z with z|z;·exact jX f.bI j a z
   ·rw[z,aW];simp
  ·cases m:F ds with|bad=>rw[m]at d;exact d|exc c=>rw[m]at d;exact d|ok fs=>rw[m]at d;intro v H' us p A e z r k;refine⟨A,d _ H' (λb o q=>k b o (j b o q) (im q g)) ⟨x,p,us,rfl,e,z,y,r.mono (Kp.of (aG.refl _)) λa z=>.inl (.inl z)⟩⟩
 ·exact d.elim
def y0:∀{ns:List ag}{vs:List V}{j:Nat}{f:ag}{v:V},ns.Nodup->ns[j]?=some f->vs[j]?=some v->(ns.zip vs).lookup f=some v
 |[],_,_,_,_,_,h,_=>by simp at h|_::_,[],_,_,_,_,_,h=>by simp at h|n::ns,w::vs,0,f,v,c,a,b=>by simp at a b;subst a;subst b;simp[uy]
 |n::ns,w::vs,j+1,f,v,c,a,b=>by
  have d:f≠n:=λe=>by subst e;exact(kW.mp c).1 (fY (by simpa using a))
  have:(f==n)=false:=by simpa using d
  simp only[GI,uy,this];exact y0 (j:=j) (kW.mp c).2 (by simpa using a) (by simpa using b)
abbrev ao(c j:Nat)(a:Env->R D):Env->R D:=λρ=>(a ρ).bind λo=>match o with|.ins c' fs=>if c'=c then(match fs[j]?with|some d=>.ok d|none=>.bad)else .bad|_=>.bad
def VC(g:(G.eh c).Nodup)(i:(G.eh c)[j]?=some f)(cl:Cls G.K (G.cm c))(na:iU G.K (G.cm c) f)(h:ap G Ew (ao c j k) σ H Q):md G.K (ap G Ew k) f σ H Q:=by
 obtain⟨P,ρ,m,h⟩:=h;refine(step m h).imp λv x z1=>?_;obtain⟨o,y,n,p,b⟩:=z1;cases o with
 |ins c' fs=>
  dsimp only at b;split at b
  ·rename_i r;subst r;obtain⟨a,dx,vs,e,q,z,A,l⟩:=n;split at b;·rename_i d s;obtain⟨u,t,w⟩:=l.get s;exact⟨a,_,dx,_,u,e,q,cl,na,y0 g i t,b _ _ (aG.refl _) w⟩
   ·exact b.elim
  ·exact b.elim|_=>exact b.elim
abbrev dw(i c j:Nat):Env->R D:=λρ=>match ρ[i]?with|some (.dv c' fs)=>if c'=c then(match fs[j]?with|some d=>.ok d|none=>.bad)else .bad|_=>.bad
def RV.dv{P:af->Prop}{σ:St}{H:Hp}{ρ:Env}(r:RV G P σ H ρ){i c:Nat}{ds:List D}(e:ρ[i]?=some (.dv c ds)):∃a dx vs,σ[i]?=some (some (.ref a))/\P a/\H a=some (.ins (G.cm c) dx ((G.eh c).zip vs))/\vs.length<=(G.eh c).length/\aU G P H ds vs:=by
 obtain⟨d,_⟩:=gg.mp e;have b:i<σ.length:=by rw[r.len];exact d
 obtain⟨a,dx,vs,f,g⟩:=r.at_ i _ σ[i] e (cI b);exact⟨a,dx,vs,by rw[cI b,f],g⟩
def VD(b:(G.eh c).Nodup)(g:(G.eh c)[j]?=some f)(cl:Cls G.K (G.cm c))(na:iU G.K (G.cm c) f)(h:ap G Ew (dw i c j) σ H Q):md G.K (d5 i) f σ H Q:=by
 obtain⟨P,ρ,k,h⟩:=h;delta dw at h;split at h
 ·rename_i c' fs e;split at h
  ·rename_i m;subst m;obtain⟨a,dx,vs,n,p,q,z,l⟩:=k.dv e;split at h;·rename_i d o;obtain⟨u,r,s⟩:=l.get o;exact⟨.ref a,n,a,_,dx,_,u,rfl,q,cl,na,y0 b g r,h _ _ (aG.refl _) s⟩
   ·exact h.elim
  ·exact h.elim
 ·exact h.elim
def Dn(l:aU G P H ds vs)(h:ew ds i=some d):∃v,ew vs i=some v/\Rep G P H d v:=by
 delta ew at h⊢
 rw[l.length]at h;cases e:h0 _ i with|none=>simp_all|some j=>rw[e]at h;obtain⟨v,a,r⟩:=l.get (by assumption);simp_all
abbrev mj(x y:D):R D:=match x,y with|.lst ds,.int i=>(match ew ds i with|some d=>.ok d|none=>.bad)|.tup ds,.int i=>(match ew ds i with|some d=>.ok d|none=>.bad)|_,_=>.bad
abbrev bc(a b:Env->R D):Env->R D:=λρ=>(a ρ).bind λx=>(b ρ).bind λy=>mj x y
def VE(h:ap G Ew (bc o p) σ H Q):fA (p9 G.K) (ap G Ew o) (ap G Ew p) σ H Q:=by
 obtain⟨P,ρ,r,h⟩:=h;refine(step r h).imp λv B z1=>?_;obtain⟨x,C,s,g,t⟩:=z1;refine(step g t).imp λu E z2=>?_;obtain⟨y,z,m,A,b⟩:=z2;have f:=s.keep z;unfold mj at b;cases x with
 |lst ds=>
  cases y with
  |int i=>
   dsimp only at b;split at b;·rename_i d j;obtain⟨a,vs,e,q,n,l⟩:=f;obtain⟨w,k,c⟩:=Dn l j;exact .inl ⟨a,vs,i,w,e,m,.inl q,k,b _ _ (aG.refl _) c⟩
   ·exact b.elim|_=>exact b.elim
 |tup ds=>
  cases y with
  |int i=>
   dsimp only at b;split at b;·rename_i d j;obtain⟨a,vs,e,q,l⟩:=f;obtain⟨w,k,c⟩:=Dn l j;exact .inr (.inl ⟨a,vs,i,w,e,m,q,k,b _ _ (aG.refl _) c⟩)
   ·exact b.elim|_=>exact b.elim
 |_=>exact b.elim
abbrev lp(a:Env->R (List D))(b:Env->R D):Env->R D:=λρ=>(a ρ).bind λds=>(b ρ).bind λy=>mj (.lst ds) y
def VF(h:ap G Ew (lp j k) σ H Q):fA (yK G.K) (cD G Ew j) (ap G Ew k) σ H Q:=by
 obtain⟨P,ρ,m,h⟩:=h;refine(jx m h).imp λv t z1=>?_;obtain⟨ds,a,vs,e,x,q,l,c,n⟩:=z1;refine(step c n).imp λu z z2=>?_;obtain⟨y,g,o,p,b⟩:=z2;unfold mj at b;cases y with
 |int i=>
  dsimp only at b;split at b;·rename_i d r;obtain⟨w,s,f⟩:=Dn (l.keep g) r;exact⟨a,vs,i,w,e,o,.inl (qe g q),s,b _ _ (aG.refl _) f⟩
  ·exact b.elim|_=>exact b.elim
inductive tO(G:Gx)(Ew:Nat->Hp->Prop)(E:Env->R (Option Int))(σ:St)(H:Hp)(Q:Option Int->Hp->Prop):Prop|mk:∀P ρ,RV G P σ H ρ->(Ft Ew H (E ρ) (λH o=>∀H',aG H H'->Q o H'))->tO G Ew E σ H Q
abbrev ir:Env->R (Option Int):=λ_=>.ok none
abbrev cN(E:Env->R D):Env->R (Option Int):=λρ=>(E ρ).bind λd=>match d with|.int i=>.ok (some i)|_=>.bad
def VG{Q:Option Int->Hp->Prop}(h:tO G Ew ir σ H Q):Jl σ H Q:=by obtain⟨P,ρ,a,h⟩:=h;exact h H (aG.refl _)
def VH{Q:Option Int->Hp->Prop}(h:tO G Ew (cN E) σ H Q):Jn (ap G Ew E) σ H Q:=by obtain⟨P,ρ,d,h⟩:=h;refine(Kc (λ{H b a} s z H' e=>z H' (s.trans e)) d h).imp λv b z1=>?_;obtain⟨x,j,f,g,c⟩:=z1;cases x with|int i=>exact⟨i,f,c b (aG.refl _)⟩|_=>exact c.elim
def VI{e:Type}{k:Option Int->R e}{good:Hp->e->Prop}(j:∀{H b:Hp}{a:e},aG H b->good H a->good b a)(g:RV G P σ H ρ)(h:Ft Ew H ((i ρ).bind k) good):tO G Ew i σ H (λo b=>aG H b/\RV G P σ b ρ/\Ft Ew b (k o) good):=by refine⟨P,ρ,g,?_⟩;cases f:i ρ with|bad=>rw[f]at h;exact h|exc c=>rw[f]at h;exact h|ok d=>rw[f]at h;exactλb s=>⟨s,g.keep s,h.keep s j⟩
def Kg(c:RV G P σ H ρ)(h:eY G Ew P H ((d ρ).bind k) Q):tO G Ew d σ H (λo b=>aG H b/\RV G P σ b ρ/\eY G Ew P b (k o) Q):=VI (λ{H b a} s z=>gD.keep s z) c h
def tO.imp{Q Q':Option Int->Hp->Prop}(h:tO G Ew E σ H Q)(k:∀v H',Q v H'->Q' v H'):tO G Ew E σ H Q':=by obtain⟨P,ρ,b,h⟩:=h;refine⟨P,ρ,b,?_⟩;cases a:E ρ with|bad=>rw[a]at h;exact h|exc c=>rw[a]at h;exact h|ok d=>rw[a]at h;exactλH' s=>k _ _ (h H' s)
abbrev cutD(xs:List D)(lo a:Option Int):List D:=(xs.drop (HT.iV xs.length 0 lo)).take (HT.iV xs.length xs.length a-HT.iV xs.length 0 lo)
def aU.cut(l:aU G P H ds vs)(lo a:Option Int):aU G P H (cutD ds lo a) (mf vs lo a):=by delta cutD mf;rw[l.length];exact(l.drop _).take _
abbrev ei(a:Env->R (List D))(b c:Env->R (Option Int)):Env->R D:=λρ=>(a ρ).bind λds=>(b ρ).bind λlo=>(c ρ).bind λd=>.ok (.lst (cutD ds lo d))
def VJ(h:ap G Ew (ei i j k) σ H Q):CK (CQ G.K) (cD G Ew i) (tO G Ew j) (tO G Ew k) σ H Q:=by obtain⟨P,ρ,m,h⟩:=h;refine(jx m h).imp λv u z1=>?_;obtain⟨ds,a,vs,e,w,q,l,b,n⟩:=z1;refine(Kg b n).imp λlo x z2=>?_;obtain⟨f,c,o⟩:=z2;refine(Kg c o).imp λr y z3=>?_;obtain⟨g,d,s⟩:=z3;exact⟨a,vs,e,.inl (qe g (qe f q)),λp t=>vq d (((l.keep f).keep g).cut lo r) s t⟩
abbrev cE(a:Env->R D):Env->R D:=λρ=>(a ρ).bind λx=>match x with|.lst ds=>.ok (.int ds.length)|.tup ds=>.ok (.int ds.length)|_=>.bad
abbrev vt(K:br):List V->Hp->VK->Prop:=λxs H Q=>∃p a,xs=[.ref p]/\(dG K H p a\/cS K H p a)/\Q (.int a.length) H
def VL(h:ap G Ew (cE d) σ H Q):li (vt G.K) (eW (ap G Ew d) eu) σ H Q:=by obtain⟨P,ρ,f,h⟩:=h;refine(step f h).imp λv i z1=>?_;obtain⟨x,j,c,g,b⟩:=z1;cases x with|lst ds=>obtain⟨a,vs,e,q,n,l⟩:=c;subst e;exact⟨a,vs,rfl,.inl (.inl q),b _ _ (aG.refl _) (by rw[l.length];rfl)⟩|tup ds=>obtain⟨a,vs,e,q,l⟩:=c;subst e;exact⟨a,vs,rfl,.inr q,b _ _ (aG.refl _) (by rw[l.length];rfl)⟩|_=>exact b.elim
abbrev sS(a:Env->R (List D)):Env->R D:=λρ=>(a ρ).bind λds=>.ok (.int ds.length)
def VM(h:ap G Ew (sS b) σ H Q):li (vt G.K) (eW (cD G Ew b) eu) σ H Q:=by obtain⟨P,ρ,d,h⟩:=h;show cD G Ew b σ H (λx c=>vt G.K [x] c Q);refine(jx d h).imp λv c z1=>?_;obtain⟨ds,a,vs,e,i,q,l,f,g⟩:=z1;subst e;exact⟨a,vs,rfl,.inl (.inl q),g _ _ (aG.refl _) (by rw[l.length];rfl)⟩
abbrev f9:List D->Option (List Bool)|[]=>some []|.bl i::r=>(f9 r).map (i::·)|_=>none
def VN(ns:List Bool):f9 (ns.map D.bl)=some ns:=by induction ns with|nil=>rfl|cons n r a=>exact bz (Option.map (n::·)) a
def Do:∀{ds:List D}{ns:List Bool},f9 ds=some ns->ds=ns.map D.bl|[],_,h=>by cases h;rfl|.bl i::r,_,h=>by simp[f9]at h;obtain⟨a,e,rfl⟩:=h;rw[Do e];rfl|.ah::_,_,h=>by simp[f9]at h|.int _::_,_,h=>by simp[f9]at h|.str _::_,_,h=>by simp[f9]at h|.fn _::_,_,h=>by simp[f9]at h|.lst _::_,_,h=>by simp[f9]at h|.tup _::_,_,h=>by simp[f9]at h|.ins _ _::_,_,h=>by simp[f9]at h|.dk _ _::_,_,h=>by simp[f9]at h|.dt _ _::_,_,h=>by simp[f9]at h|.tk _::_,_,h=>by simp[f9]at h|.adr _::_,_,h=>by simp[f9]at h
abbrev eJ(f:List Bool->Bool)(a:Env->R (List D)):Env->R D:=λρ=>(a ρ).bind λds=>match f9 ds with|some bs=>.ok (.bl (f bs))|none=>.bad
def VO(h:ap G Ew (eJ (λbs=>bs.any id) c) σ H Q):li (yM G.K) (eW (cD G Ew c) eu) σ H Q:=by
 obtain⟨P,ρ,f,h⟩:=h;show cD G Ew c σ H (λx d=>yM G.K [x] d Q);refine(jx f h).imp λv d z1=>?_;obtain⟨ds,a,vs,e,j,q,l,g,b⟩:=z1;subst e;split at b;·rename_i bs i;rw[Do i]at l;rw[l.qb]at q;exact⟨a,bs,rfl,.inl q,b _ _ (aG.refl _) rfl⟩
 ·exact b.elim
def VP(h:ap G Ew (eJ (λbs=>bs.all id) c) σ H Q):li (yN G.K) (eW (cD G Ew c) eu) σ H Q:=by
 obtain⟨P,ρ,f,h⟩:=h;show cD G Ew c σ H (λx d=>yN G.K [x] d Q);refine(jx f h).imp λv d z1=>?_;obtain⟨ds,a,vs,e,j,q,l,g,b⟩:=z1;subst e;split at b;·rename_i bs i;rw[Do i]at l;rw[l.qb]at q;exact⟨a,bs,rfl,.inl q,b _ _ (aG.refl _) rfl⟩
 ·exact b.elim
abbrev ml(a:Bool)(b c:Env->R D):Env->R D:=λρ=>(b ρ).bind λx=>(c ρ).bind λy=>match x,y with|.int i,.tup ds=>(match ints? ds with|some ns=>.ok (.bl (if a then !(ns.any λn=>n==i)else ns.any λn=>n==i))|none=>.bad)|.int i,.lst ds=>(match ints? ds with|some ns=>.ok (.bl (if a then !(ns.any λn=>n==i)else ns.any λn=>n==i))|none=>.bad)|_,_=>.bad
def Kh(i:Int)(ns:List Int):oF (.int i) (ns.map V.int)=ns.any λn=>n==i:=by delta oF;rw[GB];rfl
def Ki(ns:List Int):(ns.map V.int).all m6=true:=by induction ns with|nil=>rfl|cons n r a=>exact a
def Kj(h:ap G Ew (ml c j k) σ H Q):fA (vb G.K c) (ap G Ew j) (ap G Ew k) σ H Q:=by
 obtain⟨P,ρ,m,h⟩:=h;refine(step m h).imp λv s z1=>?_;obtain⟨x,t,o,d,p⟩:=z1;refine(step d p).imp λu w z2=>?_;obtain⟨y,z,g,r,b⟩:=z2;cases x with
 |int i=>
  subst o;cases y with
  |tup ds=>
   obtain⟨a,vs,e,q,l⟩:=g;dsimp only at b;split at b;·rename_i ns f;rw[lm f]at l;rw[l.ints]at q;refine⟨a,_,e,.inr q,rfl,Ki ns,?_⟩;rw[Kh];exact b _ _ (aG.refl _) rfl
   ·exact b.elim
  |lst ds=>
   obtain⟨a,vs,e,q,n,l⟩:=g;dsimp only at b;split at b;·rename_i ns f;rw[lm f]at l;rw[l.ints]at q;refine⟨a,_,e,.inl (.inl q),rfl,Ki ns,?_⟩;rw[Kh];exact b _ _ (aG.refl _) rfl
   ·exact b.elim|_=>exact b.elim
 |_=>exact b.elim
end
section
variable{G:Gx}{Ew:Nat->Hp->Prop}{P:af->Prop}{σ:St}{H H':Hp}{ρ:Env}{Q Q':VK}
abbrev cF{a:Type}[DecidableEq a](ks:List a)(ds:List D)(k:a):Option D:=((ks.zip ds).find? λp=>decide (p.1=k)).map (·.2)
def Dq{c κ:Type}[DecidableEq c][DecidableEq κ](f:c->κ)(hf:∀a b,f a=f b->a=b):∀{ks:List c}{ds:List D}{vs:List V}(k:c),aU G P H ds vs->(match cF ks ds k with|some d=>∃v,iq ((ks.map f).zip vs) (f k)=some v/\Rep G P H d v|none=>iq ((ks.map f).zip vs) (f k)=none)
 |[],ds,vs,k,l=>by rfl|a::ks,[],vs,k,l=>by subst l;rfl
 |a::ks,d::ds,vs,k,⟨v,r,e,h,l⟩=>by
  subst e;by_cases i:a=k;·simp only[cF,iq];simp_all
  ·haveI g:¬f a=f k:=λz=>i (hf _ _ z);haveI j:=Dq f hf (ks:=ks) k l;simpa[cF,iq,i,g]using j
def Kk(a b:Int)(h:(dW a:Key)=dW b):a=b:=ab2 h
def y4:∀(a b:List Int),(a.map dW:List Key)=b.map dW->a=b|[],[],_=>rfl|[],_::_,h=>by simp at h|_::_,[],h=>by simp at h|x::a,y::b,h=>by simp only[gv,List.cons.injEq]at h;rw[ab2 h.1,y4 a b h.2]
abbrev dY(a:Bool)(b c:Env->R D):Env->R D:=λρ=>(b ρ).bind λk=>(c ρ).bind λd=>match k,d with|.int k,.dk ks ds=>.ok (.bl (if a then !(cF ks ds k).isSome else(cF ks ds k).isSome))|_,_=>.bad
def Dr(r:Rep G P H (.dk ks ds) u):∃a o,u=.ref a/\m8 H a (.int k) o/\(match cF ks ds k with|some d=>∃v,o=some v/\Rep G P H d v|none=>o=none):=by obtain⟨a,vs,e,q,z,n,l⟩:=r;exact⟨a,_,e,.inl ⟨_,dW k,.inl q,rfl,rfl⟩,Dq dW Kk k l⟩
def Kl(h:ap G Ew (dY false i j) σ H Q):yS (ap G Ew i) (ap G Ew j) σ H Q:=by
 obtain⟨P,ρ,l,h⟩:=h;refine(step l h).imp λv s z1=>?_;obtain⟨x,t,n,b,p⟩:=z1;refine(step b p).imp λu z z2=>?_;obtain⟨y,A,q,r,c⟩:=z2;cases x with
 |int k=>
  subst n;cases y with
  |dk ks ds=>
   obtain⟨a,o,e,g,m⟩:=Dr q;refine⟨a,o,e,g,?_⟩;have:o.isSome=(cF ks ds k).isSome:=by cases f:cF ks ds k with|none=>rw[f]at m;rw[m];rfl|some d=>rw[f]at m;obtain⟨w,e,_⟩:=m;rw[e];rfl
   rw[this];exact c.done rfl|_=>exact c.elim
 |_=>exact c.elim
def Km(h:ap G Ew (dY true i j) σ H Q):JW (ap G Ew i) (ap G Ew j) σ H Q:=by
 obtain⟨P,ρ,l,h⟩:=h;refine(step l h).imp λv s z1=>?_;obtain⟨x,t,n,b,p⟩:=z1;refine(step b p).imp λu z z2=>?_;obtain⟨y,A,q,r,c⟩:=z2;cases x with
 |int k=>
  subst n;cases y with
  |dk ks ds=>
   obtain⟨a,o,e,g,m⟩:=Dr q;refine⟨a,o,e,g,?_⟩;have:o.isSome=(cF ks ds k).isSome:=by cases f:cF ks ds k with|none=>rw[f]at m;rw[m];rfl|some d=>rw[f]at m;obtain⟨w,e,_⟩:=m;rw[e];rfl
   rw[this];exact c.done rfl|_=>exact c.elim
 |_=>exact c.elim
abbrev jZ(a b:Env->R D):Env->R D:=λρ=>(a ρ).bind λd=>(b ρ).bind λk=>match d,k with|.dk ks ds,.int k=>(match cF ks ds k with|some d=>.ok d|none=>.bad)|_,_=>.bad
def VR(h:ap G Ew (jZ j l) σ H Q):yR (ap G Ew j) (ap G Ew l) σ H Q:=by
 obtain⟨P,ρ,n,h⟩:=h;refine(step n h).imp λv B z1=>?_;obtain⟨x,C,p,c,q⟩:=z1;refine(step c q).imp λu E z2=>?_;obtain⟨y,r,s,t,b⟩:=z2;have f:=p.keep r;cases x with
 |dk ks ds=>
  cases y with
  |int k=>
   subst s;obtain⟨a,o,e,g,m⟩:=Dr f;dsimp only at b;split at b;·rename_i d z;rw[z]at m;obtain⟨w,A,i⟩:=m;subst A;exact⟨a,w,e,g,b.done i⟩
   ·exact b.elim|_=>exact b.elim
 |_=>exact b.elim
abbrev vu(a:Env->R (List D))(b:Env->R D):Env->R D:=λρ=>(a ρ).bind λxs=>if xs.length<=bj then(b ρ).bind λd=>match ints? xs,d with|some k,.dt ks ds=>.ok (.bl (cF ks ds k).isSome)|_,_=>.bad else .bad
abbrev vv(a:Env->R D)(b:Env->R (List D)):Env->R D:=λρ=>(a ρ).bind λd=>(b ρ).bind λxs=>if xs.length<=bj then(match ints? xs,d with|some k,.dt ks ds=>(match cF ks ds k with|some d=>.ok d|none=>.bad)|_,_=>.bad)else .bad
def y6(r:Rep G P H (.dt ks ds) u)(c:H b=some (.tup (k.map V.int))):∃a o,u=.ref a/\m8 H a (.ref b) o/\(match cF ks ds k with|some d=>∃v,o=some v/\Rep G P H d v|none=>o=none):=by obtain⟨a,vs,e,q,z,n,l⟩:=r;refine⟨a,_,e,.inr ⟨_,k.map dW,b,.inl q,rfl,?_,rfl⟩,Dq (λk=>k.map dW) y4 k l⟩;rw[fZ];exact c
def VS(h:ap G Ew (vu r t) σ H Q):yS (u5 (cM G Ew r)) (ap G Ew t) σ H Q:=by
 obtain⟨P,ρ,v,h⟩:=h;refine(oK v h).imp λvs b z1=>?_;obtain⟨xs,F,l,c,f⟩:=z1;split at f
 ·rename_i w;refine⟨by rw[<-l.length];exact w,λp x=>?_⟩;have n:aG b (upd b p (.tup vs)):=cY x;have i:=Ft.keep (good:=gD G P Q) n (λ{H b a} s z=>gD.keep s z) f;refine(step (c.keep n) i).imp λu I z2=>?_;obtain⟨y,A,B,C,j⟩:=z2;split at j
  ·rename_i k ks ds E;rw[lm E]at l;obtain rfl:=l.ints;obtain⟨a,o,e,g,m⟩:=y6 B (A _ _ aW);refine⟨a,o,e,g,?_⟩;have:o.isSome=(cF ks ds k).isSome:=by cases q:cF ks ds k with|none=>rw[q]at m;rw[m];rfl|some d=>rw[q]at m;grind
   rw[this];exact j.done rfl
  ·exact j.elim
 ·exact f.elim
def VT(h:ap G Ew (vv r t) σ H Q):yR (ap G Ew r) (u5 (cM G Ew t)) σ H Q:=by
 obtain⟨P,ρ,v,h⟩:=h;refine(step v h).imp λu x z1=>?_;obtain⟨y,M,A,c,B⟩:=z1;refine(oK c B).imp λvs n z2=>?_;obtain⟨xs,C,l,E,f⟩:=z2;split at f
 ·rename_i F;refine⟨by rw[<-l.length];exact F,λp I=>?_⟩;have q:aG n (upd n p (.tup vs)):=cY I;have b:eY G Ew P _ _ Q:=Ft.keep (good:=gD G P Q) q (λ{H x a} s z=>gD.keep s z) f;cases i:ints? xs with
  |none=>rw[i]at b;exact b.elim
  |some k=>
   rw[i]at b;cases y with
   |dt ks ds=>
    rw[lm i]at l;obtain rfl:=l.ints;obtain⟨a,o,e,g,m⟩:=y6 ((A.keep C).keep q) aW;dsimp only at b;split at b;·rename_i d J;rw[J]at m;obtain⟨w,L,j⟩:=m;subst L;exact⟨a,w,e,g,b.done j⟩
    ·exact b.elim|_=>exact b.elim
 ·exact f.elim
structure oN(G:Gx)(P:af->Prop)(J:It)(H1:Hp)(ds:List D):Prop where
 turn:∀(P':af->Prop)(H':Hp),Kp P H1 H'->(∀a,P' a->P a\/H1 a=none)->∀(i:Nat)(d:D),ds[i]?=some d->J.go i H'/\∀x Ds,J.yu i H' x Ds->aG H' Ds/\Rep G P' Ds d x
 stop:∀H',Kp P H1 H'->J.stop ds.length H'
inductive tI(G:Gx)(Ew:Nat->Hp->Prop)(Es:Env->R (List D))(σ:St)(H:Hp)(R:It->Hp->Prop):Prop|mk:∀P ρ,RV G P σ H ρ->(Fin (Es ρ) (λds=>∀J H1,aG H H1->oN G P J H1 ds->R J H1) (λc=>∀H',aG H H'->Ew c H'))->tI G Ew Es σ H R
def VU(q:Rd H a (.lst vs))(n:¬P a)(l:aU G P H ds vs):oN G P (Cq G.K a) H ds where
 turn:=λj H' k c i d f=>by obtain⟨v,e,r⟩:=l.get f;have b:dG G.K H' a vs:=.inl (k.rd n q);refine⟨⟨vs,v,b,e⟩,λx g ⟨h,y⟩=>?_⟩;subst h;have:=y vs b;rw[e]at this;cases this;exact⟨aG.refl _,r.mono k c⟩
 stop:=λH' k=>⟨vs,.inl (k.rd n q),lU l.length.symm⟩
def VW{R:It->Hp->Prop}(h:tI G Ew (eL E) σ H R):Cs G.K (ap G Ew E) σ H R:=by obtain⟨P,ρ,f,h⟩:=h;refine⟨P,ρ,f,?_⟩;delta eL at h;cases b:E ρ with|bad=>rw[b]at h;exact h|exc c=>rw[b]at h;exact h|ok d=>rw[b]at h;intro v H' s r;cases d with|lst ds=>obtain⟨a,vs,e,q,n,l⟩:=r;exact⟨a,e,⟨vs,.inl q⟩,h _ _ s (VU q n l)⟩|_=>exact h.elim
abbrev kE(E:Env->R D):Env->R (List D):=λρ=>(E ρ).bind λd=>match d with|.tup ds=>.ok ds|_=>.bad
def VX(q:cS G.K H a vs)(l:aU G P H ds vs):oN G P (Cr G.K a) H ds where
 turn:=λj H' k c i d f=>by obtain⟨v,e,r⟩:=l.get f;have b:=k.qd q;refine⟨⟨vs,v,b,e⟩,λx g ⟨h,y⟩=>?_⟩;subst h;have:=y vs b;rw[e]at this;cases this;exact⟨aG.refl _,r.mono k c⟩
 stop:=λH' k=>⟨vs,k.qd q,lU l.length.symm⟩
def VY{R:It->Hp->Prop}(h:tI G Ew (kE E) σ H R):Iw G.K (ap G Ew E) σ H R:=by obtain⟨P,ρ,f,h⟩:=h;refine⟨P,ρ,f,?_⟩;delta kE at h;cases b:E ρ with|bad=>rw[b]at h;exact h|exc c=>rw[b]at h;exact h|ok d=>rw[b]at h;intro v H' s r;cases d with|tup ds=>obtain⟨a,vs,e,q,l⟩:=r;exact⟨a,e,⟨vs,q⟩,h _ _ s (VX q l)⟩|_=>exact h.elim
abbrev jy(lo c:Int)(n:Nat):List D:=(bU n).map λi=>D.int (lo+(i:Nat)*c)
def Ko(h:(jy lo c n)[i]?=some d):i<n/\d=.int (lo+(i:Nat)*c):=by delta jy at h;grind
def VZ:oN G P (uY lo n) H (jy lo 1 n)where
 turn:=λg H' k h i d a=>by obtain⟨b,e⟩:=Ko a;subst e;refine⟨b,λx c ⟨f,y⟩=>?_⟩;subst f y;exact⟨aG.refl _,by rw[Int.mul_one];rfl⟩
 stop:=λH' k=>by delta jy;simp[uY]
def V0:oN G P (yX lo c n) H (jy lo c n)where
 turn:=λh H' k j i d a=>by obtain⟨b,e⟩:=Ko a;subst e;refine⟨b,λx f ⟨g,y⟩=>?_⟩;subst g y;exact⟨aG.refl _,rfl⟩
 stop:=λH' k=>by delta jy;simp[yX]
abbrev oO(i:Int):Bool:=decide (-(2^62)<=i)&&decide (i<2^62)
def Kq(h:oO i=true):-(2^62)<=i/\i<2^62:=by delta oO at h;simp_all
abbrev qg(ds:List D):R (List D):=match ds with|[.int j]=>if oO j=true then .ok (jy 0 1 j.toNat)else .bad|_=>.bad
abbrev jz(a:Env->R (List D)):Env->R (List D):=λρ=>(a ρ).bind qg
def V1{R:It->Hp->Prop}(h:tI G Ew (jz b) σ H R):uZ (cM G Ew b) σ H R:=by
 obtain⟨P,ρ,f,h⟩:=h;refine⟨P,ρ,f,?_⟩;delta jz at h;cases a:b ρ with
 |bad=>rw[a]at h;exact h|exc c=>rw[a]at h;exact h
 |ok ds=>
  rw[a,ai]at h;intro vs H' s r;delta qg at h;split at h
  ·rename_i j;obtain⟨v,i,e,g,l⟩:=r;subst g;subst l;split at h;·rename_i d;exact⟨j,e,(Kq d).1,(Kq d).2,h _ _ s VZ⟩
   ·exact h.elim
  ·exact h.elim
end
section
variable{G:Gx}{Ew:Nat->Hp->Prop}{P:af->Prop}{σ:St}{H H':Hp}{ρ:Env}{Q Q':VK}
structure lq(G:Gx)(g:TG)(T:D->Env->R Env)(vs:List Nat):Prop where go:∀{P:af->Prop}{ρ:Env}{σ:St}{H:Hp}{d:D}{v:V}{nh:Env},RV G P σ H ρ->Rep G P H d v->T d ρ=.ok nh->∀{Q:St->Hp->Prop},(∀et,RV G P et H nh->et.length=σ.length->(∀j,j∉vs->et[j]?=σ[j]?/\nh[j]?=ρ[j]?)->(∀j∈vs,∀s,nh[j]?=some s->s.owned=false)->Q et H)->g v σ H Q
def RV.set{i:Nat}{d:D}{v:V}(c:RV G P σ H ρ)(r:Rep G P H d v):RV G P (σ.set i (some v)) H (ρ.set i (.val d)):=by
 refine⟨by simp[c.len],λj s f a b=>?_,c.bI⟩;by_cases e:j=i;·subst e;rw[pD (by have:=(gg.mp a).1;simpa using this)]at a;rw[pD (by have:=(gg.mp b).1;simpa using this)]at b;cases a;cases b;exact⟨v,rfl,r⟩
 ·rw[fu (bK e)]at a b;exact c.at_ j s f a b
abbrev a1(i:Nat):D->Env->R Env:=λd ρ=>.ok (ρ.set i (.val d))
def y8(i:Nat):lq G (iT i) (a1 i) [i]where
 go:=λ{P ρ σ H d v b} c r e {Q} k=>by
  cases e;refine k _ (c.set r) (by simp) (λj a=>?_) λj a s e=>?_;·grind
  ·have:j=i:=by simpa using a
   subst this;rw[pD (by grind)]at e;cases e;rfl
structure vw(G:Gx)(g:uV)(T:List D->Env->R Env)(vs:List Nat):Prop where go:∀{P:af->Prop}{ρ:Env}{σ:St}{H:Hp}{d:List D}{v:List V}{nh:Env},RV G P σ H ρ->aU G P H d v->T d ρ=.ok nh->∀{Q:St->Hp->Prop},(∀et,RV G P et H nh->et.length=σ.length->(∀j,j∉vs->et[j]?=σ[j]?/\nh[j]?=ρ[j]?)->(∀j∈vs,∀s,nh[j]?=some s->s.owned=false)->Q et H)->g v σ H Q
abbrev j0:List D->Env->R Env:=λds ρ=>match ds with|[]=>.ok ρ|_=>.bad
abbrev e7(T:D->Env->R Env)(a:List D->Env->R Env):List D->Env->R Env:=λds ρ=>match ds with|d::r=>(T d ρ).bind (a r)|[]=>.bad
def Kr:vw G Cm j0 []where go:=λ{P ρ σ H d v a} b r e {Q} k=>by cases d with|nil=>cases e;subst r;exact⟨rfl,k σ b rfl (λj _=>⟨rfl,rfl⟩) λj c=>by cases c⟩|cons=>cases e
def Dt(h:lq G g T vs)(o:vw G p q t):vw G (yr g p) (e7 T q) (vs++t)where
 go:=λ{P ρ σ H d v u} w r e {Q} k=>by
  cases d with
  |nil=>contradiction
  |cons d ds=>
   obtain⟨x,xs,y,A,B⟩:=r;refine⟨x,xs,y,?_⟩;delta e7 at e;dsimp only at e;cases f:T d ρ with
   |bad=>rw[f]at e;contradiction|exc c=>rw[f]at e;contradiction
   |ok C=>
    rw[f]at e;refine h.go w A f λE l F k1 J=>?_;refine o.go l B e λm n I k2 L=>?_;refine k m n (I.trans F) (λj i=>?_) λj i s M=>?_;·rw[xH]at i;haveI a:=k2 j λz=>i (.inr z);haveI b:=k1 j λz=>i (.inl z);exact⟨a.1.trans b.1,a.2.trans b.2⟩
    grind
abbrev jA(n:Nat)(a:List D->Env->R Env):D->Env->R Env:=λd ρ=>match d with|.tup ds=>if ds.length=n then a ds ρ else .bad|_=>.bad
def Ks(b:vw G c f g):lq G (yt G.K n c) (jA n f) g where
 go:=λ{P ρ σ H d v h} i r e {Q} k=>by
  cases d with
  |tup ds=>
   obtain⟨a,vs,j,q,l⟩:=r;delta jA at e;dsimp only at e;split at e;·rename_i m;exact⟨a,vs,j,q,by rw[<-l.length];exact m,b.go i l e k⟩
   ·nomatch e|_=>contradiction
abbrev fo(ρ:Env):List Nat->Env|[]=>ρ|v::vs=>(fo ρ vs).set v .ah
def vx(σ:St):∀vs,(wipe σ vs).length=σ.length|[]=>rfl|v::vs=>by simp[wipe,vx σ vs]
def vy(σ:St):∀(vs:List Nat)(j:Nat),(wipe σ vs)[j]?=if j∈vs then(if j<σ.length then some none else none)else σ[j]?
 |[],j=>by simp[wipe]
 |v::vs,j=>by
  unfold wipe;by_cases a:j=v
  ·subst a;rw[ax pG];split;·rename_i h;rw[pD (by rw[vx];exact h)]
   ·rename_i h;exact xt (by simp[vx];lia)
  ·rw[fu (bK a),vy σ vs j];simp[a]
def y9(ρ:Env):∀vs,(fo ρ vs).length=ρ.length|[]=>rfl|v::vs=>by simp[fo,y9 ρ vs]
def Kt(ρ:Env):∀(vs:List Nat)(j:Nat),(fo ρ vs)[j]?=if j∈vs then(if j<ρ.length then some .ah else none)else ρ[j]?
 |[],j=>by simp[fo]
 |v::vs,j=>by
  unfold fo;by_cases a:j=v
  ·subst a;rw[ax pG];split;·rename_i h;rw[pD (by rw[y9];exact h)]
   ·rename_i h;exact xt (by simp[y9];lia)
  ·rw[fu (bK a),Kt ρ vs j];simp[a]
def RV.wipe(b:RV G P σ H ρ)(vs:List Nat):RV G P (wipe σ vs) H (fo ρ vs):=by
 refine⟨by rw[vx,y9,b.len],λj s d a c=>?_,b.bI⟩;rw[Kt]at a;rw[vy]at c;split at a
 ·split at a;·cases a;trivial
  ·contradiction
 ·rename_i h;rw[ay h]at c;exact b.at_ j s d a c
def Du(b:a.length=σ.length)(h:∀j,j∉vs->a[j]?=σ[j]?):L2.wipe a vs=L2.wipe σ vs:=by apply Rg;intro j;rw[vy,vy];simp_all
def Ku(σ:St)(vs:List Nat):L2.wipe (L2.wipe σ vs) vs=L2.wipe σ vs:=by apply Du (vx _ _);intro j a;rw[vy,ay a]
abbrev e8(T:D->Env->R Env)(C:Env->R Bool)(E:Env->R D)(ρ:Env):List D->R (List D)|[]=>.ok []|d::r=>(T d ρ).bind λa=>(C a).bind λb=>if b=true then(E a).bind λx=>(e8 T C E ρ r).bind λxs=>.ok (x::xs)else e8 T C E ρ r
abbrev cw(a:Env->R (List D))(T:D->Env->R Env)(C:Env->R Bool)(E:Env->R D)(vs:List Nat):Env->R D:=λρ=>(a ρ).bind λds=>match e8 T C E (fo ρ vs) ds with|.ok xs=>if xs.length<=bj then .ok (.lst xs)else .bad|_=>.bad
@[reducible]def mn:Nat->Hp->Prop:=λ_ _=>False
def oP{d e:Type}{r:R d}{k:d->R e}{b:e}(h:r.bind k=.ok b):∃a,r=.ok a/\k a=.ok b:=by cases r with|bad=>contradiction|exc c=>contradiction|ok a=>simp_all
def RV.zb(i:RV G P σ H ρ)(s:aG H H')(f:∀a,g a->P a\/H a=none)(b:∀a,P a->g a)(h:∀a,g a->H' a≠none):RV G g σ H' ρ:=by refine⟨i.len,λj m n o t=>?_,h⟩;have q:=i.at_ j m n o t;have k:Kp P H H':=Kp.of s;cases m with|ah=>trivial|val d=>obtain⟨v,e,r⟩:=q;exact⟨v,e,r.mono k f⟩|aL d=>obtain⟨a,vs,e,p,q,l⟩:=q;exact⟨a,vs,e,b _ p,s _ _ q,l.mono k f⟩|dv c d=>obtain⟨a,dx,vs,e,p,q,z,l⟩:=q;exact⟨a,dx,vs,e,b _ p,s _ _ q,z,l.mono k f⟩|f7 ks d=>obtain⟨a,vs,e,p,q,z,l⟩:=q;exact⟨a,vs,e,b _ p,s _ _ q,z,l.mono k f⟩|eH ks d=>obtain⟨a,vs,e,p,q,z,l⟩:=q;exact⟨a,vs,e,b _ p,s _ _ q,z,l.mono k f⟩
def Kv(hT:lq G g T vs)(h:ap G Ew (cw Es T C E vs) σ H Q):m7 (tI G Ew Es) g (tT G mn C) (ap G mn E) vs σ H Q:=by
 obtain⟨P,ρ,B,h⟩:=h;refine⟨P,ρ,B,?_⟩;delta cw at h;delta eY at h;cases N:Es ρ with
 |bad=>rw[N]at h;exact h|exc c=>rw[N]at h;exact h
 |ok ds=>
  rw[N,ai]at h;intro J H1 F it n O;split at h
  ·rename_i xs S;split at h
   ·rename_i hz;haveI U:¬P n:=λz=>by have:=B.bI n z;cases e:H n with|none=>exact this e|some o=>rw[F n o e]at O;contradiction
    let s:af->Prop:=λa=>P a\/a=n;refine⟨λi m p=>m=ds.length-i/\i<=ds.length/\∃acc f rest,p n=some (.lst acc)/\aU G s p f acc/\aG H1 p/\e8 T C E (fo ρ vs) (ds.drop i)=.ok rest/\f++rest=xs,⟨ds.length,by rfl,fK _,[],[],xs,aW,rfl,cY O,by simpa using S,rfl⟩,?_⟩
    ·rintro i m p ⟨rfl,hi,acc,f,rest,W,I,q,k,X⟩;haveI Y:RV G s (L2.wipe σ vs) p (fo ρ vs):=((B.wipe vs).keep F).zb q (λa z=>z.elim .inl λe=>.inr (by simp_all)) (λa z=>.inl z) λa z=>z.elim (λz=>(((B.wipe vs).keep F).keep q).bI a z) λe=>by lia
     by_cases l:i<ds.length
     ·right;obtain⟨d,Z⟩:∃d,ds[i]?=some d:=⟨_,cI l⟩;have ni:ds.drop i=d::ds.drop (i+1):=by rw[lR l];rw[cI l]at Z;cases Z;rfl
      rw[ni]at k;unfold e8 at k;obtain⟨t,Dv,k⟩:=oP k;obtain⟨b,Dw,k⟩:=oP k;obtain⟨go,yl⟩:=it.turn s p (Kp.of q) (λa z=>z.elim .inl λe=>.inr (by lia)) i d Z;refine⟨go,_,λH' z=>⟨ds.length-(i+1),by grind,z⟩,λx H2 y=>?_⟩;obtain⟨u,rx⟩:=yl x H2 y;refine hT.go (Y.keep u) rx Dv λKw v n2 k2 o2=>?_;refine⟨by rw[Du (σ:=L2.wipe σ vs) n2 (λj hj=>(k2 j hj).1),Ku],s,t,v,?_⟩;rw[Dw];intro H3 w;by_cases L:b=true
      ·rw[ax L];rw[ax L]at k;obtain⟨dx,Dx,k⟩:=oP k;obtain⟨rs,sT,k⟩:=oP k;cases k;refine⟨s,t,v.keep w,?_⟩;delta eY;rw[Dx];intro y M s4 ry;have r:aG p M:=(u.trans w).trans s4;have A:M n=some (.lst acc):=r _ _ W;have k5:Kp s M (upd M n (.lst (acc++[y]))):=λc o e z=>by
        by_cases hc:c=n
        ·cases hc;rw[A]at e;cases e;rcases z with z|z;·lia
         ·rcases z with⟨_,z⟩|⟨_,_,z⟩<;>contradiction
        ·rw[aD hc];exact e
       refine⟨acc,A,?_,rfl,l,acc++[y],f++[dx],rs,aW,?_,?_,sT,by simp_all⟩;·rw[<-I.length];grind
       ·exact((I.keep r).app (aU.one ry)).mono k5 λa z=>.inl z
       ·intro c o e;rw[aD (im e O)];exact(q.trans r) c o e
      ·rw[ay L];rw[ay L]at k;exact⟨rfl,l,acc,f,rest,(u.trans w) _ _ W,(I.keep u).keep w,(q.trans u).trans w,k,X⟩
     ·left;have e:i=ds.length:=by lia
      subst e;rw[Bh]at k;delta e8 at k;cases k;rw[nY]at X;subst X;exact⟨it.stop p (Kp.of q),h _ _ (F.trans q) ⟨n,acc,rfl,.inl W,U,I.mono (Kp.of (aG.refl _)) λa z=>.inl (.inl z)⟩⟩
   ·exact h.elim
  ·exact h.elim
end
inductive Out where|nx(ρ:Env)|rt(d:D)|bk(ρ:Env)|ct(ρ:Env)
abbrev Ext(W:af->Prop)(H:Hp)(W':af->Prop)(H':Hp):Prop:=Kp W H H'/\(∀a,W a->W' a)/\∀a,W' a->W a\/H a=none
def Ext.refl(W:af->Prop)(H:Hp):Ext W H W H:=⟨λ_ _ e _=>e,λ_ z=>z,λ_ z=>.inl z⟩
def Ext.of(s:aG H H'):Ext W H W H':=⟨Kp.of s,λ_ z=>z,λ_ z=>.inl z⟩
def Ext.trans(a:Ext W H d f)(b:Ext d f g h):Ext W H g h:=by
 refine⟨λc o e z=>b.1 c o (a.1 c o e z) ?_,λc z=>b.2.1 c (a.2.1 c z),λc z=>?_⟩
 ·rcases z with z|z
  ·refine .inl λq=>?_;rcases a.2.2 c q with q|q;·exact z q
   lia
  simp_all
 ·rcases b.2.2 c z with q|q;·exact a.2.2 c q
  ·by_cases i:W c;·simp_all
   ·right;cases e:H c with|none=>rfl|some o=>rw[a.1 c o e (.inl i)]at q;nomatch q
structure RS(G:Gx)(O W:af->Prop)(σ:St)(H:Hp)(ρ:Env):Prop where
 rv:RV G (λa=>O a\/W a) σ H ρ
 dj:∀a,W a->¬O a
 own:∀(i:Nat)(s:Slot),ρ[i]?=some s->s.owned=true->∃a,σ[i]?=some (some (.ref a))/\W a
 inj:∀(i j:Nat)(s t:Slot)(a:af),ρ[i]?=some s->ρ[j]?=some t->s.owned=true->t.owned=true->σ[i]?=some (some (.ref a))->σ[j]?=some (some (.ref a))->i=j
 me:∀(i:Nat)(s:Slot)(a:af),ρ[i]?=some s->s.vo=true->σ[i]?=some (some (.ref a))->G.me a
abbrev V2(G:Gx)(O:af->Prop)(D:Ends)(W:af->Prop)(H:Hp):Out->Prop|.nx b=>∀W' a H',Ext W H W' H'->RS G O W' a H' b->D.nx a H'|.bk b=>∀W' a H',Ext W H W' H'->RS G O W' a H' b->D.bk a H'|.ct b=>∀W' a H',Ext W H W' H'->RS G O W' a H' b->D.ct a H'|.rt d=>∀v W' H',Ext W H W' H'->Rep G O H' d v->D.rt v H'
abbrev iJ(G:Gx)(Ew:Nat->Hp->Prop)(O:af->Prop)(D:Ends)(W:af->Prop)(H:Hp)(r:R Out):Prop:=Fin r (V2 G O D W H) (λc=>∀W' H',Ext W H W' H'->Ew c H')
inductive sOf(G:Gx)(Ew:Nat->Hp->Prop)(S:Env->R Out)(D:Ends)(σ:St)(H:Hp):Prop|mk:∀O W ρ,RS G O W σ H ρ->iJ G Ew O D W H (S ρ)->sOf G Ew S D σ H
section
variable{G:Gx}{Ew:Nat->Hp->Prop}{O W W':af->Prop}{σ:St}{H H':Hp}{ρ:Env}{cf:Ends}
def iJ.ext(e:Ext W H W' H')(h:iJ G Ew O cf W H r):iJ G Ew O cf W' H' r:=by cases r with|bad=>exact h|exc c=>exactλb f g=>h b f (e.trans g)|ok o=>cases o with|nx i=>exactλb a f g j=>h b a f (e.trans g) j|bk i=>exactλb a f g j=>h b a f (e.trans g) j|ct i=>exactλb a f g j=>h b a f (e.trans g) j|rt d=>exactλv b f g r=>h v b f (e.trans g) r
def RS.keep(r:RS G O W σ H ρ)(s:aG H H'):RS G O W σ H' ρ:=⟨r.rv.keep s,r.dj,r.own,r.inj,r.me⟩
inductive Kx(G:Gx)(Ew:Nat->Hp->Prop)(O W:af->Prop)(cf:Ends)(σ:St)(H:Hp)(ρ:Env)(k:D->R Out)(v:V)(H1:Hp):Prop|mk:∀d,aG H H1->Rep G (λa=>O a\/W a) H1 d v->RS G O W σ H1 ρ->iJ G Ew O cf W H1 (k d)->Kx G Ew O W cf σ H ρ k v H1
def jB{E:Env->R D}{k:D->R Out}(b:RS G O W σ H ρ)(h:iJ G Ew O cf W H ((E ρ).bind k)):ap G Ew E σ H (Kx G Ew O W cf σ H ρ k):=by refine⟨_,ρ,b.rv,?_⟩;delta eY;cases a:E ρ with|bad=>rw[a]at h;exact h|exc c=>rw[a]at h;exactλH' s=>h W H' (Ext.of s)|ok d=>rw[a,ai]at h;exactλv e s r=>⟨d,s,r,b.keep s,h.ext (Ext.of s)⟩
def Ky(f:RS G O W σ H ρ)(h:iJ G Ew O cf W H ((C ρ).bind k)):tT G Ew C σ H (λb a=>aG H a/\RS G O W σ a ρ/\iJ G Ew O cf W a (k b)):=by refine⟨_,ρ,f.rv,?_⟩;cases e:C ρ with|bad=>rw[e]at h;exact h|exc c=>rw[e]at h;exactλH' s=>h W H' (Ext.of s)|ok d=>rw[e]at h;exactλa s=>⟨s,f.keep s,h.ext (Ext.of s)⟩
def Kz(f:RS G O W σ H ρ)(h:iJ G Ew O cf W H ((E ρ).bind k)):cM G Ew E σ H (λvs b=>∃ds,aG H b/\aU G (λa=>O a\/W a) b ds vs/\RS G O W σ b ρ/\iJ G Ew O cf W b (k ds)):=by refine⟨_,ρ,f.rv,?_⟩;cases e:E ρ with|bad=>rw[e]at h;exact h|exc c=>rw[e]at h;exactλH' s=>h W H' (Ext.of s)|ok d=>rw[e]at h;exactλv b s r=>⟨d,s,r,f.keep s,h.ext (Ext.of s)⟩
def V3(f:RS G O W σ H ρ)(h:iJ G Ew O cf W H ((E ρ).bind k)):cD G Ew E σ H (λv b=>∃ds a vs,v=.ref a/\aG H b/\Rd b a (.lst vs)/\aU G (λa=>O a\/W a) b ds vs/\RS G O W σ b ρ/\iJ G Ew O cf W b (k ds)):=by refine⟨_,ρ,f.rv,?_⟩;cases e:E ρ with|bad=>rw[e]at h;exact h|exc c=>rw[e]at h;exactλH' s=>h W H' (Ext.of s)|ok d=>rw[e]at h;exactλa vs b s r l=>⟨d,a,vs,rfl,s,r,l,f.keep s,h.ext (Ext.of s)⟩
abbrev bo:Env->R Out:=λρ=>.ok (.nx ρ)
abbrev au(S T:Env->R Out):Env->R Out:=λρ=>(S ρ).bind λo=>match o with|.nx a=>T a|o=>.ok o
def V4(h:sOf G Ew bo cf σ H):uU cf σ H:=by obtain⟨O,W,ρ,a,h⟩:=h;exact h W σ H (Ext.refl _ _) a
def V5(h:sOf G Ew (au S T) cf σ H):ow (sOf G Ew S) (sOf G Ew T) cf σ H:=by obtain⟨O,W,ρ,g,h⟩:=h;refine⟨O,W,ρ,g,?_⟩;delta au at h;cases b:S ρ with|bad=>rw[b]at h;exact h|exc c=>rw[b]at h;exact h|ok o=>rw[b]at h;cases o with|nx a=>exactλW' i H' e f=>⟨O,W',a,f,iJ.ext e h⟩|bk a=>exact h|ct a=>exact h|rt d=>exact h
abbrev aQ(E:Env->R D):Env->R Out:=λρ=>(E ρ).bind λd=>.ok (.rt d)
def V6(h:sOf G Ew (aQ E) cf σ H):yq (ap G Ew E) cf σ H:=by obtain⟨O,W,ρ,b,h⟩:=h;refine(jB b h).imp λv c z1=>?_;obtain⟨d,s,r,e,f⟩:=z1;exact f v W c (Ext.refl _ _) (r.mono (Kp.of (aG.refl _)) λa z=>.inl (.inl z))
abbrev gK(i:Nat):Env->R Out:=λρ=>match ρ[i]?with|some (.aL ds)=>.ok (.rt (.lst ds))|some (.f7 ks ds)=>.ok (.rt (.dk ks ds))|some (.eH ks ds)=>.ok (.rt (.dt ks ds))|_=>.bad
def RV.f7{P:af->Prop}(r:RV G P σ H ρ){i:Nat}{ks:List Int}{ds:List D}(e:ρ[i]?=some (.f7 ks ds)):∃a vs,σ[i]?=some (some (.ref a))/\P a/\H a=some (.dK ((ks.map dW).zip vs))/\ks.length=vs.length/\aU G P H ds vs:=by
 obtain⟨c,_⟩:=gg.mp e;have b:i<σ.length:=by rw[r.len];exact c
 obtain⟨a,vs,d,f⟩:=r.at_ i _ σ[i] e (cI b);exact⟨a,vs,by rw[cI b,d],f⟩
def RV.eH{P:af->Prop}(r:RV G P σ H ρ){i:Nat}{ks:List (List Int)}{ds:List D}(e:ρ[i]?=some (.eH ks ds)):∃a vs,σ[i]?=some (some (.ref a))/\P a/\H a=some (.dT ((ks.map λk=>k.map dW).zip vs))/\ks.length=vs.length/\aU G P H ds vs:=by
 obtain⟨c,_⟩:=gg.mp e;have b:i<σ.length:=by rw[r.len];exact c
 obtain⟨a,vs,d,f⟩:=r.at_ i _ σ[i] e (cI b);exact⟨a,vs,by rw[cI b,d],f⟩
def RS.ownAt(c:RS G O W σ H ρ){i:Nat}(e:ρ[i]?=some s)(o:s.owned=true)(h:σ[i]?=some (some (.ref a))):W a:=by obtain⟨b,d,w⟩:=c.own i s e o;simp_all
def V7(h:sOf G Ew (gK i) cf σ H):yq (d5 i) cf σ H:=by
 obtain⟨O,W,ρ,b,h⟩:=h;delta gK at h;have gh:∀a,O a->(O a\/W a)\/H a=none:=λa z=>.inl (.inl z);split at h;·rename_i ds e;obtain⟨a,vs,c,p,q,l⟩:=b.rv.aL e;exact⟨_,c,h _ W H (Ext.refl _ _) ⟨a,vs,rfl,.inl q,b.dj a (b.ownAt e rfl c),l.mono (Kp.of (aG.refl _)) gh⟩⟩
 ·rename_i ks ds e;obtain⟨a,vs,c,p,q,z,l⟩:=b.rv.f7 e;exact⟨_,c,h _ W H (Ext.refl _ _) ⟨a,vs,rfl,q,z,b.dj a (b.ownAt e rfl c),l.mono (Kp.of (aG.refl _)) gh⟩⟩
 ·rename_i ks ds e;obtain⟨a,vs,c,p,q,z,l⟩:=b.rv.eH e;exact⟨_,c,h _ W H (Ext.refl _ _) ⟨a,vs,rfl,q,z,b.dj a (b.ownAt e rfl c),l.mono (Kp.of (aG.refl _)) gh⟩⟩
 ·exact h.elim
abbrev eA(E:Env->R D):Env->R Out:=λρ=>(E ρ).bind λ_=>.ok (.nx ρ)
def V8(h:sOf G Ew (eA E) cf σ H):mX (ap G Ew E) cf σ H:=by obtain⟨O,W,ρ,b,h⟩:=h;refine(jB b h).imp λv c z1=>?_;obtain⟨d,s,r,a,e⟩:=z1;exact e W σ c (Ext.refl _ _) a
abbrev bf(C:Env->R Bool)(S T:Env->R Out):Env->R Out:=λρ=>(C ρ).bind λb=>if b=true then S ρ else T ρ
def V9(h:sOf G Ew (bf C S T) cf σ H):Ck (tT G Ew C) (sOf G Ew S) (sOf G Ew T) cf σ H:=by
 obtain⟨O,W,ρ,e,h⟩:=h;refine(Ky e h).imp λb f z1=>?_;obtain⟨s,a,c⟩:=z1;split;·rename_i d;rw[ax d]at c;exact⟨O,W,ρ,a,c⟩
 ·rename_i d;rw[ay d]at c;exact⟨O,W,ρ,a,c⟩
def oQ{a:Type}{l:List a}{i:Nat}{x y:a}(h:(l.set i x)[i]?=some y):y=x:=by have b:=(gg.mp h).1;rw[pD (by simpa using b)]at h;exact(eR h).symm
def RS.asg(c:RS G O W σ H ρ)(r:Rep G (λa=>O a\/W a) H d v):RS G O W (σ.set i (some v)) H (ρ.set i (.val d)):=by
 refine⟨c.rv.set r,c.dj,λj s e o=>?_,λj k s t a f g h l m n=>?_,λj s a e o q=>?_⟩
 ·by_cases b:j=i;·subst b;rw[oQ e]at o;cases o
  ·rw[fu (bK b)]at e⊢
   exact c.own j s e o
 ·by_cases b:j=i;·subst b;rw[oQ f]at h;cases h
  ·by_cases p:k=i;·subst p;rw[oQ g]at l;cases l
   ·rw[fu (bK b)]at f m;rw[fu (bK p)]at g n;exact c.inj j k s t a f g h l m n
 ·by_cases b:j=i;·subst b;rw[oQ e]at o;cases o
  ·rw[fu (bK b)]at e q;exact c.me j s a e o q
abbrev bg(i:Nat)(E:Env->R D):Env->R Out:=λρ=>(E ρ).bind λd=>.ok (.nx (ρ.set i (.val d)))
def Wa(h:sOf G Ew (bg i E) cf σ H):la (ap G Ew E) (iT i) cf σ H:=by obtain⟨O,W,ρ,b,h⟩:=h;refine(jB b h).imp λv c z1=>?_;obtain⟨d,s,r,a,e⟩:=z1;exact e W _ c (Ext.refl _ _) (a.asg r)
abbrev nj(i:Nat)(f:Int->Int->Int)(E:Env->R D):Env->R Out:=λρ=>match ρ[i]?with
 |some (.val (.int m))=>(E ρ).bind λd=>match d with|.int n=>.ok (.nx (ρ.set i (.val (.int (f m n)))))|_=>.bad
 |_=>.bad
def Wb(h:sOf G Ew (nj i f E) cf σ H):Co i (ap G Ew E) (Cp f) cf σ H:=by
 obtain⟨O,W,ρ,b,h⟩:=h;delta nj at h;split at h;·rename_i m e;obtain⟨x,g,j⟩:=b.rv.val e;subst j;refine⟨_,g,?_⟩;refine(jB b h).imp λv k z1=>?_;obtain⟨d,s,r,a,c⟩:=z1;cases d with|int n=>subst r;exact⟨m,n,rfl,rfl,c W _ k (Ext.refl _ _) (a.asg rfl)⟩|_=>exact c.elim
 ·exact h.elim
def RS.new(c:RS G O W σ H ρ)(m:H p=none)(F:l.owned=true)(I:l.vo=false)(J:oI G (λa=>O a\/W a\/a=p) (upd H p o) l (some (.ref p)))(B:i<ρ.length):RS G O (λa=>W a\/a=p) (σ.set i (some (.ref p))) (upd H p o) (ρ.set i l):=by
 have f:RV G (λa=>O a\/W a\/a=p) σ (upd H p o) ρ:=c.rv.zb (cY m) (λa z=>by
  lia) (λa z=>z.elim .inl λz=>.inr (.inl z)) λa z=>by
  rcases z with z|z|z;·exact jX c.rv.bI (cY m) a (.inl z)
  ·exact jX c.rv.bI (cY m) a (.inr z)
  ·rw[z,aW];simp
 have v:i<σ.length:=by rw[c.rv.len];exact B
 refine⟨⟨by simp[f.len],λj s C g h=>?_,f.bI⟩,λa z=>?_,λj s e o=>?_,λj k s t a g h x E n r=>?_,λj s a e o q=>?_⟩
 ·by_cases d:j=i;·simp_all
  ·rw[fu (bK d)]at g h;exact f.at_ j s C g h
 ·rcases z with z|z;·exact c.dj a z
  ·intro q;exact c.rv.bI a (.inl q) (by simp_all)
 ·by_cases d:j=i;·simp_all
  ·rw[fu (bK d)]at e⊢
   obtain⟨a,q,w⟩:=c.own j s e o;simp_all
 ·have u:∀(j:Nat) (s:Slot),j≠i->(ρ.set i l)[j]?=some s->s.owned=true->(σ.set i (some (.ref p)))[j]?=some (some (.ref a))->a≠p:=λj s d e o q z=>by rw[fu (bK d)]at e q;obtain⟨b,y,w⟩:=c.own j s e o;rw[q]at y;cases y;exact c.rv.bI a (.inr w) (by lia)
  by_cases d:j=i;·grind
  ·by_cases A:k=i;·cases A;have e:=oQ r;cases e;exact bw rfl (u j s d g x n)
   ·rw[fu (bK d)]at g n;rw[fu (bK A)]at h r;exact c.inj j k s t a g h x E n r
 ·by_cases d:j=i;·simp_all
  ·rw[fu (bK d)]at e q;exact c.me j s a e o q
def Dy(b:H p=none):Ext W H (λa=>W a\/a=p) (upd H p o):=⟨Kp.of (cY b),λ_ z=>.inl z,λa z=>z.elim .inl λz=>.inr (by simp_all)⟩
abbrev gy(i:Nat)(a:Env->R (List D)):Env->R Out:=λρ=>(a ρ).bind λds=>if ds.length<=bj/\i<ρ.length then .ok (.nx (ρ.set i (.aL ds)))else .bad
def Wc(h:sOf G Ew (gy i f) cf σ H):la (yG (cM G Ew f)) (iT i) cf σ H:=by
 obtain⟨O,W,ρ,g,h⟩:=h;refine(Kz g h).imp λvs j z1=>?_;obtain⟨ds,s,l,b,c⟩:=z1;split at c;·rename_i e;refine⟨by rw[<-l.length];exact e.1,λp d=>?_⟩;refine c _ _ _ (Dy d) (b.new d rfl rfl ⟨p,vs,rfl,.inr (.inr rfl),aW,l.mono (Kp.of (cY d)) λa z=>?_⟩ e.2);lia
 ·exact c.elim
abbrev sU(i:Nat):Env->R Out:=λρ=>if i<ρ.length then .ok (.nx (ρ.set i (.f7 [] [])))else .bad
abbrev sV(i:Nat):Env->R Out:=λρ=>if i<ρ.length then .ok (.nx (ρ.set i (.eH [] [])))else .bad
def We(h:sOf G Ew (sU i) cf σ H):la JZ (iT i) cf σ H:=by
 obtain⟨O,W,ρ,b,h⟩:=h;delta sU at h;split at h;·rename_i c;exactλp a=>h _ _ _ (Dy a) (b.new a rfl rfl ⟨p,[],rfl,.inr (.inr rfl),aW,rfl,rfl⟩ c)
 ·exact h.elim
def Wf(h:sOf G Ew (sV i) cf σ H):la J1 (iT i) cf σ H:=by
 obtain⟨O,W,ρ,b,h⟩:=h;delta sV at h;split at h;·rename_i c;exactλp a=>h _ _ _ (Dy a) (b.new a rfl rfl ⟨p,[],rfl,.inr (.inr rfl),aW,rfl,rfl⟩ c)
 ·exact h.elim
def RS.chg{i:Nat}{a:af}{o o':HO}(h:RS G O W σ H ρ)(e:ρ[i]?=some y)(N:y.owned=true)(T:jW.owned=true)(U:jW.vo=y.vo)(P:σ[i]?=some (some (.ref a)))(hH:H a=some o)(nt:¬oH o)(ok:oI G (λa=>O a\/W a) (upd H a o') jW (some (.ref a))):RS G O W σ (upd H a o') (ρ.set i jW)/\Ext W H W (upd H a o')/\Kp (λa=>O a\/W a) H (upd H a o'):=by
 have wa:W a:=h.ownAt e N P;have k:Kp (λa=>O a\/W a) H (upd H a o'):=λb u q z=>by
  by_cases w:b=a;·simp_all
  ·rw[aD w];exact q
 have hi:i<ρ.length:=(gg.mp e).1;have F:∀b,O b\/W b->upd H a o' b≠none:=λb z=>by
  by_cases w:b=a;·subst w;rw[aW];simp
  ·rw[aD w];exact h.rv.bI b z
 refine⟨⟨⟨by simp[h.rv.len],λj s Q f A=>?_,F⟩,h.dj,λj s f m=>?_,λj k s t b f A m X B Y=>?_,λj s b f m B=>?_⟩,⟨λb u q z=>?_,λ_ z=>z,λ_ z=>.inl z⟩,k⟩
 ·by_cases n:j=i;·simp_all
  ·rw[fu (bK n)]at f;have q:=h.rv.at_ j s Q f A;have x:∀b,(O b\/W b)->(O b\/W b)\/H b=none:=λb z=>.inl z;have C:∀b,s.owned=true->Q=some (.ref b)->b≠a:=λb m Z z=>by subst Z z;exact n (h.inj j i s y _ f e m N A P)
   cases s with|ah=>trivial|val d=>obtain⟨v,g,r⟩:=q;exact⟨v,g,r.mono k x⟩|aL d=>obtain⟨b,vs,g,p,q,l⟩:=q;exact⟨b,vs,g,p,by rw[aD (C b rfl g)];exact q,l.mono k x⟩|dv c d=>obtain⟨b,dx,vs,g,p,q,z,l⟩:=q;exact⟨b,dx,vs,g,p,by rw[aD (C b rfl g)];exact q,z,l.mono k x⟩|f7 ks d=>obtain⟨b,vs,g,p,q,z,l⟩:=q;exact⟨b,vs,g,p,by rw[aD (C b rfl g)];exact q,z,l.mono k x⟩|eH ks d=>obtain⟨b,vs,g,p,q,z,l⟩:=q;exact⟨b,vs,g,p,by rw[aD (C b rfl g)];exact q,z,l.mono k x⟩
 ·by_cases n:j=i;·simp_all
  ·rw[fu (bK n)]at f;exact h.own j s f m
 ·have S:∀(j:Nat) (s:Slot),(ρ.set i jW)[j]?=some s->s.owned=true->∃E,ρ[j]?=some E/\E.owned=true:=λj s f m=>by grind
  obtain⟨E,I,J⟩:=S j s f m;obtain⟨t',L,M⟩:=S k t A X;exact h.inj j k E t' b I L J M B Y
 ·by_cases n:j=i;·subst n;rw[oQ f,U]at m;exact h.me j y b e m B
  ·rw[fu (bK n)]at f;exact h.me j s b f m B
 ·by_cases w:b=a;·simp_all
  ·rw[aD w];exact q
def sW:¬oH (.lst xs):=by rintro(⟨_,z⟩|⟨_,_,z⟩)<;>contradiction
def KA:¬oH (.dK xs):=by rintro(⟨_,z⟩|⟨_,_,z⟩)<;>contradiction
def zc:¬oH (.dT xs):=by rintro(⟨_,z⟩|⟨_,_,z⟩)<;>contradiction
def KC:¬oH (.ins C dx fs):=by rintro(⟨_,z⟩|⟨_,_,z⟩)<;>contradiction
abbrev eK(i:Nat)(E:Env->R D):Env->R Out:=λρ=>match ρ[i]?with|some (.aL ds)=>(E ρ).bind λd=>if ds.length<bj then .ok (.nx (ρ.set i (.aL (ds++[d]))))else .bad|_=>.bad
def Wg(h:sOf G Ew (eK i E) cf σ H):mX (sJ G.K "list" vc (d5 i) (eW (ap G Ew E) eu)) cf σ H:=by
 obtain⟨O,W,ρ,k,h⟩:=h;delta eK at h;split at h
 ·rename_i ds e;obtain⟨a,vs,m,p,q,l⟩:=k.rv.aL e;refine⟨_,m,.inl ⟨rfl,vs,.inl (.inl q)⟩,?_⟩;refine(jB k h).imp λv n z1=>?_;obtain⟨d,s,r,c,f⟩:=z1;split at f
  ·rename_i x;haveI g:=s _ _ q;haveI o:=l.keep s;haveI k1:Kp (λa=>O a\/W a) n (upd n a (.lst (vs++[v]))):=λb u z w=>by
    by_cases t:b=a
    ·subst t;rw[g]at z;cases z;rcases w with w|w;·simp_all
     ·exact bw w sW
    ·rw[aD t];exact z
   obtain⟨j,ex,_⟩:=c.chg (jW:=.aL (ds++[d])) e rfl rfl rfl m g sW ⟨a,_,rfl,p,aW,(o.app (aU.one r)).mono k1 λb z=>.inl z⟩;exact⟨a,vs,v,rfl,rfl,g,by rw[<-o.length];exact x,f _ _ _ ex j⟩
  ·exact f.elim
 ·exact h.elim
inductive zd(x:V)(vs:List V)(H:Hp)(Q:VK):Prop|mk:∀l b xs zs,x=.ref l->vs=[.ref b]->H l=some (.lst xs)->Rd H b (.lst zs)->xs.length+zs.length<=bj->Q .ah (upd H l (.lst (xs++zs)))->zd x vs H Q
abbrev gL(i:Nat)(E:Env->R (List D)):Env->R Out:=λρ=>match ρ[i]?with|some (.aL ds)=>(E ρ).bind λa=>if ds.length+a.length<=bj then .ok (.nx (ρ.set i (.aL (ds++a))))else .bad|_=>.bad
def Wh(h:sOf G Ew (gL i E) cf σ H):mX (sJ G.K "list" zd (d5 i) (eW (cD G Ew E) eu)) cf σ H:=by
 obtain⟨O,W,ρ,j,h⟩:=h;delta gL at h;split at h
 ·rename_i ds e;obtain⟨a,vs,k,p,q,l⟩:=j.rv.aL e;refine⟨_,k,.inl ⟨rfl,vs,.inl (.inl q)⟩,?_⟩;refine(V3 j h).imp λv m z1=>?_;obtain⟨y,b,n,A,s,r,o,c,d⟩:=z1;subst A;split at d
  ·rename_i B;haveI f:=s _ _ q;haveI t:=l.keep s;haveI k1:Kp (λa=>O a\/W a) m (upd m a (.lst (vs++n))):=λb u z w=>by
    by_cases x:b=a
    ·subst x;rw[f]at z;cases z;rcases w with w|w;·simp_all
     ·exact bw w sW
    ·rw[aD x];exact z
   obtain⟨g,ex,_⟩:=c.chg (jW:=.aL (ds++y)) e rfl rfl rfl k f sW ⟨a,_,rfl,p,aW,(t.app o).mono k1 λb z=>.inl z⟩;exact⟨a,b,vs,n,rfl,rfl,f,r,by rw[<-t.length,<-o.length];exact B,d _ _ _ ex g⟩
  ·exact d.elim
 ·exact h.elim
abbrev sX(i:Nat)(a b:Env->R D):Env->R Out:=λρ=>(b ρ).bind λd=>match ρ[i]?with|some (.aL ds)=>(a ρ).bind λk=>(match k with|.int k=>(match h0 ds.length k with|some j=>.ok (.nx (ρ.set i (.aL (ds.set j d))))|none=>.bad)|_=>.bad)|_=>.bad
def Wi(h:sOf G Ew (sX i A B) cf σ H):la (ap G Ew B) (Ip (d5 i) (ap G Ew A) CP) cf σ H:=by
 obtain⟨O,W,ρ,C,h⟩:=h;refine(jB C h).imp λv I z1=>?_;obtain⟨d,J,E,c,g⟩:=z1;split at g
 ·rename_i ds e;obtain⟨a,vs,s,p,q,l⟩:=c.rv.aL e;refine⟨_,s,?_⟩;refine(jB c g).imp λu t z2=>?_;obtain⟨k,m,rk,n,f⟩:=z2;cases k with
  |int k=>
   subst rk;dsimp only at f;split at f
   ·rename_i j F;have o:=m _ _ q;have x:=l.keep m;have k1:Kp (λa=>O a\/W a) t (upd t a (.lst (vs.set j v))):=λb u z w=>by
     by_cases y:b=a
     ·subst y;rw[o]at z;cases z;rcases w with w|w;·simp_all
      ·exact bw w sW
     ·rw[aD y];exact z
    obtain⟨r,ex,_⟩:=n.chg (jW:=.aL (ds.set j d)) e rfl rfl rfl s o sW ⟨a,_,rfl,p,aW,(x.set j (E.keep m)).mono k1 λb z=>.inl z⟩;exact⟨a,vs,k,j,rfl,rfl,o,by rw[<-x.length];exact F,f _ _ _ ex r⟩
   ·exact f.elim|_=>exact f.elim
 ·exact g.elim
end
section
variable{G:Gx}{Ew:Nat->Hp->Prop}{O W W':af->Prop}{σ:St}{H H':Hp}{ρ:Env}{cf:Ends}
abbrev cV{b:Type}[DecidableEq b](ks:List b)(ds:List D)(k:b)(d:D):List b×List D:=match ks,ds with|a::ks,x::ds=>if a=k then(a::ks,d::ds)else let r:=cV ks ds k d;(a::r.1,x::r.2)|_,_=>([k],[d])
def Wj{b:Type}[DecidableEq b]{ks:List b}{ds:List D}{a:b}{x d:D}:cV (a::ks) (x::ds) a d=(a::ks,d::ds):=ax rfl
def Wk{b:Type}[DecidableEq b]{ks:List b}{ds:List D}{a k:b}{x d:D}(h:¬a=k):cV (a::ks) (x::ds) k d=(a::(cV ks ds k d).1,x::(cV ks ds k d).2):=ay h
def Wl{κ:Type}[DecidableEq κ]{p:κ×V}{r:List (κ×V)}{k:κ}{v:V}(h:¬p.1=k):putK (p::r) k v=p::putK r k v:=by delta putK;rw[nR,iC h,Rc,gv,ay h];split<;>rfl
inductive PZ{α κ:Type}(f:α->κ)(G:Gx)(P:af->Prop)(H:Hp)(q:List α×List D)(m:List (κ×V))(ks:List α)(k:α):Prop|mk(ws:List V):m=(q.1.map f).zip ws->q.1.length=ws.length->aU G P H q.2 ws->q.1.Nodup->(∀z,z∈q.1->z∈ks\/z=k)->PZ f G P H q m ks k
def Dz{h κ:Type}[DecidableEq h][DecidableEq κ](f:h->κ)(hf:∀a b,f a=f b->a=b){P:af->Prop}{ks:List h}{ds:List D}{vs:List V}{k:h}{d:D}{v:V}(n:ks.Nodup)(j:ks.length=vs.length)(l:aU G P H ds vs)(r:Rep G P H d v):PZ f G P H (cV ks ds k d) (putK ((ks.map f).zip vs) (f k) v) ks k:=by
 induction ks generalizing ds vs with
 |nil=>cases QG.mp j.symm;cases ds with|nil=>exact⟨[v],rfl,rfl,aU.one r,kW.2 ⟨nofun,.nil⟩,λz c=>.inr (List.mem_singleton.1 c)⟩|cons=>obtain⟨_,_,e,_⟩:=l;cases e
 |cons a ks t=>
  cases ds with
  |nil=>cases(l:vs=[]);cases j
  |cons x ds=>
   obtain⟨u,us,e,w,l⟩:=l;subst e;haveI g:=Nat.succ.inj j;obtain⟨o,y⟩:=kW.1 n;by_cases i:a=k
   ·subst i;rw[Wj];refine⟨v::us,?_,bz _ g,⟨v,us,rfl,r,l⟩,n,λz c=>.inl c⟩;haveI m:∀p∈(ks.map f).zip us,(if p.1=f a then(p.1,v)else p)=id p:=λp A=>ay λz=>by obtain⟨b,B,e⟩:=mK.1 (Gu A).1;exact o (hf _ _ (e.trans z)▸B)
    show putK ((f a,u)::(ks.map f).zip us) (f a) v=(f a,v)::(ks.map f).zip us;delta putK;rw[ax (by simp),gv,ax rfl,uA m,List.map_id]
   ·obtain⟨q,C,E,F,I,s⟩:=t y g l;rw[Wk i];refine⟨u::q,?_,bz _ E,⟨u,q,rfl,w,F⟩,kW.2 ⟨λz=>(s a z).elim o i,I⟩,λz c=>?_⟩;·exact(Wl λz=>i (hf _ _ z)).trans (bz _ C)
    ·rcases ff.1 c with c|c;·rw[c];exact .inl pG
     ·exact(s z c).imp (jk _) id
abbrev qh(i:Nat)(a b:Env->R D):Env->R Out:=λρ=>(b ρ).bind λd=>match ρ[i]?with|some (.f7 ks ds)=>(a ρ).bind λk=>(match k with|.int k=>if ks.Nodup/\ks.length<bj then .ok (.nx (ρ.set i (.f7 (cV ks ds k d).1 (cV ks ds k d).2)))else .bad|_=>.bad)|_=>.bad
def Wm(h:sOf G Ew (qh i x y) cf σ H):yT (d5 i) (ap G Ew x) (ap G Ew y) cf σ H:=by
 obtain⟨O,W,ρ,A,h⟩:=h;refine(jB A h).imp λv L z1=>?_;obtain⟨d,M,B,c,g⟩:=z1;split at g
 ·rename_i ks ds e;obtain⟨a,vs,r,p,q,z,l⟩:=c.rv.f7 e;refine⟨_,r,?_⟩;refine(jB c g).imp λu s z2=>?_;obtain⟨k,j,rk,m,f⟩:=z2;cases k with
  |int k=>
   subst rk;dsimp only at f;split at f
   ·rename_i C;have n:=j _ _ q;obtain⟨E,F,I,J,N,P⟩:=Dz _ Kk (k:=k) C.1 z (l.keep j) (B.keep j);have k1:∀o',Kp (λa=>O a\/W a) s (upd s a o'):=λo' b u z w=>by
     by_cases t:b=a
     ·subst t;rw[n]at z;cases z;rcases w with w|w;·exact bw p w
      ·exact bw w KA
     ·rw[aD t];exact z
    obtain⟨o,ex,_⟩:=m.chg (jW:=.f7 _ (cV ks ds k d).2) (o':=.dK (putK _ _ v)) e rfl rfl rfl r n KA ⟨a,E,rfl,p,by rw[aW,F],I,J.mono (k1 _) λb z=>.inl z⟩;exact⟨a,_,rfl,m9.k (k:=dW k) n (by simp_all),f _ _ _ ex o⟩
   ·exact f.elim|_=>exact f.elim
 ·exact g.elim
abbrev vz(i:Nat)(a:Env->R (List D))(b:Env->R D):Env->R Out:=λρ=>(b ρ).bind λd=>match ρ[i]?with|some (.eH ks ds)=>(a ρ).bind λxs=>(match ints? xs with|some k=>if xs.length<=bj/\ks.Nodup/\ks.length<bj then .ok (.nx (ρ.set i (.eH (cV ks ds k d).1 (cV ks ds k d).2)))else .bad|_=>.bad)|_=>.bad
def Wn(h:sOf G Ew (vz i E F) cf σ H):yT (d5 i) (u5 (cM G Ew E)) (ap G Ew F) cf σ H:=by
 obtain⟨O,W,ρ,I,h⟩:=h;refine(jB I h).imp λv T z1=>?_;obtain⟨d,U,J,c,j⟩:=z1;split at j
 ·rename_i ks ds e;obtain⟨a,vs,y,p,q,z,l⟩:=c.rv.eH e;refine⟨_,y,?_⟩;refine(Kz c j).imp λus L z2=>?_;obtain⟨xs,m,rk,n,f⟩:=z2;split at f
  ·rename_i k A;split at f
   ·rename_i B;rw[lm A]at rk;haveI lk:=rk.ints;subst lk;refine⟨by rw[<-rk.length,<-lm A];exact B.1,λt M=>?_⟩;haveI g:=cY (o:=.tup (k.map V.int)) M;haveI r:=n.keep g;haveI s:=g _ _ (m _ _ q);obtain⟨N,P,Q,S,X,Y⟩:=Dz (λk:List Int=>(k.map dW)) y4 (k:=k) B.2.1 z ((l.keep m).keep g) ((J.keep m).keep g);haveI k1:∀o',Kp (λa=>O a\/W a) (upd L t _) (upd _ a o'):=λo' b u z w=>by
     by_cases C:b=a
     ·subst C;rw[s]at z;cases z;rcases w with w|w;·exact bw p w
      ·exact bw w zc
     ·rw[aD C];exact z
    obtain⟨x,ex,_⟩:=r.chg (jW:=.eH _ (cV ks ds k d).2) (o':=.dT (putK _ _ v)) e rfl rfl rfl y s zc ⟨a,N,rfl,p,by rw[aW,P],Q,S.mono (k1 _) λb z=>.inl z⟩;exact⟨a,_,rfl,m9.t s (by rw[fZ];exact aW) (by simp_all),(iJ.ext (Ext.of g) f) _ _ _ ex x⟩
   ·exact f.elim
  ·exact f.elim
 ·exact j.elim
def KD:∀{ns:List ag}{vs:List V}{f:ag}{v:V},ns.Nodup->ns[vs.length]?=some f->gn f v (ns.zip vs)=ns.zip (vs++[v])
 |[],vs,f,v,_,h=>by simp at h|n::ns,[],f,v,_,h=>by simp at h;subst h;simp[gn]
 |n::ns,u::vs,f,v,a,h=>by
  have b:n≠f:=λe=>by subst e;exact(kW.mp a).1 (fY (by simpa using h))
  simp only[GI,gn,ay b,xw];rw[KD (kW.mp a).2 (by simpa using h)]
abbrev cx(i c j:Nat)(E:Env->R D):Env->R Out:=λρ=>(E ρ).bind λd=>match ρ[i]?with|some (.dv c' ds)=>if c'=c/\ds.length=j then .ok (.nx (ρ.set i (.dv c (ds++[d]))))else .bad|_=>.bad
def Wo(s:(G.eh c).Nodup)(hf:(G.eh c)[j]?=some f)(jC:(G.eh c).length<1000)(cl:Cls G.K (G.cm c))(na:iU G.K (G.cm c) f)(h:sOf G Ew (cx i c j E) cf σ H):yD G.K (d5 i) (ap G Ew E) f cf σ H:=by
 obtain⟨O,W,ρ,t,h⟩:=h;refine(jB t h).imp λv n z1=>?_;obtain⟨d,B,x,g,k⟩:=z1;split at k
 ·rename_i c' ds e;split at k
  ·rename_i y;obtain⟨rfl,C⟩:=y;obtain⟨a,dx,vs,o,p,q,z,l⟩:=g.rv.dv e;have F:=l.length;have k1:∀o',Kp (λa=>O a\/W a) n (upd n a o'):=λo' b u z w=>by
    by_cases r:b=a
    ·subst r;rw[q]at z;cases z;rcases w with w|w;·simp_all
     ·exact bw w KC
    ·rw[aD r];exact z
   haveI A:gn f v _=(G.eh c').zip (vs++[v]):=KD s (by lia);obtain⟨m,ex,_⟩:=g.chg (jW:=.dv c' (ds++[d])) (o':=.ins (G.cm c') dx (gn f v _)) e rfl rfl rfl o q KC ⟨a,dx,vs++[v],rfl,p,by rw[aW,A],by grind,(l.app (aU.one x)).mono (k1 _) λb z=>.inl z⟩;exact⟨_,o,a,_,dx,_,rfl,q,cl,na,by grind,k _ _ _ ex m⟩
  ·exact k.elim
 ·exact k.elim
abbrev forL(T:D->Env->R Env)(S:Env->R Out):List D->Env->R Out|[],ρ=>.ok (.nx ρ)|d::r,ρ=>match T d ρ with|.ok b=>(S b).bind λo=>(match o with|.nx a=>forL T S r a|.ct a=>forL T S r a|.bk a=>.ok (.nx a)|.rt d=>.ok (.rt d))|_=>.bad
abbrev fq(a:Env->R (List D))(T:D->Env->R Env)(S:Env->R Out):Env->R Out:=λρ=>(a ρ).bind λds=>forL T S ds ρ
def RS.Wp{vs:List Nat}(d:RS G O W σ H ρ)(u:RV G (λa=>O a\/W a) c H b)(k:∀j,j∉vs->c[j]?=σ[j]?/\b[j]?=ρ[j]?)(o:∀j∈vs,∀s,b[j]?=some s->s.owned=false):RS G O W c H b:=by
 have f:∀j s,b[j]?=some s->s.owned=true->j∉vs:=λj s e h z=>by grind
 refine⟨u,d.dj,λj s e h=>?_,λj l s t a g i m n p r=>?_,λj s a e h q=>?_⟩;·obtain⟨k1,k2⟩:=k j (f j s e h);rw[k2]at e;rw[k1];exact d.own j s e h
 ·obtain⟨k1,k2⟩:=k j (f j s g m);obtain⟨k3,v⟩:=k l (f l t i n);rw[k2]at g;rw[v]at i;rw[k1]at p;rw[k3]at r;exact d.inj j l s t a g i m n p r
 ·obtain⟨k1,k2⟩:=k j (f j s e (by cases s<;>first|rfl|assumption));rw[k2]at e;rw[k1]at q;exact d.me j s a e h q
def Wq(Z:lq G g T vs)(h:sOf G Ew (fq P T S) cf σ H):IA (tI G Ew P) g (sOf G Ew S) cf σ H:=by
 obtain⟨O,W,ρ,Q,h⟩:=h;refine⟨_,ρ,Q.rv,?_⟩;delta fq at h;cases B:P ρ with
 |bad=>rw[B]at h;exact h|exc c=>rw[B]at h;exactλH' s=>h W H' (Ext.of s)
 |ok ds=>
  rw[B]at h;intro J U X it;refine⟨λi m n l=>m=ds.length-i/\i<=ds.length/\∃p r,Ext W U p l/\RS G O p n l r/\iJ G Ew O cf p l (forL T S (ds.drop i) r),⟨ds.length,by rfl,fK _,W,ρ,Ext.refl _ _,Q.keep X,by simpa using h.ext (Ext.of X)⟩,?_⟩;rintro i m n l ⟨rfl,hi,p,r,ex,t,hf⟩;have Y:Kp (λa=>O a\/W a) U l:=λb o e z=>ex.1 b o e (z.elim (λz=>.inl λq=>z (.inr q)) .inr);by_cases j:i<ds.length
  ·right;obtain⟨d,C⟩:∃d,ds[i]?=some d:=⟨_,cI j⟩;haveI E:ds.drop i=d::ds.drop (i+1):=by rw[lR j];rw[cI j]at C;cases C;rfl
   rw[E]at hf;unfold forL at hf;obtain⟨go,yl⟩:=it.turn (λa=>O a\/p a) l Y (λa z=>by
    rcases z with z|z;·simp_all
    ·exact(ex.2.2 a z).elim (λq=>.inl (.inr q)) .inr) i d C;refine⟨go,_,λet H' z=>⟨ds.length-(i+1),by omega,z⟩,λx H2 y=>?_⟩;obtain⟨v,rx⟩:=yl x H2 y;split at hf;·rename_i w F;refine Z.go (t.keep v).rv rx F λKw I n2 k2 o2=>?_;refine⟨O,p,w,(t.keep v).Wp I k2 o2,?_⟩;have f:=hf.ext (Ext.of v);cases L:S w with|bad=>rw[L]at f;exact f|exc c=>rw[L]at f;exact f|ok o=>rw[L]at f;cases o with|nx k=>exactλM N H3 A u=>⟨rfl,j,M,k,(ex.trans (Ext.of v)).trans A,u,f.ext A⟩|ct k=>exactλM N H3 A u=>⟨rfl,j,M,k,(ex.trans (Ext.of v)).trans A,u,f.ext A⟩|bk k=>exact f|rt d=>exact f
   ·exact hf.elim
  ·left;have e:i=ds.length:=by lia
   subst e;rw[Bh]at hf;exact⟨it.stop l Y,hf p n l (Ext.refl _ _) t⟩
abbrev nk(C:Env->R Bool)(S:Env->R Out):Nat->Env->R Out|0,_=>.bad|n+1,ρ=>(C ρ).bind λb=>if b=true then(S ρ).bind λo=>(match o with|.nx a=>nk C S n a|.ct a=>nk C S n a|.bk a=>.ok (.nx a)|.rt d=>.ok (.rt d))else .ok (.nx ρ)
abbrev sY(fuel:Env->Nat)(C:Env->R Bool)(S:Env->R Out):Env->R Out:=λρ=>nk C S (fuel ρ) ρ
def Wr(h:sOf G Ew (sY fuel C S) cf σ H):Iq (tT G Ew C) (sOf G Ew S) cf σ H:=by
 obtain⟨O,W,ρ,u,h⟩:=h;refine⟨λm g l=>∃j e,RS G O j g l e/\iJ G Ew O cf j l (nk C S m e),⟨fuel ρ,W,ρ,u,h⟩,?_⟩;rintro m g l ⟨j,e,n,hf⟩;cases m with
 |zero=>exact hf.elim
 |succ m=>
  unfold nk at hf;refine(Ky n hf).imp λb v z1=>?_;obtain⟨y,k,a⟩:=z1;split;·rename_i p;rw[ax p]at a;refine⟨_,λw H' z=>⟨m,QX m,z⟩,O,j,e,k,?_⟩;cases q:S e with|bad=>rw[q]at a;exact a|exc c=>rw[q]at a;exact a|ok o=>rw[q]at a;cases o with|nx f=>exactλr s x t i=>⟨r,f,i,a.ext t⟩|ct f=>exactλr s x t i=>⟨r,f,i,a.ext t⟩|bk f=>exact a|rt d=>exact a
  ·rename_i p;rw[ay p]at a;exact a j g v (Ext.refl _ _) k
end
end DL
namespace DL
open PySem PySem.Spec PyProof.Rows L2
section
variable{X:Cx}{e a b c:bp}{pos p:cj}
def cr(h:PE X e t)(k:∀σ H Q,t' σ H Q->t σ H Q):PE X e t':=λpins s σ H Q I w=>h pins s σ H Q I (k σ H Q w)
def nn(h:PT X e t)(k:∀σ H Q,t' σ H Q->t σ H Q):PT X e t':=λpins s σ H Q I w=>h pins s σ H Q I (k σ H Q w)
def KE(h:PW X e t)(k:∀σ H Q,t' σ H Q->t σ H Q):PW X e t':=λd pins s σ H Q I w=>h d pins s σ H Q I (k σ H Q w)
def KG(h:PA X es t)(k:∀σ H Q,t' σ H Q->t σ H Q):PA X es t':=λd pins s σ H Q I w=>h d pins s σ H Q I (k σ H Q w)
def gq{st:dm}(h:PS X st t)(k:∀D σ H,t' D σ H->t D σ H):PS X st t':=λpins s σ H D I w=>h pins s σ H D I (k D σ H w)
def DA{st:List dm}(h:df X st t)(k:∀D σ H,t' D σ H->t D σ H):df X st t':=λpins s σ H D I w=>h pins s σ H D I (k D σ H w)
def qi(h:PI X d iter t)(k:∀σ H R,t' σ H R->t σ H R):PI X d iter t':=λpins s σ H R I w=>h pins s σ H R I (k σ H R w)
def KH(h:PO X oe t)(k:∀σ H Q,t' σ H Q->t σ H Q):PO X oe t':=λpins s σ H Q I w=>h pins s σ H Q I (k σ H Q w)
end
section
variable{X:Cx}{G:Gx}{Ew:Nat->Hp->Prop}{e a b c:bp}{pos p:cj}{Ea Eb Ec:DL.Env->R D}{La Lb:DL.Env->R (List D)}{x:ag}
def ae(i:Nat)(f: ~~~(X.N[i]?=some x)) (g:fP X.env.scope x:=by first|exact cy rfl|exact bM (cy rfl)|exact bM (bM rfl)) (h:((x==("__debug__":ag))=false)⁻¹) (d:((x==("__classdict__":ag))=false)⁻¹):PE X (.Name x pos) (ap G Ew (aa i)):=cr (pv i f g h d) λ_ _ _=>Vg
def sZ(i:Nat)(f: ~~~(X.N[i]?=some x)) (g:fP X.env.scope x:=by first|exact cy rfl|exact bM (cy rfl)|exact bM (bM rfl)) (h:((x==("__debug__":ag))=false)⁻¹) (d:((x==("__classdict__":ag))=false)⁻¹):PE X (.Name x pos) (cD G Ew (fC i)):=cr (pv i f g h d) λ_ _ _=>Vi
def cg(h:PE X e (ap G Ew Ea)):PE X e (cD G Ew (eL Ea)):=cr h λ_ _ _=>Vh
def aR:PE X (.Constant (.int i) j pos) (ap G Ew (eC (.int i))):=cr fk λ_ _ _=>sO λ_ _=>rfl
def d7:PE X (.Constant (.bool i) j pos) (ap G Ew (eC (.bl i))):=cr uR λ_ _ _=>sO λ_ _=>rfl
def vA:PE X (.Constant .none j pos) (ap G Ew (eC .ah)):=cr HP λ_ _ _=>sO λ_ _=>rfl
def bP(d:∃t,X.mg x=some (.int n t))(f: ~~~(Gl X x)) (g:((x==("__debug__":ag))=false)⁻¹):PE X (.Name x pos) (ap G Ew (eC (.int n))):=by obtain⟨t,d⟩:=d;exact cr (uS (v:=.int n) f d ⟨t,rfl⟩ g) λ_ _ _=>sO λ_ _=>rfl
def oR{ns:List Int}(d:∃a,X.mg x=some (.ref a)/\∀H,cS G.K H a (ns.map V.int))(f: ~~~(Gl X x)) (g:((x==("__debug__":ag))=false)⁻¹):PE X (.Name x pos) (ap G Ew (eC (.tup (ns.map .int)))):=by obtain⟨a,d,h⟩:=d;exact cr (uS (v:=.ref a) f d rfl g) λ_ _ _=>sO λP H=>⟨a,_,rfl,h H,aU.sN ns⟩
def qj(d:X.mg x=some (.ref (G.fm t)))(f: ~~~(Gl X x)) (g:((x==("__debug__":ag))=false)⁻¹):PE X (.Name x pos) (ap G Ew (eC (.fn t))):=cr (uS (v:=.ref _) f d rfl g) λ_ _ _=>sO λ_ _=>rfl
@[reducible]def cT:Int->Int->Bool:=λ_ _=>true
abbrev nq(i j:Int):Bool:=(decide (-(2^64)<i)&&decide (i<2^64))||(decide (-(2^64)<j)&&decide (j<2^64))
def Ws(h:nq i j=true):u1 i j:=by delta nq at h;simpa[u1]using h
abbrev kF(i j:Int):Bool:=decide (0<j)&&decide (j<1073741824)
def Wt(h:kF i j=true):IF i j:=by delta kF at h;rw[d0]at h;exact⟨of_decide_eq_true h.1,of_decide_eq_true h.2⟩
def ga(d:PE X a (ap G Ew Ea))(f:PE X b (ap G Ew Eb)):PE X (.BinOp a .Add b pos) (ap G Ew (aM cT (λi j=>.int (i+j)) Ea Eb)):=cr (ma Cy d f) λ_ _ _=>mi λ_ _ _ _=>rfl
def lu(d:PE X a (ap G Ew Ea))(f:PE X b (ap G Ew Eb)):PE X (.BinOp a .Sub b pos) (ap G Ew (aM cT (λi j=>.int (i-j)) Ea Eb)):=cr (ma IG d f) λ_ _ _=>mi λ_ _ _ _=>rfl
def DB(d:PE X a (ap G Ew Ea))(f:PE X b (ap G Ew Eb)):PE X (.BinOp a .Mult b pos) (ap G Ew (aM nq (λi j=>.int (i*j)) Ea Eb)):=cr (ma Tw d f) λ_ _ _=>Di (λ_ _=>Ws) λ_ _ _ _=>rfl
def vB(d:PE X a (ap G Ew Ea))(f:PE X b (ap G Ew Eb)):PE X (.BinOp a .FloorDiv b pos) (ap G Ew (aM kF (λi j=>.int (i/j)) Ea Eb)):=cr (ma Tx d f) λ_ _ _=>Di (λ_ _=>Wt) λ_ _ _ _=>rfl
def tj(d:PE X a (ap G Ew Ea))(f:PE X b (ap G Ew Eb)):PE X (.BinOp a .Mod b pos) (ap G Ew (aM (λi j=>decide (0<j)) (λi j=>.int (i%j)) Ea Eb)):=cr (ma Tz d f) λ_ _ _=>Di (λ_ _ h=>of_decide_eq_true h) λ_ _ _ _=>rfl
def oS(d:dH X (fg op) r)(k:∀σ H Q,ap G Ew E σ H Q->fA r f g σ H Q)(h:PE X a f)(i:PE X b g)(j:iD op b=false):PE X (.Compare a [op] [b] pos) (ap G Ew E):=cr (IQ d h i j) k
def mo(d:dH X (fg op) r)(k:∀σ H Q,ap G Ew E σ H Q->fA r f g σ H Q)(i:PE X a f)(j:PE X b g)(l:iD op b=false):PT X (.Compare a [op] [b] pos) (tT G Ew (cB E)):=nn (lb d i j l) λσ H Q h=>k σ H _ (Kb h)
def Wu(d:PE X a (ap G Ew Ea))(f:PE X b (ap G Ew Eb)):PE X (.Compare a [.Lt] [b] pos) (ap G Ew (aM cT (λi j=>.bl (decide (i<j))) Ea Eb)):=oS u4 (λ_ _ _=>mi λ_ _ _ _=>rfl) d f (eV _)
def vC(d:PE X a (ap G Ew Ea))(f:PE X b (ap G Ew Eb)):PE X (.Compare a [.LtE] [b] pos) (ap G Ew (aM cT (λi j=>.bl (decide (i<=j))) Ea Eb)):=oS sC (λ_ _ _=>mi λ_ _ _ _=>rfl) d f (eV _)
def Wv(d:PE X a (ap G Ew Ea))(f:PE X b (ap G Ew Eb)):PE X (.Compare a [.Gt] [b] pos) (ap G Ew (aM cT (λi j=>.bl (decide (j<i))) Ea Eb)):=oS sE (λ_ _ _=>mi λ_ _ _ _=>rfl) d f (eV _)
def Ww(d:PE X a (ap G Ew Ea))(f:PE X b (ap G Ew Eb)):PE X (.Compare a [.GtE] [b] pos) (ap G Ew (aM cT (λi j=>.bl (decide (j<=i))) Ea Eb)):=oS IP (λ_ _ _=>mi λ_ _ _ _=>rfl) d f (eV _)
def ze(d:PE X a (ap G Ew Ea))(f:PE X b (ap G Ew Eb)):PT X (.Compare a [.Lt] [b] pos) (tT G Ew (cB (aM cT (λi j=>.bl (decide (i<j))) Ea Eb))):=mo u4 (λ_ _ _=>mi λ_ _ _ _=>rfl) d f (eV _)
def DC(d:PE X a (ap G Ew Ea))(f:PE X b (ap G Ew Eb)):PT X (.Compare a [.LtE] [b] pos) (tT G Ew (cB (aM cT (λi j=>.bl (decide (i<=j))) Ea Eb))):=mo sC (λ_ _ _=>mi λ_ _ _ _=>rfl) d f (eV _)
def tp(d:PE X a (ap G Ew Ea))(f:PE X b (ap G Ew Eb)):PT X (.Compare a [.Gt] [b] pos) (tT G Ew (cB (aM cT (λi j=>.bl (decide (j<i))) Ea Eb))):=mo sE (λ_ _ _=>mi λ_ _ _ _=>rfl) d f (eV _)
def Wx(d:PE X a (ap G Ew Ea))(f:PE X b (ap G Ew Eb)):PT X (.Compare a [.GtE] [b] pos) (tT G Ew (cB (aM cT (λi j=>.bl (decide (j<=i))) Ea Eb))):=mo IP (λ_ _ _=>mi λ_ _ _ _=>rfl) d f (eV _)
def oT(d:PE X a (ap G Ew Ea))(f:PE X b (ap G Ew Eb)):PE X (.Compare a [.Eq] [b] pos) (ap G Ew (bC false Ea Eb)):=oS oz (λ_ _ _=>J8) d f (eV _)
def jD(d:PE X a (ap G Ew Ea))(f:PE X b (ap G Ew Eb)):PT X (.Compare a [.Eq] [b] pos) (tT G Ew (cB (bC false Ea Eb))):=mo oz (λ_ _ _=>J8) d f (eV _)
def KI(d:PE X a (ap G Ew Ea))(f:PE X b (ap G Ew Eb)):PE X (.Compare a [.NotEq] [b] pos) (ap G Ew (bC true Ea Eb)):=oS IN (λ_ _ _=>J9) d f (eV _)
def lw(d:PE X a (ap G Ew Ea))(f:PE X b (ap G Ew Eb)):PT X (.Compare a [.NotEq] [b] pos) (tT G Ew (cB (bC true Ea Eb))):=mo IN (λ_ _ _=>J9) d f (eV _)
def DD(f:PE X a (ap G Ew Ea)):PT X (.Compare a [.IsNot] [.Constant .none j d] pos) (tT G Ew (cB (jY true Ea))):=nn (pY (S5 f)) λ_ _ _ h=>Vl (qf h)
def DE(g:dH X (fg op) (hP λi j=>.bl (q i j)))(f:dH X (fg d) (hP λi j=>.bl (r i j)))(h:PE X a (ap G Ew Ea))(k:PE X b (ap G Ew Eb))(l:PE X c (ap G Ew Ec))(m:xJ [op,d] [b,c]=false:=by with_unfolding_all rfl):PE X (.Compare a [op,d] [b,c] pos) (ap G Ew (ez q r Ea Eb Ec)):=cr (TC g f h k l m) λ_ _ _=>Ka
def Wy(g:dH X (fg op) (hP λi j=>.bl (q i j)))(f:dH X (fg d) (hP λi j=>.bl (r i j)))(k:PE X a (ap G Ew Ea))(l:PE X b (ap G Ew Eb))(m:PE X c (ap G Ew Ec))(n:xJ [op,d] [b,c]=false:=by with_unfolding_all rfl):PT X (.Compare a [op,d] [b,c] pos) (tT G Ew (cB (ez q r Ea Eb Ec))):=nn (TD g f k l m n) λσ H Q h=>Ka (Kb h)
def Wz(d:PE X a (ap G Ew Ea))(f:PE X b (ap G Ew Eb))(g:iD .In b=false)(i: ~~~(X.K=G.K)):PT X (.Compare a [.In] [b] pos) (tT G Ew (cB (ml false Ea Eb))):=mo Jv (λ_ _ _ h=>by rw[i];exact Kj h) d f g
def DF(d:PE X a (ap G Ew Ea))(f:PE X b (ap G Ew Eb))(g:iD .NotIn b=false)(i: ~~~(X.K=G.K)):PT X (.Compare a [.NotIn] [b] pos) (tT G Ew (cB (ml true Ea Eb))):=mo Ug (λ_ _ _ h=>by rw[i];exact Kj h) d f g
def vD(d:X.A.units+1<dU)(f:PE X a (ap G Ew Ea))(g:PE X b (ap G Ew Eb))(h: ~~~(iD .In b=false)):PE X (.Compare a [.In] [b] pos) (ap G Ew (dY false Ea Eb)):=cr (HV (yV d f g) h) λ_ _ _=>Kl
def KJ(d:X.A.units+1<dU)(f:PE X a (ap G Ew Ea))(g:PE X b (ap G Ew Eb))(i: ~~~(iD .In b=false)):PT X (.Compare a [.In] [b] pos) (tT G Ew (cB (dY false Ea Eb))):=nn (pY (yV d f g) i) λ_ _ _ h=>Kl (qf h)
def KL(d:X.A.units+1<dU)(f:PE X a (ap G Ew Ea))(g:PE X b (ap G Ew Eb))(h: ~~~(iD .NotIn b=false)):PE X (.Compare a [.NotIn] [b] pos) (ap G Ew (dY true Ea Eb)):=cr (HV (JY d f g) h) λ_ _ _=>Km
def KN(d:X.A.units+1<dU)(f:PE X a (ap G Ew Ea))(g:PE X b (ap G Ew Eb))(i: ~~~(iD .NotIn b=false)):PT X (.Compare a [.NotIn] [b] pos) (tT G Ew (cB (dY true Ea Eb))):=nn (pY (JY d f g) i) λ_ _ _ h=>Km (qf h)
def WA(d:X.A.units+1<dU)(f:PA X es (cM G Ew La))(g:PE X b (ap G Ew Eb))(i: ~~~(iD .In b=false)):PT X (.Compare (.Tuple es j k) [.In] [b] pos) (tT G Ew (cB (vu La Eb))):=nn (pY (yV d (sH f) g) i) λ_ _ _ h=>VS (qf h)
variable{Ca Cb:DL.Env->R Bool}{rest:List bp}
def kG(h:PE X a (ap G Ew Ea)):PE X (.BoolOp op [a] pos) (ap G Ew Ea):=Tb h
def nr(d:PE X a (ap G Ew Ea))(f:PE X (.BoolOp .And (b::rest) pos) (ap G Ew Eb)):PE X (.BoolOp .And (a::b::rest) pos) (ap G Ew (f8 Ea Eb)):=cr (Tc d f) λ_ _ _=>Vm
def zf(d:PE X a (ap G Ew Ea))(f:PE X (.BoolOp .Or (b::rest) pos) (ap G Ew Eb)):PE X (.BoolOp .Or (a::b::rest) pos) (ap G Ew (oJ Ea Eb)):=cr (Td d f) λ_ _ _=>Vn
def ts(d:PE X a (ap G Ew Ea)):PE X (.UnaryOp .Not a pos) (ap G Ew (ln Ea)):=cr (Te d) λ_ _ _=>Vo
def dO(h:PE X e (ap G Ew Ea))(he:∀d,isTrue e X.env d=(do let v<-d;mN e.pos;jP [v] (truthy v)):=by intro _;rfl):PT X e (tT G Ew (cB Ea)):=nn (uT h he) λ_ _ _=>qf
def mq(d:PT X a (tT G Ew Ca)):PW X (.BoolOp .And [a] pos) (tT G Ew Ca):=S6 d
def mr(d:PT X a (tT G Ew Ca)):PW X (.BoolOp .Or [a] pos) (tT G Ew Ca):=S7 d
def lx(d:PT X a (tT G Ew Ca))(f:PW X (.BoolOp .And (b::rest) pos) (tT G Ew Cb)):PW X (.BoolOp .And (a::b::rest) pos) (tT G Ew (h8 Ca Cb)):=KE (S8 d f) λ_ _ _=>Vp
def ly(d:PT X a (tT G Ew Ca))(f:PW X (.BoolOp .Or (b::rest) pos) (tT G Ew Cb)):PW X (.BoolOp .Or (a::b::rest) pos) (tT G Ew (iX Ca Cb)):=KE (S9 d f) λ_ _ _=>Vq
def gz(h:PW X e (tT G Ew Ca)):PT X e (tT G Ew Ca):=h.pt
def gM(d:PT X a (tT G Ew Ca)):PT X (.UnaryOp .Not a pos) (tT G Ew (eZ Ca)):=nn (Ta d) λ_ _ _=>Vr
def zg(d:PT X c (tT G Ew Ca))(f:PE X a (ap G Ew Ea))(g:PE X b (ap G Ew Eb)):PE X (.IfExp c a b pos) (ap G Ew (kD Ca Ea Eb)):=cr (Tf d f g) λ_ _ _=>Vt
variable{es:List bp}
def aw:PA X [] (cM G Ew am):=KG bG λ_ _ _=>Vw
def ak(d:PE X e (ap G Ew Ea))(f:PA X es (cM G Ew La))(g: ~~~(aB (e::es) X.env=(false,aP e X.env)::aB es X.env)):PA X (e::es) (cM G Ew (ac Ea La)):=KG (aV d f g) λ_ _ _=>Vx
def gb(h:PA X es (cM G Ew La)):PE X (.List es pos) (ap G Ew (de La)):=cr (lg h) λ_ _ _=>Vy
def h9(h:PA X es (cM G Ew La)):PE X (.Tuple es d pos) (ap G Ew (dN La)):=cr (sH h) λ_ _ _=>Vz
def WB(c j:Nat)(d:(G.eh c).Nodup)(g:(G.eh c)[j]?=some f)(cl:Cls G.K (G.cm c))(na:iU G.K (G.cm c) f)(he:PE X e (ap G Ew Ea))(i: ~~~(jl e f X.env (aP e X.env)=aP e X.env)) (k: ~~~(X.K=G.K)):PE X (.Attribute e f pos) (ap G Ew (ao c j Ea)):=cr (yF he i) λ_ _ _ h=>by rw[k];exact VC d g cl na h
def WC(i c j:Nat)(g:(G.eh c).Nodup)(k:(G.eh c)[j]?=some f)(cl:Cls G.K (G.cm c))(na:iU G.K (G.cm c) f)(l: ~~~(X.N[i]?=some x)) (m:fP X.env.scope x:=by first|exact cy rfl|exact bM (cy rfl)|exact bM (bM rfl)) (n:((x==("__debug__":ag))=false)⁻¹) (d:((x==("__classdict__":ag))=false)⁻¹) (o: ~~~(jl (.Name x p) f X.env (aP (.Name x p) X.env)=aP (.Name x p) X.env)) (q: ~~~(X.K=G.K)):PE X (.Attribute (.Name x p) f pos) (ap G Ew (dw i c j)):=cr (yF (pv i l m n d) o) λ_ _ _ h=>by rw[q];exact VD g k cl na h
def bX(d:PE X a (ap G Ew Ea))(f:PE X b (ap G Ew Eb))(g:yJ b:=by intro _ _;rfl) (i: ~~~(X.K=G.K)):PE X (.Subscript a b pos) (ap G Ew (bc Ea Eb)):=cr (CM Js d f g) λ_ _ _ h=>by rw[i];exact VE h
def KO(d:PE X a (cD G Ew La))(f:PE X b (ap G Ew Eb))(g:yJ b:=by intro _ _;rfl) (i: ~~~(X.K=G.K)):PE X (.Subscript a b pos) (ap G Ew (lp La Eb)):=cr (CM Jr d f g) λ_ _ _ h=>by rw[i];exact VF h
def zh(d:X.A.units+1<dU)(f:PE X a (ap G Ew Ea))(g:PE X b (ap G Ew Eb))(h:vm b:=by intro _ _;rfl):PE X (.Subscript a b pos) (ap G Ew (jZ Ea Eb)):=cr (yU d f g h) λ_ _ _=>VR
def WD(d:X.A.units+1<dU)(f:PE X a (ap G Ew Ea))(g:PA X es (cM G Ew La))(h:vm (.Tuple es i j):=by intro _ _;rfl):PE X (.Subscript a (.Tuple es i j) pos) (ap G Ew (vv Ea La)):=cr (yU d f (sH g) h) λ_ _ _=>VT
variable{oe KP:Option bp}{Oa Ob:DL.Env->R (Option Int)}
def vE:PO X none (tO G Ew ir):=KH CJ λ_ _ _=>VG
def iY(h:PE X e (ap G Ew Ea)):PO X (some e) (tO G Ew (cN Ea)):=KH (u8 h) λ_ _ _=>VH
def mu(d:PE X a (cD G Ew La))(f:PO X oe (tO G Ew Oa))(g:PO X KP (tO G Ew Ob))(i: ~~~(X.K=G.K)):PE X (.Subscript a (.Slice oe KP none j) pos) (ap G Ew (ei La Oa Ob)):=cr (Jp Jt d f g) λ_ _ _ h=>by rw[i];exact VJ h
def gr(f:X.mg "len"=none)(g:PE X a (ap G Ew Ea))(i: ~~~(Gl X "len")) (d: ~~~(aB [a] X.env=(false,aP a X.env)::aB [] X.env)) (k: ~~~((bF pos (aB [] X.env)).any (·.1)=false)) (j: ~~~(X.K=G.K)):PE X (.Call (.Name "len" p) [a] [] pos) (ap G Ew (cE Ea)):=cr (p8 CS i f Rh (aV g bG d) (he:=d)) λ_ _ _ h=>by rw[j];exact VL h
def WE(f:X.mg "len"=none)(g:PE X a (cD G Ew La))(i: ~~~(Gl X "len")) (d: ~~~(aB [a] X.env=(false,aP a X.env)::aB [] X.env)) (k: ~~~((bF pos (aB [] X.env)).any (·.1)=false)) (j: ~~~(X.K=G.K)):PE X (.Call (.Name "len" p) [a] [] pos) (ap G Ew (sS La)):=cr (p8 CS i f Rh (aV g bG d) (he:=d)) λ_ _ _ h=>by rw[j];exact VM h
end
section
variable{X:Cx}{G:Gx}{Ew:Nat->Hp->Prop}{e a b c:bp}{es:List bp}{pos p apos:cj}{Ea Eb Ec:DL.Env->R D}{La Lb:DL.Env->R (List D)}{Ca:DL.Env->R Bool}{x:ag}
def oU(f:X.mg "any"=none)(g:PE X a (cD G Ew La))(i: ~~~(X.calm=true)) (j: ~~~(Gl X "any")) (d: ~~~(aB [a] X.env=(false,aP a X.env)::aB [] X.env)) (l: ~~~((bF pos (aB [] X.env)).any (·.1)=false)) (k: ~~~(X.K=G.K)):PE X (.Call (.Name "any" p) [a] [] pos) (ap G Ew (eJ (λbs=>bs.any id) La)):=cr (p8 (Up i) j f boot_any (aV g bG d) (he:=d)) λ_ _ _ h=>by rw[k];exact VO h
def tD(f:X.mg "all"=none)(g:PE X a (cD G Ew La))(i: ~~~(X.calm=true)) (j: ~~~(Gl X "all")) (d: ~~~(aB [a] X.env=(false,aP a X.env)::aB [] X.env)) (l: ~~~((bF pos (aB [] X.env)).any (·.1)=false)) (k: ~~~(X.K=G.K)):PE X (.Call (.Name "all" p) [a] [] pos) (ap G Ew (eJ (λbs=>bs.all id) La)):=cr (p8 (Uq i) j f boot_all (aV g bG d) (he:=d)) λ_ _ _ h=>by rw[k];exact VP h
abbrev zi(La:DL.Env->R (List D)):DL.Env->R D:=λd=>(La d).bind λds=>.ok (.lst ds)
def WF(g:X.mg "list"=none)(i:PE X a (cD G Ew La))(j: ~~~(Gl X "list")) (f: ~~~(aB [a] X.env=(false,aP a X.env)::aB [] X.env)) (o: ~~~((bF pos (aB [] X.env)).any (·.1)=false)) (r: ~~~(X.K=G.K)):PE X (.Call (.Name "list" p) [a] [] pos) (ap G Ew (zi La)):=cr (CI Uh j g ab3 (aV i bG f) (he:=f)) λσ H Q h=>by obtain⟨P,s,k,h⟩:=h;delta li eW;refine(jx k h).imp λv t z1=>?_;obtain⟨ds,a,vs,e,u,q,l,d,m⟩:=z1;subst e;exact⟨a,vs,rfl,.inl (.inl q),λw n=>vq d l m n⟩
structure bh(P:bA)(w:bB)(mg:ag->Option aj)(base:aZ)(G:Gx)(CX:hU)(t:Nat)(name:ag)(k:Nat)(ps:List ag)(F:List D->R D):Prop where
 ok:∃fd,bS P w G.K mg base CX k (G.fm t) fd ps (gx G ps.length F)/\Binds G.K fd ps []
 mg:mg name=some (.ref (G.fm t))
 kp:jJ G.K (.ref (G.fm t))=true
def aX:Passes aS X E:=λ_ _ _ _ _ _ _ h=>h.elim
def WG(B:bh X.prog X.w X.mg X.base G i t name k ps F)(j:bO k X.A)(l:Passes i X (xk G Ew))(m:PA X (e::es) (cM G Ew La))(n: ~~~(Gl X name)) (d:((name==("__debug__":ag))=false)⁻¹) (he: ~~~(aB (e::es) X.env=(false,aP e X.env)::aB es X.env)) (hpl: ~~~((bF pos (aB es X.env)).any (·.1)=false)) (o: ~~~(X.K=G.K)):PE X (.Call (.Name name p) (e::es) [] pos) (ap G Ew (az ps.length F La)):=by obtain⟨⟨r,f,g⟩,q,h⟩:=B;rw[<-o]at f g h;exact cr (Jb f j n q h g .nil l m d he hpl) λ_ _ _=>Kf
def WH(B:bh X.prog X.w X.mg X.base G j t name k [] F)(l:bO k X.A)(m:Passes j X (xk G Ew))(n: ~~~(Gl X name)) (d:((name==("__debug__":ag))=false)⁻¹) (o: ~~~(X.K=G.K)):PE X (.Call (.Name name p) [] [] pos) (ap G Ew (az 0 F am)):=by obtain⟨⟨s,f,g⟩,r,i⟩:=B;rw[<-o]at f g i;exact cr (TY f l n r i g .nil m d) λ_ _ _ h=>by haveI q:=Kf h;obtain⟨P,u,v,z⟩:=q;exact z [] _ (aG.refl _) rfl
structure tE(P:bA)(w:bB)(mg:ag->Option aj)(base:aZ)(G:Gx)(CX:hU)(c t:Nat)(m:ag)(k:Nat)(ps:List ag)(F:List D->R D):Prop where
 ok:∃fd,bS P w G.K mg base CX k (G.fm t) fd ps (gx G ps.length F)/\Binds G.K fd ps []
 mt:Meth G.K (G.cm c) m (G.fm t)
 cl:Cls G.K (G.cm c)
 no:∀vs:List V,((G.eh c).zip vs).lookup m=none
def WI{c t k:Nat}(B:tE X.prog X.w X.mg X.base G l c t m k ps F)(n:bO k X.A)(o:Passes l X (xk G Ew))(q:PE X a (ap G Ew Ea))(r:PA X (e::es) (cM G Ew La))
    (g: ~~~(aB (e::es) X.env=(false,aP e X.env)::aB es X.env)) (hpl: ~~~((bF pos (aB es X.env)).any (·.1)=false)) (s:aP (.Call (.Attribute a m apos) (e::es) [] pos) X.env=(do
     let h<-aP a X.env
     mN apos.atName let(f,d)<-jP [h] (pE h m y)
     pF pos f d (bF pos (aB (e::es) X.env)) (ii pos (ij [] X.env))):=by rfl) (u: ~~~(X.K=G.K)):PE X (.Call (.Attribute a m apos) (e::es) [] pos) (ap G Ew (dI c ps.length F Ea La)):=by obtain⟨⟨z,i,j⟩,mt,cl,v⟩:=B;rw[<-u]at i j mt cl;exact cr (Jc q cl mt i n j .nil o r g hpl s) λ_ _ _=>VA v
structure gN(P:bA)(w:bB)(mg:ag->Option aj)(base:aZ)(G:Gx)(CX:hU)(c t:Nat)(name:ag)(k:Nat)(ps:List ag)(n:Nat)(F:List D->R (List D)):Prop where
 ok:∃fd,bS P w G.K mg base CX k (G.fm t) fd ps (oM G c n F)/\Binds G.K fd ps []
 KQ:Mk G.K (G.cm c) (G.fm t)
 mg:mg name=some (.ref (G.cm c))
def WJ{c t k n:Nat}(B:gN X.prog X.w X.mg X.base G aS c t name k ps n F)(i:bO (k+1) X.A)(j:PA X (e::es) (cM G Ew La))(l: ~~~(Gl X name)) (d:((name==("__debug__":ag))=false)⁻¹) (he: ~~~(aB (e::es) X.env=(false,aP e X.env)::aB es X.env)) (hpl: ~~~((bF pos (aB es X.env)).any (·.1)=false)) (m: ~~~(X.K=G.K)):PE X (.Call (.Name name p) (e::es) [] pos) (ap G Ew (eI c n F La)):=by obtain⟨⟨q,f,g⟩,h,o⟩:=B;rw[<-m]at f g h;exact cr (Je h f i l o g .nil (aX (E:=E0)) j d he hpl) λ_ _ _=>VB
variable{tg iter:bp}
def dZ(h:PE X iter (ap G Ew Ea))(d: ~~~(X.K=G.K)):PI X tg iter (tI G Ew (eL Ea)):=qi (Ix h) λ_ _ _ h=>by rw[d];exact VW h
def DG(h:PE X iter (ap G Ew Ea))(d: ~~~(X.K=G.K)):PI X tg iter (tI G Ew (kE Ea)):=qi (Tp h) λ_ _ _ h=>by rw[d];exact VY h
def zj(d:X.mg "range"=none)(f:PA X [a] (cM G Ew La))(g: ~~~(Gl X "range")) (h: ~~~(aB [a] X.env=[(false,aP a X.env)])):PI X tg (.Call (.Name "range" p) [a] [] pos) (tI G Ew (jz La)):=qi (Iz g d f h) λ_ _ _=>V1
structure zk(X:Cx)(G:Gx)(tg:bp)(T:D->DL.Env->R DL.Env)(vs:List Nat):Prop where ex:∃g,PG X tg g/\lq G g T vs
structure zl(X:Cx)(G:Gx)(WK:List bp)(T:List D->DL.Env->R DL.Env)(vs:List Nat):Prop where ex:∃g,uW X WK g/\vw G g T vs
def gB(i:Nat)(d:X.N.Nodup)(f: ~~~(X.N[i]?=some x)) (g:Loc X.env.scope x:=by first|exact cy rfl|exact bM rfl) (hf:X.fn x=true\/X.env.scope.names.lookup x=some .local:=by first|exact .inl rfl|exact .inr rfl):zk X G (.Name x pos) (a1 i) [i]:=⟨iT i,oy d f g hf,y8 i⟩
def DH:zl X G [] j0 []:=⟨Cm,Im,Kr⟩
def qk(h:zk X G tg T vs)(f:zl X G d i j)(k: ~~~((mP (tg::d) X.env).map (·.2)=rK tg X.env::(mP d X.env).map (·.2))):zl X G (tg::d) (e7 T i) (vs++j):=by obtain⟨g,l,m⟩:=h;obtain⟨n,o,q⟩:=f;exact⟨yr g n,Cn l o k,Dt m q⟩
def DI(g:zl X G d h i)(j: ~~~(X.calm=true)) (l: ~~~((mP d X.env).length=n)) (f: ~~~((mP d X.env).findIdx? (·.1)=none)) (m: ~~~(X.K=G.K)):zk X G (.Tuple d k pos) (jA n h) i:=by obtain⟨o,q,r⟩:=g;exact⟨yt X.K n o,Io j q l f,by rw[m];exact Ks r⟩
def fE(own:List (ag×Nat))(i:X.N.Nodup)(j:PI X tg iter (tI G Ew La))(k:ll X.N X.env.scope scope own=true)(l:∃g,lq G g T (own.map (·.2))/\∀(s:ar)(H:Hp)(C:af)(cl:List (ag×af))(d:List af),PG (X.db s H scope (ec scope cl C X.env) d) tg g)(m:∀(s:ar)(H:Hp)(C:af)(cl:List (ag×af))(d:List af),lj (X.db s H scope (ec scope cl C X.env) d) f (tT G mn Ca))(he:∀(s:ar)(H:Hp)(C:af)(cl:List (ag×af))(d:List af),PE (X.db s H scope (ec scope cl C X.env) d) h (ap G mn Eb))(n: ~~~(X.calm=true)) (o:∀x,nW iter X.env x=pure x:=by intro _;rfl):PE X (.ListComp h [⟨tg,iter,f,0⟩] scope pos) (ap G Ew (cw La T Ca Eb (own.map (·.2)))):=by obtain⟨g,q,r⟩:=l;exact cr (JN n i j (vg k) r m he o) λ_ _ _=>Kv q
abbrev cZ:DL.Env->R Bool:=λ_=>.ok true
def WL:lj X [] (tT G Ew cZ):=λpins s σ H Q I h=>C6 pins s σ H Q I (by obtain⟨P,d,f,h⟩:=h;exact h H (aG.refl _))
def zn(h:PT X c (tT G Ew Ca)):lj X [c] (tT G Ew Ca):=UA h
end
section
variable{X:Cx}{G:Gx}{Ew:Nat->Hp->Prop}{e a b c:bp}{es:List bp}{st:dm}{rest:List dm}{pos pos' p apos:cj}{Ea Eb Ec:DL.Env->R D}{La Lb:DL.Env->R (List D)}{Ca:DL.Env->R Bool}{S T:DL.Env->R Out}{x:ag}
def bW:df X [] (sOf G Ew bo):=DA io λ_ _ _=>V4
def aC(d:PS X st (sOf G Ew S))(f:df X rest (sOf G Ew T)):df X (st::rest) (sOf G Ew (au S T)):=DA (bV d f) λ_ _ _=>V5
def aE(d:PS X st (sOf G Ew S)):df X [st] (sOf G Ew S):=cK d
def bi(he:PE X e (ap G Ew Ea)):PS X (.Return (some e) pos) (sOf G Ew (aQ Ea)):=gq (ee he) λ_ _ _=>V6
def lz(i:Nat)(f: ~~~(X.N[i]?=some x)) (g:fP X.env.scope x:=by first|exact cy rfl|exact bM (cy rfl)|exact bM (bM rfl)) (h:((x==("__debug__":ag))=false)⁻¹) (d:((x==("__classdict__":ag))=false)⁻¹):PS X (.Return (some (.Name x pos')) pos) (sOf G Ew (gK i)):=gq (ee (pv i f g h d)) λ_ _ _=>V7
def gO(he:PE X e (ap G Ew Ea))(d: ~~~(fJ e none pos.line X.env=pure false)):PS X (.Expr e pos) (sOf G Ew (eA Ea)):=gq (iI he d) λ_ _ _=>V8
def bQ(d:PT X c (tT G Ew Ca))(f:df X g (sOf G Ew S))(h:df X i (sOf G Ew T)):PS X (.If c g i pos) (sOf G Ew (bf Ca S T)):=gq (ip d f h) λ_ _ _=>V9
def cP(i:Nat)(d:X.N.Nodup)(he:PE X e (ap G Ew Ea))(f: ~~~(X.N[i]?=some x)) (g:Loc X.env.scope x:=by first|exact cy rfl|exact bM rfl) (h: ~~~(fJ e (some (.Name x pos')) pos.line X.env=pure false)) (hf:X.fn x=true\/X.env.scope.names.lookup x=some .local:=by first|exact .inl rfl|exact .inr rfl):PS X (.Assign [.Name x pos'] e pos) (sOf G Ew (bg i Ea)):=gq (uX d f g he h hf) λ_ _ _=>Wa
def nu(i:Nat)(d:X.N.Nodup)(he:PA X es (cM G Ew La))(f: ~~~(X.N[i]?=some x)) (g:Loc X.env.scope x:=by first|exact cy rfl|exact bM rfl) (h: ~~~(fJ (.List es p) (some (.Name x pos')) pos.line X.env=pure false)) (hf:X.fn x=true\/X.env.scope.names.lookup x=some .local:=by first|exact .inl rfl|exact .inr rfl):PS X (.Assign [.Name x pos'] (.List es p) pos) (sOf G Ew (gy i La)):=gq (uX d f g (lg he) h hf) λ_ _ _=>Wc
def KR(i:Nat)(d:X.N.Nodup)(f: ~~~(X.N[i]?=some x)) (g:Loc X.env.scope x:=by first|exact cy rfl|exact bM rfl) (h: ~~~(fJ (.Dict [] [] p) (some (.Name x pos')) pos.line X.env=pure false)) (hf:X.fn x=true\/X.env.scope.names.lookup x=some .local:=by first|exact .inl rfl|exact .inr rfl):PS X (.Assign [.Name x pos'] (.Dict [] [] p) pos) (sOf G Ew (sU i)):=gq (uX d f g UZ h hf) λ_ _ _=>We
def KS(i:Nat)(d:X.N.Nodup)(f: ~~~(X.N[i]?=some x)) (g:Loc X.env.scope x:=by first|exact cy rfl|exact bM rfl) (h: ~~~(fJ (.Dict [] [] p) (some (.Name x pos')) pos.line X.env=pure false)) (hf:X.fn x=true\/X.env.scope.names.lookup x=some .local:=by first|exact .inl rfl|exact .inr rfl):PS X (.Assign [.Name x pos'] (.Dict [] [] p) pos) (sOf G Ew (sV i)):=gq (uX d f g U0 h hf) λ_ _ _=>Wf
def KU(i:Nat)(d:X.N.Nodup)(he:PE X e (ap G Ew Ea))(f: ~~~(X.N[i]?=some x)) (g:Loc X.env.scope x:=by first|exact cy rfl|exact bM rfl) (hf:X.fn x=true\/X.env.scope.names.lookup x=some .local:=by first|exact .inl rfl|exact .inr rfl):PS X (.AugAssign (.Name x pos') .Add e pos) (sOf G Ew (nj i (λi j=>i+j) Ea)):=gq (Tj d f g he Tk hf) λ_ _ _=>Wb
def KW{T:D->DL.Env->R DL.Env}(i:Nat)(own:List (ag×Nat))(t:X.N.Nodup)(u:PI X l iter (tI G Ew La))(w:ll X.N X.env.scope scope own=true)(y:∃g,lq G g T (own.map (·.2))/\∀(s:ar)(H:Hp)(C:af)(cl:List (ag×af))(f:List af),PG (X.db s H scope (ec scope cl C X.env) f) l g)(z:∀(s:ar)(H:Hp)(C:af)(cl:List (ag×af))(f:List af),lj (X.db s H scope (ec scope cl C X.env) f) j (tT G mn Ca))(he:∀(s:ar)(H:Hp)(C:af)(cl:List (ag×af))(f:List af),PE (X.db s H scope (ec scope cl C X.env) f) k (ap G mn Eb))(A: ~~~(X.N[i]?=some x)) (m: ~~~(X.env.scope.names.lookup x=some .local)) (n:fJ (.ListComp k [⟨l,iter,j,0⟩] scope p) (some (.Name x pos')) pos.line X.env=pure true:=by exact JO rfl rfl rfl (by decide+kernel)) (B: ~~~(X.calm=true)) (E:∀x,nW iter X.env x=pure x:=by intro _;rfl):PS X (.Assign [.Name x pos'] (.ListComp k [⟨l,iter,j,0⟩] scope p) pos) (sOf G Ew (bg i (cw La T Ca Eb (own.map (·.2))))):=by obtain⟨g,o,F⟩:=y;refine gq (C8 B t A m n u (vg w) F z he E) λD σ H h=>?_;obtain⟨O,W,L,I,h⟩:=h;exact Kv o ((jB I h).imp λv J ⟨d,s,r,q,o⟩=>o W _ J (Ext.refl _ _) (q.asg r))
def KY:Jx X "list.extend" zd:=by
 intro pins s σ H x vs v us Q I j k h;obtain⟨l,b,xs,A,rfl,rfl,g,m,B,q⟩:=h;subst j;obtain⟨u,rfl,o⟩:=k.one;subst o;obtain⟨z,its,n,r,C,e⟩:=I.Jz g;obtain⟨z2,d,t,i,w⟩:=m.ok I.a9;have y:=i.length;have hsz:its.toArray.size+d.toArray.size<=bj:=by rw[lW,lW];lia
 have f:¬(!its.toArray.isEmpty&&Q5 (its.toArray.size+d.toArray.size))=true:=by rw[Ul hsz,abK];exact bE
 refine call_meets Ri ⟨_,e,rfl⟩ F.entry_list_extend (F.args_list_extend_2 _ _) (AutoSeq1.list_extend_list_list_0 l _ n b _ t f (by lia) (by lia)) ⟨e,w,?_⟩;refine⟨.ah,_,I.Jy g e (by simp) (r.append i) ?_,rfl,q⟩;simp_all
def KZ:dH X (ux .Add) Dj:=by
 intro pins s σ H x y v u Q I g i h;obtain⟨l,b,xs,w,rfl,rfl,j,k,A,q⟩:=h;subst g;subst i;obtain⟨z,its,n,r,e⟩:=j.ok I.a9;obtain⟨z2,d,B,f,m⟩:=k.ok I.a9;haveI C:=r.length;haveI o:=f.length;refine PySem.P.add_list e m ?_ (by simp_all);haveI t:its.toArray++d.toArray=(its++d).toArray:=by simp
 rw[t];exact⟨.ref _,_,I.Uk (r.append f) (by simp_all),rfl,q _ I.fresh⟩
def K0(d:PE X a (cD G Ew La))(f:PE X b (cD G Ew Lb)):PE X (.BinOp a .Add b pos) (ap G Ew (sQ La Lb)):=cr (ma KZ d f) λ_ _ _=>Vj
def DJ{K:br}:∀ns:List Int,qc K H (ns.map V.int) (ns.map uB)|[]=>.nil|n::r=>.cons (.int n) (DJ r)
def K1:∀ns d:List Int,Rj (ns.map uB) (d.map uB)=decide (ns=d)|[],[]=>by rfl|[],_::_=>by rfl|_::_,[]=>by rfl|n::ns,m::d=>by simp only[gv,Rj,PyData.eqv,K1 ns d];grind
def shaped_ints(ns:List Int):GC (.list (ns.map uB))=true:=by
 have g:ab4 (ns.map uB)=true:=by induction ns with|nil=>rfl|cons n r f=>assumption
 have h:ab5 (ns.map uB)<=1:=by induction ns with|nil=>simp[ab5]|cons n r f=>have d:ab4 (r.map uB)=true:=g;have:=f d;assumption
 simp only[GC,PyData.canLay0,PyData.depth];lia
def DK(f:X.A.units+64<dU):dH X (fg .Eq) (yY λns d=>decide (ns=d)):=by intro pins s σ H x y v u Q I g i h;obtain⟨a,b,ns,d,rfl,rfl,j,k,q⟩:=h;refine Ur f pins s σ H _ _ v u Q I g i ⟨_,_,.lst (.inl j) (DJ ns),.lst (.inl k) (DJ d),shaped_ints ns,shaped_ints d,?_⟩;show Q (.bl (Rj _ _)) H;rw[K1];exact q
def K2(d:X.A.units+64<dU)(f:PE X a (cD G Ew La))(g:PE X b (cD G Ew Lb)):PE X (.Compare a [.Eq] [b] pos) (ap G Ew (h7 (λns h=>decide (ns=h)) La Lb)):=oS (DK d) (λ_ _ _=>yZ) f g (eV _)
def zo(d:X.A.units+64<dU)(f:PE X a (cD G Ew La))(g:PE X b (cD G Ew Lb)):PT X (.Compare a [.Eq] [b] pos) (tT G Ew (cB (h7 (λns h=>decide (ns=h)) La Lb))):=mo (DK d) (λ_ _ _=>yZ) f g (eV _)
def oV(i:Nat)(he:PE X e (ap G Ew Ea))(l: ~~~(X.N[i]?=some x)) (m:fP X.env.scope x:=by first|exact cy rfl|exact bM (cy rfl)|exact bM (bM rfl)) (n:((x==("__debug__":ag))=false)⁻¹) (k:((x==("__classdict__":ag))=false)⁻¹) (g: ~~~(aB [e] X.env=(false,aP e X.env)::aB [] X.env)) (d: ~~~(jl (.Name x pos') "append" X.env (aP (.Name x pos') X.env)=aP (.Name x pos') X.env)) (j: ~~~(((bF p (aB [e] X.env)).all (λx=>!x.1)&&(ii p (ij [] X.env)).all (λx=>x.1.isSome)&&decide ([e].length+([]:List n0).length+(if([]:List n0).isEmpty then 0 else 1)<30))=true)) (f: ~~~((apos.endLine==p.line)=true)) (o: ~~~(fJ (.Call (.Attribute (.Name x pos') "append" apos) [e] [] p) none pos.line X.env=pure false)) (q: ~~~(X.K=G.K)):PS X (.Expr (.Call (.Attribute (.Name x pos') "append" apos) [e] [] p) pos) (sOf G Ew (eK i Ea)):=gq (iI (yL GJ Q6 ab6 JA (pv i l m n k) (aV he bG g) d j f g) o) λ_ _ _ h=>by rw[q];exact Wg h
end
end DL
namespace L2
open PySem PySem.Spec PyProof.Rows
def da.there(x:da P w H h a o):∃u,h.get? a=some u:=by cases o with|lst xs=>obtain⟨_,_,_,_,e⟩:=x;grind|tup xs=>obtain⟨_,_,_,_,e,_⟩:=x;grind|dK kvs=>obtain⟨_,_,_,_,o,_,_,e,_⟩:=x;grind|dT kvs=>obtain⟨_,_,_,_,o,_,_,e,_⟩:=x;grind|set S n=>obtain⟨o,_,_,_,e,_⟩:=x;grind|ins C dx fs=>obtain⟨_,_,_,e,_⟩:=x;grind|own y=>exact x|xd fs=>obtain⟨_,⟨_,_,_,e,_⟩,_⟩:=x;grind|ik lo b=>obtain⟨_,_,_,e⟩:=x;grind|il c u=>obtain⟨e,_⟩:=x;grind|fj ps=>exact⟨_,(show h.get? a=some _ from x)⟩|met f y=>exact⟨_,(show h.get? a=some _ from x)⟩|ext d=>obtain⟨_,e,_⟩:=x;exact e
structure iZ(P:bA)(w:bB)(outer:List Env)(H:Hp)(s:ar)(H':Hp)(a:af)(cls:aj)(B:aZ)(a0:aj)(s':ar):Prop where
 os:s'.os=s.os
 bare:rJ s'.gens
 un:Un (eG outer) [] H H' s.heap s'.heap
 a9:dM P w H' s'.heap
 vF:Rk B outer a cls a0 s'.heap
 DM:∀b o,s.heap.get? b=some o->H b=none->b∉eG outer->B.get? b=some o
 sA:∀b u,H' b=some u->∃o,s'.heap.get? b=some o/\B.get? b=some o
 DN:∀b o,s.heap.get? b=some o->b∉eG outer->∃o',B.get? b=some o'
abbrev bH(P:bA)(w:bB):hU:=λouter H s E e s'=>∃a cls H' B a0,e=.ref a/\iZ P w outer H s H' a cls B a0 s'/\E cls none H'
section
variable{X:Cx}{pins:List (af×bu)}{σ:St}{H H':Hp}{s s':ar}{a:af}{cls a0:aj}{B:aZ}
def iZ.on(I:Inv X pins σ H s)(F:iZ X.prog X.w X.stack H s H' a cls B a0 s')(st:B.StaysIn h)(l:s'.heap.UpToSlots h):Un (eG X.stack) [] H H' s.heap h/\dM X.prog X.w H' h:=by
 have g:∀b o,s.heap.get? b=some o->H b=none->b∈eG X.stack->∃z,h.get? b=some {o with slots:=z}:=λb o e n f=>by obtain⟨z,m⟩:=F.un.slot b o e n f (by simp);obtain⟨_,o',i,d⟩:=I.stack.mem f;rw[e]at i;cases i;obtain⟨z2,t⟩:=l b _ m d;grind
 refine⟨⟨λb o e n f _=>st b o (F.DM b o e n f),λb o e n f _=>g b o e n f,F.un.free,λb o e _=>?_,F.un.jV,F.un.ju,F.un.jv⟩,λb o e=>?_⟩
 ·by_cases f:b∈eG X.stack;·obtain⟨z,q⟩:=g b o e (I.yk b f) f;grind
  ·obtain⟨o',q⟩:=F.DN b o e f;exact⟨o',st b o' q⟩
 ·refine(F.a9 b o e).k7 (λc u j q=>?_) (λ_ q=>q) λ_ _ q=>q;have:∃v,H' c=some v:=by
   rcases j with rfl|j;·grind
   ·grind
  obtain⟨v,p⟩:=this;obtain⟨x,k,r⟩:=F.sA c v p;rw[q]at k;cases k;exact st c _ r
def iZ.inv(I:Inv X pins σ H s)(F:iZ X.prog X.w X.stack H s H' a cls B a0 s')(st:B.StaysIn h)(d:s'.heap.UpToSlots h):Inv X pins σ H' {s' with heap:=h}:=by obtain⟨u,c⟩:=F.on I st d;exact I.HM F.os u c F.bare λb z=>bw z (by simp)
def iZ.again(I:Inv X pins σ H s)(F:iZ X.prog X.w X.stack H s H' a cls B a0 s'){h:aZ}(c:Rk B X.stack a cls a0 h)(f:s'.heap.UpToSlots h):iZ X.prog X.w X.stack H s H' a cls B a0 {s' with heap:=h}:=by obtain⟨u,d⟩:=F.on I c.1 f;exact⟨F.os,F.bare,u,d,c,F.DM,λb v e=>by obtain⟨o,_,q⟩:=F.sA b v e;exact⟨o,c.1 b o q,q⟩,F.DN⟩
end
section
variable{X:Cx}{pins:List (af×bu)}{σ:St}{H H':Hp}{s s':ar}{a:af}{cls a0:aj}{B:aZ}
def K3(c:X.stack=X.env::X.outer)(hf:X.env.frame=some X.env.locals)(h:b∈eG X.stack):b=X.env.locals\/b∈X.fs:=by rw[c]at h;delta eG at h;rw[QQ,hf]at h;exact ff.mp h
def old_ne(I:Inv X pins σ H s)(e:X.er.heap.get? b=some o):b≠X.env.locals:=ea (gf (cu e) I.ok.above)
def iZ.out(I:Inv X pins σ H s)(f:X.stack=X.env::X.outer)(hf:X.env.frame=some X.env.locals)(j:X.ex=[])(F:iZ X.prog X.w X.stack H s H' a cls B a0 s')(g:Rk B X.outer a cls a0 h)(k:s'.heap.UpToSlots h):iZ X.prog X.w X.outer X.om X.er H' a cls B a0 {s' with heap:=h}:=by
 obtain⟨u,i⟩:=F.on I g.1 k;have nx:∀b:af,b∉X.ex:=λb z=>by simp_all
 have ns:∀b o,X.er.heap.get? b=some o->b∉X.fs->b∉eG X.stack:=λb o e c z=>by
  rcases K3 f hf z with q|q;·exact old_ne I e q
  lia
 refine⟨F.os.trans I.os,F.bare,⟨λb o e n c _=>?_,λb o e n c _=>?_,λb o e n _=>?_,λb o e _=>?_,λb xs e=>u.jV b xs (I.base.jV b xs e),λb o xs e=>u.ju b o xs (I.base.ju b o xs e),λb ps e=>?_⟩,i,g,λb o e n c=>?_,λb v e=>?_,λb o e c=>?_⟩;·exact u.keep b o (I.base.keep b o e n c (nx b)) (I.base.free b o e n (nx b)) (ns b o e c) (by simp)
 ·obtain⟨z,d⟩:=I.base.slot b o e n c (nx b);obtain⟨z2,l⟩:=u.any d (I.base.free b o e n (nx b)) (by simp);grind
 ·obtain⟨o',d⟩:=I.base.there b o e (nx b);exact u.free b o' d (I.base.free b o e n (nx b)) (by simp)
 ·obtain⟨o',d⟩:=I.base.there b o e (nx b);exact u.there b o' d (by simp)
 ·obtain⟨m,d⟩:=I.base.jv b ps e;obtain⟨p,l⟩:=u.jv b _ d;grind
 ·exact F.DM b o (I.base.keep b o e n c (nx b)) (I.base.free b o e n (nx b)) (ns b o e c)
 ·obtain⟨o,_,q⟩:=F.sA b v e;exact⟨o,g.1 b o q,q⟩
 ·obtain⟨o',d⟩:=I.base.there b o e (nx b);exact F.DN b o' d (ns b o e c)
def WM(I:Inv X pins σ H s)(b:X.stack=X.env::X.outer)(hf:X.env.frame=some X.env.locals)(e:X.ex=[])(F:iZ X.prog X.w X.stack H s H' a cls B a0 s')(g:∀c,iZ X.prog X.w X.outer X.om X.er H' a cls B a0 c->Q () c):aH M X.A (leaving X.env (.ref a)) Q j s':=by have d:=I.ok.frames;rw[b]at d;have f:=F.vF;rw[b]at f;exact wpAny_leaves_onW d hf f λk h i=>g _ (F.out I b hf e h i)
def WN{vs:List aj}(I:Inv X pins σ H s)(h:X.stack=X.env::X.outer)(hf:X.env.frame=some X.env.locals)(C:X.ex=[])(p:ab7 s.heap h1 a cls vs)(E:∀B a0 i,iZ X.prog X.w X.outer X.om X.er H a cls B a0 i->Q () i):aH M X.A (leaving X.env (.ref a)) Q N {s with heap:=h1}:=by
 have j:=I.ok.frames;have g:=I.stack;rw[h]at j g;have zq:∀env∈(X.env::X.outer),∀b,env.frame=some b->b∈eG X.stack:=λenv he b f=>by rw[h];exact QV.mpr ⟨env,he,f⟩
 refine wpAny_leaves_madeW j hf (λb o q=>abG _ q) (PySem.W.funFrames_hide g zq) p λF t r O P G=>E (QP s.heap (eG X.stack)) (.ref t) _ ?_;have J:=(Heap.UpToSlots.of_keeps p.keeps).trans G;have nx:∀b:af,b∉X.ex:=λb z=>by grind
 have ns:∀b o,X.er.heap.get? b=some o->b∉X.fs->b∉eG X.stack:=λb o e f z=>by
  rcases K3 h hf z with q|q;·exact old_ne I e q
  lia
 have l:∀b o,s.heap.get? b=some o->b∉eG X.stack->(QP s.heap _).get? b=some o:=λb o e n=>abF _ e n;have m:=λb o e n=>r.1 b o (l b o e n);have x:∀b u,H b=some u->b∉eG X.stack:=λb u e z=>by rw[I.yk b z]at e;nomatch e
 have L:∀b o,s.heap.get? b=some o->b∈eG X.stack->∃z,F.get? b=some _:=λb o e f=>by obtain⟨_,o',y,d⟩:=I.stack.mem f;rw[e]at y;cases y;exact J b o e d
 refine⟨I.os,I.bare,⟨λb o e n f _=>?_,λb o e n f _=>?_,λb o e n _=>I.base.free b o e n (nx b),λb o e _=>?_,I.base.jV,I.base.ju,I.base.jv⟩,λb o e=>?_,r,λb o e n f=>?_,λb v e=>?_,λb o e f=>?_⟩;·exact m b o (I.base.keep b o e n f (nx b)) (ns b o e f)
 ·obtain⟨z,k⟩:=I.base.slot b o e n f (nx b);grind
 ·obtain⟨o',k⟩:=I.base.there b o e (nx b);by_cases f:b∈eG X.stack;·obtain⟨z,q⟩:=L b o' k f;exact⟨_,q⟩
  ·exact⟨o',m b o' k f⟩
 ·refine(I.a9 b o e).k7 (λc u S q=>?_) (λ_ q=>q) λ_ _ q=>q;grind
 ·exact l b o (I.base.keep b o e n f (nx b)) (ns b o e f)
 ·obtain⟨o,q⟩:=(I.a9 b v e).there;exact⟨o,m b o q (x b v e),l b o q (x b v e)⟩
 ·obtain⟨o',k⟩:=I.base.there b o e (nx b);exact⟨o',l b o' k (ns b o e f)⟩
end
structure Raises(X:Cx)(E:XK):Prop where
 made:∀(pins:List (af×bu))(σ:St)(H:Hp)(s:ar)(e C:af)(h1:aZ),Inv X pins σ H s->ab7 s.heap h1 e (.ref C) []->E (.ref C) none H->X.xe (.ref e) {s with heap:=h1}
 pass:Passes (bH X.prog X.w) X E
 own:A8 (aF X.prog X.w) X.A X.env X.xe
def kH{K:br}:Raises (hV (bH P w) P w K mg base N qual scope f cd A outer s H E) E where
 made:=λpins σ d g e C j I h b=>WN I rfl rfl rfl h λB a0 c F=>⟨e,.ref C,d,B,a0,rfl,F,b⟩;pass:=λpins σ d g e s' I z1=>by obtain⟨a,cls,H',B,a0,he,F,b⟩:=z1;subst he;exact WM I rfl rfl rfl F λc i=>⟨a,cls,H',B,a0,rfl,i,b⟩
 own:=PassesOwn.leaving
def K4(R:Raises X E)(d:X.calm=true)(O:OwnCls x C [.type "Exception",.type "BaseException",.type "object"] "Exception.__new__" X.mg X.base)(f:Gl X x)(g:((x==("__debug__":ag))=false)⁻¹):PS X (.Raise (some (.Call (.Name x m) [] [] c)) none pos) (λ_ _ H=>E (.ref C) none H):=by intro pins s σ H D I h;obtain⟨tl,N,nm,q,bs,hdct,sn,gh,ab,col,dd,k0,k1,k2,k3,k5,n,i,j,b,T⟩:=O.obj;refine wpAny_Raise_call_subT (nm:=nm) (q:=q) (N:=N) (bs:=bs) (hdct:=hdct) (sn:=sn) (sub:=gh) (ab:=ab) (col:=col) (dd:=dd) (k0:=k0) (k1:=k1) (k2:=k2) (k3:=k3) (k5:=k5) PySem.F.excBase_Exception (T.hasType (by rfl)) (I.ok.hd d) rfl b (pX I f O.bound ⟨rfl,?_⟩ g);exact evalArgs_empty ⟨rfl,fK _,I.bk _ _ i,j.keeps I.bk,T.keeps I.bk,λk e l=>R.made pins σ H s e C k I l h⟩
section
variable{X:Cx}{pins DO:List (af×bu)}{σ:St}{H:Hp}{s:ar}{D:Ends}
@[reducible]def Cx.held(X:Cx)(e:af):Cx:={X with A:=X.A.mark (some (.ref e)),calm:=false,xe:=λ_ _=>False}
def Inv.held(I:Inv X pins σ H s)(e:af):Inv (X.held e) pins σ H s:=⟨⟨I.ok.mod,I.ok.kind,I.ok.glob,I.ok.blt,I.ok.above,I.ok.inj,I.ok.has,I.ok.oo,λz=>(bE z).elim,I.ok.frames,I.ok.pV,I.ok.pW,I.ok.bs,I.ok.jw,I.ok.oq,I.ok.ot,I.ok.iG,I.ok.k8⟩,I.os,I.bare,I.base,I.loc,I.cell,I.free,I.iH,I.pin,I.a9,I.len⟩
def Inv.tF(a:X.Ok)(I:Inv (X.held e) pins σ H s):Inv X pins σ H s:=⟨a,I.os,I.bare,I.base,I.loc,I.cell,I.free,I.iH,I.pin,I.a9,I.len⟩
def SP.tF(c:X.Ok)(h:SP (X.held e) pins D f s):SP X pins D f s:=by cases f with|next=>obtain⟨a,b,I,q⟩:=h;exact⟨a,b,I.tF c,q⟩|brk=>obtain⟨a,b,I,q⟩:=h;exact⟨a,b,I.tF c,q⟩|cont=>obtain⟨a,b,I,q⟩:=h;exact⟨a,b,I.tF c,q⟩|ret u=>obtain⟨v,a,b,I,r,q⟩:=h;exact⟨v,a,b,I.tF c,r,q⟩
@[reducible]def Cx.ql(X:Cx)(pins:List (af×bu))(E:aj->ar->Prop):Cx:={X with pn:=X.pn++pins,xe:=E}
def Inv.ql(I:Inv X pins σ H s):Inv (X.ql pins E) [] σ H s:=⟨⟨I.ok.mod,I.ok.kind,I.ok.glob,I.ok.blt,I.ok.above,I.ok.inj,I.ok.has,I.ok.oo,I.ok.hd,I.ok.frames,I.ok.pV,I.ok.pW,I.ok.bs,I.ok.jw,I.ok.oq,I.ok.ot,I.ok.iG,I.ok.k8⟩,I.os,I.bare,I.base,I.loc,I.cell,I.free,I.iH,λp a=>I.pin p (by simp_all),I.a9,I.len⟩
def Inv.qm(I:Inv (X.ql pins E) DO σ H s):Inv X pins σ H s:=⟨⟨I.ok.mod,I.ok.kind,I.ok.glob,I.ok.blt,I.ok.above,I.ok.inj,I.ok.has,I.ok.oo,I.ok.hd,I.ok.frames,I.ok.pV,I.ok.pW,I.ok.bs,I.ok.jw,I.ok.oq,I.ok.ot,I.ok.iG,I.ok.k8⟩,I.os,I.bare,I.base,I.loc,I.cell,I.free,I.iH,λp a=>I.pin p (A3 _ a),I.a9,I.len⟩
def SP.qm(h:SP (X.ql pins E) DO D f s):SP X pins D f s:=by cases f with|next=>obtain⟨a,b,I,q⟩:=h;exact⟨a,b,I.qm,q⟩|brk=>obtain⟨a,b,I,q⟩:=h;exact⟨a,b,I.qm,q⟩|cont=>obtain⟨a,b,I,q⟩:=h;exact⟨a,b,I.qm,q⟩|ret u=>obtain⟨v,a,b,I,r,q⟩:=h;exact⟨v,a,b,I.qm,r,q⟩
end
abbrev PH(X:Cx)(d:List Rl)(R:aj->Ends->Hp->Prop):Prop:=∀(pins:List (af×bu)) (D:Ends) (a:af) (cls:aj) (B:aZ) (e:aj) (σ:St) (H:Hp) (s:ar) (b:Hp) (c:ar),Inv X pins σ H s->iZ X.prog X.w X.stack H s b a cls B e c->R cls D b->aH (aF X.prog X.w) X.A (handleBy (.ref a) X.env d) (SP X pins D) X.xe c
def WO:PH X [] (λ_ _ _=>False):=λ_ _ _ _ _ _ _ _ _ _ _ _ _ h=>h.elim
def qo{rest:List Rl}{out:Ends->Hp->Prop}(Kn:aj->Prop)(o:X.mg x=some c)(p:Gl X x)(g:∀cls,Kn cls->Gg X.K cls c=some (decide (cls=c)))(r:∀e:af,df (X.held e) (b::d) (λD _ H=>out D H))(t:PH X rest R)(u:((x==("__debug__":ag))=false)⁻¹):PH X (.ExceptHandler (some (.Name x E)) none (b::d) pos::rest) (λcls D H=>Kn cls/\if cls=c then out D H else R cls D H):=by
 intro pins D a cls B v σ H s l m I F ⟨y,h⟩;haveI n:=F.inv I F.vF.1 (Heap.UpToSlots.refl _);refine wpAny_handleBy_cons (codeAny_handlers_test (pX (n.held a) p o ?_ u)) (by intro q;cases q);haveI LT:PySem.W.Looks (aF X.prog X.w) m.heap (typeOf (.ref a)) cls:=by obtain⟨G,i,A⟩:=F.vF.there;subst A;exact(PySem.W.Looks.ld i).andThen .now
 refine(PySem.W.exm_one n.gm LT (g cls y)).here ?_;by_cases e:cls=c;·rw[ax e]at h;rw[gT e];refine codeAny_handlers_suite ?_;refine lands_againW F.vF λJ j k=>?_;haveI C:=F.inv I j.1 k;exact fw (r a pins _ σ l D (C.held a) h) (λf L q=>q.tF I.ok) λ_ _ z=>mO z
 ·rw[ay e]at h;rw[iC e];exact t pins D a cls B v σ H s l m I F h
abbrev K5(X:Cx)(a:List Rl)(pins:List (af×bu))(D:Ends):aj->ar->Prop:=λe b=>aH (aF X.prog X.w) X.A (noteFrame e X.env) (λ_ c=>aH (aF X.prog X.w) X.A (setFlight e none) (λ_ d=>aH (aF X.prog X.w) X.A (handleBy e X.env a) (SP X pins D) X.xe d) X.xe c) X.xe b
def WP(b:X.stack=X.env::X.outer)(hf:X.env.frame=some X.env.locals)(l:PH X m R):Passes (bH X.prog X.w) (X.ql pins (K5 X m pins D)) (λcls _ H=>R cls D H):=by intro DO σ H s e q I ⟨a,cls,n,B,o,he,F,p⟩;subst he;have g:=I.qm;have d:=g.ok.frames;rw[b]at d;haveI j:=F;haveI k:=j.vF;rw[b]at k;refine wpAny_looks_onW d hf k λr c h=>?_;refine wpAny_landsW c λt f i=>?_;rw[<-b]at f;exact l pins D a cls B o σ H s n _ g (j.again g f (h.trans i)) p
def WQ{c:Ends->TS}(d:∀(pins:List (af×bu))(D:Ends),df (X.ql pins (K5 X (g::i) pins D)) a (c D)):PS X (.Try a (g::i) [] [] pos) (λD σ H=>c D D σ H):=by intro pins s σ H D I h;refine wpAny_Try_except (fw (d pins D [] s σ H D I.ql h) (λf j q=>?_) λe j q=>q);haveI b:=SP.qm q;cases f with|next=>exact A7 b|brk=>exact b|cont=>exact b|ret u=>exact b
section
variable{X:Cx}{pins:List (af×bu)}{σ:St}{H:Hp}{s:ar}
def Inv.K6(I:Inv X pins σ H s)(h:H a=none)(i:X.er.heap.objs.size<=a)(j:a≠X.env.locals)(k:∀x c,X.env.cells.lookup x=some c->c≠a)(l:∀p∈X.pn++pins,p.1≠a)(B:da X.prog X.w (upd H a o) s.heap a o):Inv X pins σ (upd H a o) s:=by
 have d:∀b u,H b=some u->b≠a:=λb u e=>im e h;refine⟨I.ok,I.os,I.bare,⟨I.base.keep,I.base.slot,λb u e n r=>?_,I.base.there,λb xs e=>?_,λb t xs e=>?_,λb ps e=>?_⟩,I.loc,I.cell,?_,λx c e=>?_,λp f=>?_,λb u e=>?_,I.len⟩;·rw[aD (ea (gf (cu e) i))];exact I.base.free b u e n r
 ·have:=I.base.jV b xs e;rw[aD (d _ _ this)];exact this
 ·have:=I.base.ju b t xs e;rw[aD (d _ _ this)];exact this
 ·obtain⟨m,q⟩:=I.base.jv b ps e;exact⟨m,by rw[aD (d _ _ q)];exact q⟩
 ·rw[aD j.symm];exact I.free
 ·rw[aD (k x c e)];exact I.iH x c e
 ·obtain⟨y,z,A⟩:=I.pin p f;exact⟨y,by rw[aD (l p f)];exact z,A⟩
 ·by_cases g:b=a;·cases g;rw[aW]at e;simp_all
  ·rw[aD g]at e;exact(I.a9 b u e).k7 (λc v _ q=>q) (λc q=>by rw[aD (d _ _ q)];exact q) λc xs q=>by rw[aD (d _ _ q)];exact q
structure lA(X:Cx)(pins:List (af×bu))(H:Hp)(a:af):Prop where
 n:H a=none
 lo:X.er.heap.objs.size<=a
 loc:a≠X.env.locals
 tG:∀x c,X.env.cells.lookup x=some c->c≠a
 fs:a∉X.fs
 pin:∀p∈X.pn++pins,p.1≠a
def Inv.K7(I:Inv X pins σ H s)(h:s.heap.objs.size<=a):lA X pins H a where
 n:=I.a9.fresh h;lo:=gI I.sz h;loc:=lT (gf I.lt h);tG:=λx c e z=>by obtain⟨v,o,b,_⟩:=I.cell x c e;exact bw (gf (cu b) (z▸h)) (mL _)
 fs:=I.HJ h;pin:=λp d z=>by have:=cu (I.pin p d).1;lia
def Inv.DP(I:Inv X pins σ H s)(w:lA X pins H a)(c:s.heap.get? a=some o)(nc:∀v,o.data≠.cell v):Inv X ((a,o)::pins) σ H s:=
 I.ym λp b=>by
  rcases ff.mp b with rfl|b;·exact⟨c,w.n,w.loc,w.fs,nc⟩
  ·exact I.pin p (jQ _ b)
def Inv.DQ(I:Inv X (p::pins) σ H s):Inv X pins σ H s:=I.ym λq a=>I.pin q (jQ _ (jk _ a))
def lA.mono(w:lA X pins H a)(h:b a=none):lA X pins b a:=⟨h,w.lo,w.loc,w.tG,w.fs,w.pin⟩
def Inv.zr(I:Inv X pins σ H s)(w:lA X pins H a)(k:∀b o,b≠a->s.heap.get? b=some o->h'.get? b=some o):Inv X pins σ H {s with heap:=h',toks:=t'}:=I.turned k w.n w.loc (.inr w.lo) w.tG w.pin
def vG{h:aZ}(f:bu->bu):∀b o,b≠a->h.get? b=some o->(h.update a f).get? b=some o:=λb o n e=>by rw[ab8 _ _ _ _ n];exact e
def DR:∀v,(fy "list" xs n).data≠.cell v:=λv z=>by cases z
def K8{x:aj}{fv:aj}{Y:aj->ar->Prop}{E:aj->ar->Prop}{Good:List aj->Prop}(Z:∀Qc:List aj->ar->Prop,(∀vs u,Inv X pins σ H u->Good vs->Qc vs u)->aH (aF X.prog X.w) X.A.in1 (collect x) Qc E s)(N:∀vs,Good vs->vs.length<=bj)(ht:∀x,Builtin.«list.sort» ⟨[.ref x],[(n4 "key",fv)]⟩=ksk_tree x fv false)(J:List aj->Nat->List aj->Hp->Prop)(Rr:List aj->List aj->Hp->Prop)(J0:∀vs,Good vs->J vs 0 [] H)(turn:∀(vs:List aj),Good vs->∀(i:Nat)(v:aj)(ks:List aj)(O:Hp)(ps:List (af×bu))(si:ar),vs[i]?=some v->ks.length=i->J vs i ks O->Inv X ps σ O si->aH (aF X.prog X.w) X.A.in1.in1 (call fv [v]) (λkv C=>∃c,Inv X ps σ c C/\J vs (i+1) (ks++[kv]) c) (λ_ _=>False) si)(nw:∀(vs:List aj),Good vs->∀(ks:List aj)(c:Hp)(ps:List (af×bu))(sj:ar),J vs vs.length ks c->ks.length=vs.length->Inv X ps σ c sj->2<=vs.length->(∀Q:SortKind->ar->Prop,Q kX sj->aH (aF X.prog X.w) X.A.in1.in1 (keyKind' ks.toArray) Q (λ_ _=>False) sj)/\wpS (aF X.prog X.w) X.A.in1.in1 (λ_ _=>False) sj GK (λ_ F=>xV F=none/\∃out:List aj,(pH F).map (·.2)=out.toArray/\out.length=vs.length/\Rr vs out c) (rS kX (ks.toArray.zip vs.toArray) #[] 7 none))(jC:∀vs,Good vs->∀ks c,J vs vs.length ks c->vs.length<2->Rr vs vs c)(val:∀vs,Good vs->∀out c,Rr vs out c->∃U,Vals U out)(fin:∀(vs:List aj),Good vs->∀(D:af)(out:List aj)(U:List V)(c:Hp)(d:ar),Rr vs out c->Vals U out->out.length=vs.length->c D=none->Inv X pins σ (upd c D (.lst U)) d->Y (.ref D) d):aH (aF X.prog X.w) X.A (call (.builtin "sorted") [x] [(n4 "key",fv)]) Y E s:=by
 refine call_function_entry_kw kind_sorted plain_sorted entry_sorted (ksk_s1 _ _) (show aH _ _ (Builtin.«sorted» _) _ _ _ from ?_);delta Builtin.«sorted»;refine aJ (m:=checkCount "sorted" 1 1 _) (ce (aJ (Z _ λvs t I P=>?_)));have hZ:=N vs P;haveI WR:=hZ;rw[xM]at WR;have J0:=J0 vs P;haveI turn:=turn vs P;haveI nw:=nw vs P;haveI jC:=jC vs P;haveI val:=val vs P;haveI fin:=fin vs P;refine aJ (wpAny_newList ?_ (by omega));haveI I1:Inv X pins σ H {t with heap:=t.heap.push (fy "list" vs.toArray 0)}:=I.kept (t':=t.toks) λb o e=>bL _ e;haveI g1:(t.heap.push (fy "list" vs.toArray 0)).get? t.heap.objs.size=some (fy "list" vs.toArray 0):=dL _ rfl;have w1:lA X pins H t.heap.objs.size:=I.K7 (bR _);show aH _ _ _ _ _ {t with heap:=t.heap.push (fy "list" vs.toArray 0)};generalize hD:t.heap.objs.size=D at g1 w1⊢
 generalize WS:({t with heap:=t.heap.push (fy "list" vs.toArray 0)}:ar)=u at I1⊢
 have G:u.heap.get? D=some (fy "list" vs.toArray 0):=by rw[<-WS];exact g1
 refine aJ (rL (wpAny_call_entry_kw slot_list_sort ⟨_,G,rfl⟩ entry_list_sort (show aH _ _ (Builtin.«list.sort» _) _ _ _ from ?_) (ksk_l1 _ _)));rw[ht D];delta ksk_tree;obtain⟨y,g2⟩:∃y,(u.heap.update D (jo λ_=>(#[]:Array aj))).get? D=some (fy "list" #[] y):=⟨_,Rm G λ_=>#[]⟩;haveI I2:Inv X pins σ H {u with heap:=u.heap.update D (jo λ_=>(#[]:Array aj))}:=I1.zr (t':=u.toks) w1 (vG _);refine aJ (listItems_at G rfl (aJ (GL G rfl (aJ (seqEpoch_at g2 rfl ?_)) (by omega) (fK _))));generalize WU:({u with heap:=u.heap.update D (jo λ_=>(#[]:Array aj))}:ar)=C at I2⊢
 haveI K9:C.heap.get? D=some (fy "list" #[] y):=by rw[<-WU];exact g2
 refine aJ (Rn (aJ (wpAny_newList (rL ?_) (fK _))) (by omega));generalize S:C.heap.push {cls:=.type "tuple",data:=.seq vs.toArray.toList.toArray}=B;haveI k3:∀b o,C.heap.get? b=some o->(B.push (fy "list" #[] 0)).get? b=some o:=λb o e=>by rw[<-S];exact bL _ (bL _ e)
 haveI I3:Inv X pins σ H {C with heap:=B.push (fy "list" #[] 0)}:=I2.kept (t':=C.toks) k3;haveI g3:(B.push (fy "list" #[] 0)).get? B.objs.size=some (fy "list" #[] 0):=dL _ rfl;have g:lA X pins H B.objs.size:=I2.K7 (by rw[<-S,size_push'];lia);have L:D≠B.objs.size:=by have:=cu K9;rw[<-S,size_push'];exact ea (Ra this)
 have WV:=k3 _ _ K9;show aH _ _ (ksk_rest D fv false vs.toArray y (.ref B.objs.size)) _ _ {C with heap:=B.push (fy "list" #[] 0)};generalize hkS:B.objs.size=k at g3 g L⊢
 generalize vf:({C with heap:=B.push (fy "list" #[] 0)}:ar)=s3 at I3⊢
 have WW:s3.heap.get? k=some (fy "list" #[] 0):=by rw[<-vf];exact g3
 have WX:s3.heap.get? D=some (fy "list" #[] y):=by rw[<-vf];exact WV
 delta ksk_rest;refine aJ (GN ?_);first|rw[List.forIn_toArray]|(rw[<-Array.forIn_toList];simp only[Ro])
 refine aJ (ksk_fold (λi d=>∃O ks e,ks.length=i/\J vs i ks O/\Inv X ((k,fy "list" ks.toArray e)::(D,fy "list" #[] y)::pins) σ O d) vs 0 s3 ⟨H,[],0,rfl,J0,(I3.DP w1 WX DR).DP ⟨g.n,g.lo,g.loc,g.tG,g.fs,λp l=>?pp⟩ WW DR⟩ ?st ?dn);case pp=>
  rcases xH.mp l with l|l;·exact g.pin p (A3 _ l)
  ·rcases ff.mp l with rfl|l;·exact L
   ·exact g.pin p (jQ _ l)
 case st=>
  rintro j x d hx ⟨O,ks,e,hlen,W,Ii⟩;rw[Rp]at hlen W⊢
  have hj:j<vs.length:=(gg.mp hx).1;refine aJ (Bi (fw (turn j x ks O _ d hx hlen W Ii) (λkv s4 ⟨c,I4,WY⟩=>?_) λ_ _ z=>z.elim));dsimp only;have p4:=I4.pin (k,_) (jQ _ (.head _));have q4:s4.heap.get? k=some (fy "list" ks.toArray e):=p4.1;have w4:lA X ((D,fy "list" #[] y)::pins) c k:=⟨p4.2.1,g.lo,g.loc,g.tG,g.fs,λp l=>by
   rcases xH.mp l with l|l;·exact g.pin p (A3 _ l)
   ·rcases ff.mp l with rfl|l;·exact L
    ·exact g.pin p (jQ _ l)⟩;obtain⟨c5,g5⟩:∃c5,(s4.heap.update k (jo (·.push kv))).get? k=some (fy "list" (ks.toArray.push kv) c5):=⟨_,Rm q4 (·.push kv)⟩;have e5:ks.toArray.push kv=(ks++[kv]).toArray:=by simp
  refine aJ (GL q4 rfl (ce ⟨rfl,c,ks++[kv],c5,by simp[hlen],WY,?_⟩) (by rw[lW,xM];omega) (by rw[Array.size_push,lW,xM];omega));rw[<-e5];exact(I4.DQ.zr (t':=s4.toks) w4 (vG _)).DP w4 g5 DR
 case dn=>
  rintro d ⟨c,ks,e,hlen,W,Ij⟩;rw[Rp]at hlen W;have p6:=Ij.pin (k,_) (jQ _ (.head _));have q6:d.heap.get? k=some (fy "list" ks.toArray e):=p6.1;have p7:=Ij.pin (D,_) (jQ _ (.tail _ (.head _)));have q7:d.heap.get? D=some (fy "list" #[] y):=p7.1;have wD:lA X pins c D:=w1.mono p7.2.1;have wK:lA X pins c k:=g.mono p6.2.1;have I7:Inv X pins σ c d:=Ij.DQ.DQ;refine aJ (listItems_at q6 rfl ?_);have tail:∀(st:eF) (out:List aj),xV st=none->(pH st).map (·.2)=out.toArray->out.length=vs.length->Rr vs out c->aH (aF X.prog X.w) X.A.in1.in1 (ksk_tail D false y (.ref k) st) (λr f=>r=.done (.ret .none)/\Y (.ref D) f) (λ_ _=>False) d:=by intro st out hf ha hl hR;obtain⟨U,hv⟩:=val out c hR;delta ksk_tail;dsimp only;have g8:(d.heap.update k (jo λ_=>(#[]:Array aj))).get? D=some (fy "list" #[] y):=vG _ _ _ L q7;have I8:Inv X pins σ c {d with heap:=d.heap.update k (jo λ_=>(#[]:Array aj))}:=I7.zr (t':=d.toks) wK (vG _);obtain⟨c9,g9⟩:∃c9,((d.heap.update k (jo λ_=>(#[]:Array aj))).update D (jo λ_=>out.toArray)).get? D=some (fy "list" out.toArray c9):=⟨_,Rm g8 λ_=>out.toArray⟩;have I9:=I8.zr (t':=d.toks) wD (vG (h:=d.heap.update k (jo λ_=>(#[]:Array aj))) (a:=D) (jo λ_=>out.toArray));refine aJ (GL q6 rfl (aJ (GO (aJ (seqEpoch_at g8 rfl ?_)))) (by rw[lW,hlen,xM];omega) (fK _));rw[ha];refine aJ (GL g8 rfl ?_ (fK _) (by simp only[xT,if_false,lW];lia));rw[hf];simp only[bne_self_eq_false,xT,if_false];refine ce ⟨rfl,fin D out U c _ hR hv hl wD.n (I9.K6 wD.n wD.lo wD.loc wD.tG wD.pin ⟨?_,out,c9,hv,g9⟩)⟩;rw[hv.length,hl];exact hZ
  have M:∀(r:PySem.Fin) (f:ar),(r=.done (.ret .none)/\Y (.ref D) f)->∃v,r=.done (.ret v)/\aH (aF X.prog X.w) X.A.in1 (ret (.ref D)) (λr s3=>∃v,r=.done (.ret v)/\Y v s3) E f:=λr f ⟨e,q⟩=>⟨.none,e,ce ⟨_,rfl,q⟩⟩;delta ksk_end;dsimp only;rw[ay bE];by_cases T:vs.toArray.size<2;·rw[ax T,ax T];refine aJ (ce ?_);rw[StateT.run_pure];refine aJ (ce ?_);rw[lW]at T;refine fw (tail _ vs rfl ?_ rfl (jC ks c W T)) M λ_ _ z=>z.elim;show(ks.toArray.zip vs.toArray).map (·.2)=vs.toArray;refine Rq ?_;rw[pI,ksk_zip,Ro];exact List.map_snd_zip (by lia)
  ·rw[ay T,ay T];rw[lW]at T;obtain⟨hk,hs⟩:=nw ks c _ d W hlen I7 (by lia);refine aJ (fw (hk (λkd f=>kd=kX/\f=d) ⟨rfl,rfl⟩) (λkd f z=>?_) λ_ _ z=>z.elim);obtain⟨rfl,rfl⟩:=z;refine aJ (fw hs (λr f h=>?_) λ_ _ z=>z.elim);obtain⟨⟨⟩,F⟩:=r;obtain⟨rfl,hf,out,ha,hl,hR⟩:=h;exact fw (tail F out hf ha hl hR) M λ_ _ z=>z.elim
def WZ{Rr:List aj->Hp->Prop}{E:aj->ar->Prop}(I:Inv X pins σ H s)(m:s.heap.IsList l vs.toArray)(p:vs.length<=bj)(q:∀x,Builtin.«list.sort» ⟨[.ref x],[(n4 "key",fv)]⟩=ksk_tree x fv false)(J:Nat->List aj->Hp->Prop)(r:J 0 [] H)(turn:∀(i:Nat)(v:aj)(ks:List aj)(g:Hp)(ps:List (af×bu))(j:ar),vs[i]?=some v->ks.length=i->J i ks g->Inv X ps σ g j->aH (aF X.prog X.w) X.A.in1.in1 (call fv [v]) (λkv t=>∃a,Inv X ps σ a t/\J (i+1) (ks++[kv]) a) (λ_ _=>False) j)(nw:∀(ks:List aj)(a:Hp)(ps:List (af×bu))(d:ar),J vs.length ks a->ks.length=vs.length->Inv X ps σ a d->2<=vs.length->(∀Q:SortKind->ar->Prop,Q kX d->aH (aF X.prog X.w) X.A.in1.in1 (keyKind' ks.toArray) Q (λ_ _=>False) d)/\wpS (aF X.prog X.w) X.A.in1.in1 (λ_ _=>False) d GK (λ_ c=>xV c=none/\∃out:List aj,(pH c).map (·.2)=out.toArray/\out.length=vs.length/\Rr out a) (rS kX (ks.toArray.zip vs.toArray) #[] 7 none))(jC:∀ks a,J vs.length ks a->vs.length<2->Rr vs a)(val:∀out a,Rr out a->∃f,Vals f out)(fin:∀(D:af)(out:List aj)(f:List V)(a:Hp)(k:ar),Rr out a->Vals f out->out.length=vs.length->a D=none->Inv X pins σ (upd a D (.lst f)) k->u (.ref D) k):aH (aF X.prog X.w) X.A (call (.builtin "sorted") [.ref l] [(n4 "key",fv)]) u E s:=by refine K8 (Good:=λus=>us=vs) (λy h=>?_) (λus e=>by rw[e];exact p) q (λ_=>J) (λ_=>Rr) (λus e=>r) (λus e=>by cases e;exact turn) (λus e=>by cases e;exact nw) (λus e=>by grind) (λus e=>val) (λus e=>by cases e;exact fin);refine collect_list m (h _ _ (I.kept λb o e=>?_) (by rfl)) (by omega);have n:=ea (cu e);rw[ab8 _ _ _ _ n,Heap.get?_push_ne _ _ _ n];exact e
end
end L2
namespace PySem
open PyProof.Rows
open Sem(wp wp_call wp_bind' wp_pure' wp_holding wp_ask wp_tryCatch)
section
variable{prog:bA}{w:bB}{c:Code}{p:cj}{s:ar}{E:aj->cj->ar->Prop}
abbrev aroundOf(a:Ctx):cG:={handled:=a.handled,depth:=frameCount a.below+a.code.weight,frames:=none,guards:=none,units:=a.units}
def Lc(a:Ctx):a.In (aroundOf a):=⟨rfl,bR _,(λ_ h=>by cases h),(λ_ h=>by cases h),bR _⟩
def Ld(F:∀A,aH (aF prog w) A (call f args) (λi d=>i=v/\d=s) (λ_ _=>False) s)(h:wp (aF prog w) (Bj c []) (call f args) Q E p s):Q v p s:=by haveI g:=F _ (Bj c []) p (Lc _);unfold call runValue at h g;have⟨r,d,j,k⟩:=h;have⟨n,l,b,a⟩:=g;have⟨rfl,m⟩:=Reach.det (runs_reach b _ ((Ctx.fits_of c []).enter _ leafOf _ false [] _ [])) (runs_reach j _ ((Ctx.fits_of c []).enter _ leafOf _ false [] _ []));cases m;cases r with|error e=>exact a.elim|ok f=>cases f with|ret u=>have⟨rfl,rfl⟩:u=v/\l=s:=a;exact k|next=>exact a.elim|brk=>exact a.elim|cont=>exact a.elim
def W1(h:wp (aF prog w) (Bj c []) (oneLt' true (.int a t) (.int b u)) Q E p s):Q (decide (a<b)) p s:=by
 rw[oneLt'_eq]at h;simp only[if_true,cRoomFor_of_value (show[pB a t,pB b u].any Value.onHeap=false from rfl),callSpecialIfBound?,bindSpecialIfBound?,specialOf,wp_bind',wp_holding,wp_pure']at h;have d:typeOf (.int a t)=pure (rF "int"):=rfl;have e:xP (.type "int") (n4 "__lt__")=pure (some (.builtin "int.__lt__")):=slot_int_lt.lookup;simp only[d,e,wp_pure',wp_bind',slot_int_lt.bind]at h;delta ask at h;simp only[wp_ask,Sem.wp_pure]at h;split at h;·simp only[wp_pure',wp_bind']at h;exact Ld (λA=>call_int_lt ⟨rfl,rfl⟩) h
 ·rw[wp_tryCatch]at h;simp only[wp_pure',wp_bind']at h;exact Ld (λA=>call_int_lt ⟨rfl,rfl⟩) h
end
end PySem
namespace gC
open PySem PyProof.Rows
open Sem(wp wp_call wp_bind' wp_pure' wp_holding wp_ask wp_tryCatch wp_mono)
section
structure j1 where
 prog:bA
 w:bB
 ctx:Ctx
 cd:Code
 s:ar
 p0:cj
 it:Bool->Nat->fh
 rk:Nat->Int
 DS:∀i,∃t,(it false i).1=.int (rk i) t
 Le:∀(i j:Nat)(Q:Bool->cj->ar->Prop)(E:aj->cj->ar->Prop)(p:cj),(∀p',Q (decide (rk i<rk j)) p' s)->wp (aF prog w) ctx (keyLt' kX (it true i).1 (it true j).1) Q E p s
structure PQ where
 p:Array Nat
 q:Array (Nat×Nat×Nat)
 g:Nat
variable{T:j1}{z:PQ}
abbrev ST(T:j1)(z:PQ)(b:Bool):eF:=rS kX (z.p.map (T.it b)) z.q z.g none
def ST.a:pH (ST T z b)=z.p.map (T.it b):=rfl
def ST.q:pendingOf (ST T z b)=z.q:=rfl
def ST.g:gallopOf (ST T z b)=z.g:=rfl
abbrev RA(T:j1)(a:Bool->Array fh):Prop:=∃p:Array Nat,∀b,a b=p.map (T.it b)
abbrev RK(T:j1)(x:Bool->fh):Prop:=∃i,∀b,x b=T.it b i
inductive RE{α:Type}:(Bool->α)->Prop|mk(c:α):RE λ_=>c
inductive Lf(T:j1){α:Type}(r:(Bool->α)->Prop)(Q:α×eF->cj->ar->Prop)(x:α×eF)(s':ar):Prop|mk(y:Bool->α)(z:PQ):s'=T.s->x=(y true,ST T z true)->r y->Q (y false,ST T z false) T.p0 T.s->Lf T r Q x s'
abbrev bD(T:j1){α:Type}(r:(Bool->α)->Prop)(m:Bool->StateT eF d4 α):Prop:=∀(z:PQ) (E0:aj->cj->ar->Prop) (Q:α×eF->cj->ar->Prop),wp (aF T.prog T.w) (Bj T.cd []) ((m false).run (ST T z false)) Q E0 T.p0 T.s->∀p,wp (aF T.prog T.w) T.ctx ((m true).run (ST T z true)) (λx _ a=>Lf T r Q x a) (λ_ _ _=>False) p T.s
section
variable{α β:Type}{r:(Bool->α)->Prop}{r':(Bool->β)->Prop}
def lB(e:∀b,m b=a b)(h:bD T r a):bD T r m:=by rw[show m=a from funext e];exact h
def iu(h:r y):bD T r λb=>pure (y b):=by intro z E0 Q a p;exact⟨y,z,rfl,rfl,h,a⟩
def i0{k:Bool->α->StateT eF d4 β}(h:bD T r m)(c:∀y,r y->bD T r' λb=>k b (y b)):bD T r' λb=>m b>>=k b:=by
 intro z E0 Q d p;rw[ab9,wp_bind']at*
 refine wp_mono _ _ _ ?_ ?_ _ _ (h z E0 _ d p);·rintro _ e _⟨y,f,rfl,rfl,g,a⟩;exact c y g f E0 Q a e
 ·intro _ _ _ z;exact z
def vH{k:Bool->α->StateT eF d4 β}(h:bD T RE m)(a:∀c,bD T r' λb=>k b c):bD T r' λb=>m b>>=k b:=i0 h λy e=>by cases e with|mk c=>exact a c
def j2{k:Bool->PUnit->StateT eF d4 β}(h:bD T RE m)(a:bD T r' λb=>k b ⟨⟩):bD T r' λb=>m b>>=k b:=vH h λ_=>a
def qp{k:Bool->eF->StateT eF d4 β}(a:∀z,bD T r' λb=>k b (ST T z b)):bD T r' λb=>get>>=k b:=by intro z E0 Q c p;exact a z z E0 Q c p
def vI{f:Bool->eF->eF}(g:PQ->PQ)(hf:∀z b,f b (ST T z b)=ST T (g z) b):bD T RE λb=>modify (f b):=by
 intro z E0 Q a p;rw[StateT.run_modify,hf]at*
 exact⟨λ_=>⟨⟩,g z,rfl,rfl,.mk _,a⟩
def W2{f:eF->eF}(hf:∀z b,f (ST T z b)=ST T ⟨z.p,pendingOf (f (ST T z true)),z.g⟩ b):bD T RE λ_=>modify f:=vI _ hf
def W3:bD T RE λb=>set (ST T z b):=by intro z E0 Q a p;exact⟨λ_=>⟨⟩,_,rfl,rfl,.mk _,a⟩
def tH:bD T RE λ_=>liftM (rule t):=by intro z E0 Q a p;exact⟨λ_=>(),z,rfl,rfl,.mk _,a⟩
def tJ:bD T r λ_=>liftM (unsupported t:d4 α):=λz E0 Q a p=>a.elim
def Lg{c:Bool->Prop}{i:∀b,Decidable (c b)}(e:∀b,c b=c true)(a:bD T r m)(d:bD T r f):bD T r λb=>@ite _ (c b) (i b) (m b) (f b):=by
 by_cases h:c true;·exact lB (λb=>ax (e b▸h)) a
 ·exact lB (λb=>ay (e b▸h)) d
def kI{i:Bool->Decidable c}(a:bD T r m)(d:bD T r e):bD T r λb=>@ite _ c (i b) (m b) (e b):=Lg (λ_=>rfl) a d
inductive gP(r:(Bool->α)->Prop):(Bool->ForInStep α)->Prop|done(y:Bool->α):r y->gP r λb=>.done (y b)|yield(y:Bool->α):r y->gP r λb=>.yield (y b)
def W4{f:Bool->Nat->α->StateT eF d4 (ForInStep α)}(hf:∀i y,r y->bD T (gP r) λb=>f b i (y b))(l:List Nat):∀y,r y->bD T r λb=>forIn l (y b) (f b):=by induction l with|nil=>exactλy h=>lB (λb=>List.forIn_nil) (iu h)|cons x l a=>refineλy h=>lB (λb=>List.forIn_cons ..) (i0 (hf x y h) λs c=>?_);cases c with|done y h=>exact iu h|yield y h=>exact a y h
def DT{f:Bool->Nat->α->StateT eF d4 (ForInStep α)}(h:r y)(hf:∀i y,r y->bD T (gP r) λb=>f b i (y b)):bD T r λb=>forIn [x:n] (y b) (f b):=lB (λb=>aeI ..) (W4 hf _ y h)
end
def W5{α:Type}(m:d4 α)(st:eF):(liftM m:StateT eF d4 α).run st=m>>=λa=>pure (a,st):=rfl
def vJ(c:RK T x)(d:RK T y):bD T RE λb=>lt' (x b) (y b):=by
 have⟨i,c⟩:=c;have⟨j,d⟩:=d;have⟨t,e⟩:=T.DS i;have⟨u,f⟩:=T.DS j;intro z E0 Q a p;dsimp only at a⊢
 rw[c,d,lt'_eq]at a⊢
 simp only[ab9,StateT.run_get,wp_bind',wp_pure']at a⊢
 rw[W5]at a⊢
 simp only[wp_bind',Sem.wp_attempt]at a⊢
 rw[e,f]at a;haveI q:=W1 a;exact T.Le i j _ _ p λg=>⟨λ_=>_,z,rfl,rfl,.mk _,q⟩
def ny(h:RA T a):bD T (RK T) λb=>elem' (a b) i:=by have⟨q,e⟩:=h;refine lB (λb=>by rw[elem'_eq,e,Array.getElem?_map]) ?_;cases q[i]?with|none=>exact tJ|some k=>exact iu ⟨k,λ_=>rfl⟩
def RA.st:RA T λb=>z.p.map (T.it b):=⟨_,λ_=>rfl⟩
def RA.size(h:RA T a):∃n,∀b,(a b).size=n:=by have⟨p,h⟩:=h;exact⟨p.size,λb=>by rw[h,aca]⟩
def RA.extract(h:RA T a):RA T λb=>(a b).extract i j:=by have⟨p,h⟩:=h;exact⟨p.extract i j,λb=>by simp[h]⟩
def RA.app(h:RA T a)(c:RA T d):RA T λb=>a b++d b:=by have⟨p,h⟩:=h;have⟨q,c⟩:=c;exact⟨p++q,λb=>by simp[h,c]⟩
def RA.push(h:RA T a)(c:RK T x):RA T λb=>(a b).push (x b):=by have⟨p,h⟩:=h;have⟨i,c⟩:=c;exact⟨p.push i,λb=>by simp[h,c]⟩
def RA.one(a:RK T x):RA T λb=>#[x b]:=by have⟨i,a⟩:=a;exact⟨#[i],λb=>by simp[a]⟩
def RA.rev(h:RA T a):RA T λb=>(a b).reverse:=by have⟨p,h⟩:=h;exact⟨p.reverse,λb=>by simp[h]⟩
def W6(f:Nat->fh)(k:Nat)(l:List Nat):∀(n:Nat)(p:Array Nat),((l.map f).zipIdx n).foldl (λa(x:fh×Nat)=>a.setIfInBounds (k+x.2) x.1) (p.map f)=((l.zipIdx n).foldl (λa(x:Nat×Nat)=>a.setIfInBounds (k+x.2) x.1) p).map f:=by induction l with|nil=>intro n p;rfl|cons x l b=>intro n p;refine .trans ?_ (b _ _);rw[gv,List.zipIdx_cons,QB];simp
def W7:bD T RE λ_=>ltAt' i j:=by exact qp λz=>i0 (ny RA.st) λx a=>i0 (ny RA.st) λy b=>vJ a b
def Lh:bD T RE λ_=>reverseSlice' i j:=by exact vI (λz=>⟨mirror z.p i j _,z.q,z.g⟩) λz b=>bz (λa=>rS _ a z.q z.g none) (acb _ _ _ _ _)
def W8:bD T RE λ_=>moveDown' i j:=by exact vI (λz=>⟨bubble z.p i (i-j),z.q,z.g⟩) λz b=>bz (λa=>rS _ a z.q z.g none) (acb _ _ _ _ _)
def Li:bD T RE λ_=>setMinGallop' g:=by exact vI (λz=>⟨z.p,z.q,g⟩) λ_ _=>rfl
end
end gC
namespace gC
open PySem PyProof.Rows
section
variable{T:j1}
section
variable{ρ γ β:Type}{r':(Bool->β)->Prop}
def Lj{k:Bool->Option ρ×γ->StateT eF d4 β}(h:bD T RE m)(d:∀c,bD T r' λb=>k b (none,c))(e:∀x c,bD T r' λb=>k b (some x,c)):bD T r' λb=>m b>>=k b:=
 vH h λa=>by
  rcases a with⟨_|x,c⟩;·exact d c
  ·exact e x c
def tK{k:Bool->Option ρ->StateT eF d4 β}(h:bD T RE m)(c:bD T r' λb=>k b none)(d:∀x,bD T r' λb=>k b (some x)):bD T r' λb=>m b>>=k b:=
 vH h λa=>by
  rcases a with _|x;·exact c
  ·exact d x
def Lk{k:Bool->Bool->StateT eF d4 β}(h:bD T RE m)(c:bD T r' λb=>k b true)(hf:bD T r' λb=>k b false):bD T r' λb=>m b>>=k b:=
 vH h λa=>by
  cases a;·exact hf
  ·exact c
def zt{k:Bool->Option Bool->StateT eF d4 β}(h:bD T RE m)(c:bD T r' λb=>k b none)(d:bD T r' λb=>k b (some true))(hf:bD T r' λb=>k b (some false)):bD T r' λb=>m b>>=k b:=
 tK h c λa=>by
  cases a;·exact hf
  ·exact d
def Ll{f:Bool->Nat->γ->StateT eF d4 (ForInStep γ)}(hf:∀i a,bD T (gP RE) λb=>f b i a):bD T RE λb=>forIn [x:y] a (f b):=DT (.mk a) λi a h=>by cases h with|mk a=>exact hf i a
end
def gP.dE{a:Type}(c:a):gP RE λ_=>.done c:=.done _ (.mk c)
def gP.yE{a:Type}(c:a):gP RE λ_=>.yield c:=.yield _ (.mk c)
def W9(d:RK T k)(g:RA T a):bD T RE λb=>beyond' e (k b) (a b) n i:=by refine i0 (ny g) λx f=>kI (vJ f d) ?_;exact vH (vJ d f) λc=>iu (.mk _)
local macro_rules|`(tactic|k_caught0)=>`(tactic|first|with_reducible refine kI ?_ ?_|with_reducible refine zt W7 ?_ ?_ ?_|(with_reducible refine zt (W9 (by with_reducible assumption) (by with_reducible assumption)) ?_ ?_ ?_)|((with_reducible refine iu ?_);first|with_reducible exact gP.dE _|with_reducible exact gP.yE _|with_reducible exact RE.mk _)|with_reducible refine j2 Lh ?_|with_reducible refine j2 W8 ?_|with_reducible refine j2 tH ?_|with_reducible refine Lj (Ll λi a=>?_) (λc=>?_) (λx c=>?_)|with_reducible exact Lh|with_reducible exact tJ|dsimp only)
def Xa{lo n:Nat}:bD T RE λ_=>countRun' lo n:=by rw[countRun'_eq];repeat' k_caught0
def Xb{lo n a:Nat}:bD T RE λ_=>binarySort' lo n a:=by rw[binarySort'_eq];repeat' k_caught0
def zu{d:Bool}{k:Bool->fh}{a:Bool->Array fh}{b n h:Nat}(e:RK T k)(f:RA T a):bD T RE λc=>gallop' d (k c) (a c) b n h:=by refine lB (λc=>gallop'_eq ..) ?_;repeat' k_caught0
end
section
variable{T:j1}
inductive RO(T:j1):(Bool->Option (Array fh))->Prop|none:RO T λ_=>none|some{x:Bool->Array fh}:RA T x->RO T λb=>some (x b)
inductive RM(T:j1){δ:Type}:(Bool->Option (Array fh)×Array fh×δ)->Prop|mk{o:Bool->Option (Array fh)}{x:Bool->Array fh}{d:δ}:RO T o->RA T x->RM T λb=>(o b,x b,d)
section
variable{δ β:Type}{r':(Bool->β)->Prop}
@[reducible]def DU(δ:Type):Type:=Option (Array fh)×Array fh×δ
def Xc{k:Bool->DU δ->StateT eF d4 β}(h:bD T (RM T) m)(g:∀x c,RA T x->bD T r' λb=>k b (none,x b,c))(i:∀y x c,RA T y->RA T x->bD T r' λb=>k b (some (y b),x b,c)):bD T r' λb=>m b>>=k b:=i0 h λa e=>by cases e with|mk d f=>cases d with|none=>exact g _ _ f|some d=>exact i _ _ _ d f
def Xd{f:Bool->Nat->DU δ->StateT eF d4 (ForInStep (DU δ))}(c:RA T a)(hf:∀i(o:Bool->Option (Array fh)) x d,RA T x->bD T (gP (RM T)) λb=>f b i (o b,x b,d)):bD T (RM T) λb=>forIn [x:y] (none,a b,d) (f b):=DT (.mk .none c) λi a h=>by cases h with|mk g e=>exact hf _ _ _ _ e
end
local macro_rules|`(tactic|k_caughtB)=>`(tactic|repeat'(first|with_reducible assumption|with_reducible refine RA.app ?_ ?_|with_reducible refine RA.push ?_ ?_|with_reducible refine RA.extract ?_|with_reducible refine RA.rev ?_|with_reducible refine RA.one ?_|with_reducible exact RO.none|with_reducible refine RO.some ?_))
def Xe(l:RA T a)(j:RA T m):bD T (RA T) λb=>mergeLo' (a b) (m b):=by
 have⟨n,p⟩:=l.size;have⟨q,f⟩:=j.size;refine lB (λb=>by rw[mergeLo'_eq,p,f]) ?_;refine j2 tH (i0 (ny j) λx r=>?_);refine kI (iu ?_) (kI (iu ?_) (qp λz=>?_));·k_caughtB
 ·k_caughtB
 dsimp only[ST.g];repeat'(first|with_reducible refine kI ?_ ?_|(with_reducible refine i0 (ny (by assumption)) λe he=>?_)|((with_reducible refine iu ?_);first|((with_reducible refine gP.done _ ?_);(with_reducible refine RM.mk ?_ ?_)<;>k_caughtB<;>done)|((with_reducible refine gP.yield _ ?_);(with_reducible refine RM.mk ?_ ?_)<;>k_caughtB<;>done)|((show RA T _);assumption))|with_reducible refine zt (vJ (by assumption) (by assumption)) ?_ ?_ ?_|(with_reducible refine tK (zu (by assumption) (by assumption)) ?_ λk=>?_)|with_reducible refine j2 Li ?_|with_reducible refine j2 tH ?_|(with_reducible refine Xc (Xd (by k_caughtB) λi o x d h=>?_) (λx c h=>?_) (λy x c h s=>?_))|with_reducible exact tJ|dsimp only)
inductive tL(T:j1){δ:Type}:(Bool->Option (Array fh)×Nat×Nat×Array fh×δ)->Prop|mk{o:Bool->Option (Array fh)}{m n:Nat}{x:Bool->Array fh}{d:δ}:RO T o->RA T x->tL T λb=>(o b,m,n,x b,d)
section
variable{δ β:Type}{r':(Bool->β)->Prop}
@[reducible]def DV(δ:Type):Type:=Option (Array fh)×Nat×Nat×Array fh×δ
def Xf{k:Bool->DV δ->StateT eF d4 β}(h:bD T (tL T) m)(g:∀x m n c,RA T x->bD T r' λb=>k b (none,m,n,x b,c))(i:∀y x m n c,RA T y->RA T x->bD T r' λb=>k b (some (y b),m,n,x b,c)):bD T r' λb=>m b>>=k b:=i0 h λa e=>by cases e with|mk d f=>cases d with|none=>exact g _ _ _ _ f|some d=>exact i _ _ _ _ _ d f
def Xg{f:Bool->Nat->DV δ->StateT eF d4 (ForInStep (DV δ))}(c:RA T a)(hf:∀i(o:Bool->Option (Array fh)) x m n d,RA T x->bD T (gP (tL T)) λb=>f b i (o b,m,n,x b,d)):bD T (tL T) λb=>forIn [x:y] (none,m,n,a b,d) (f b):=DT (.mk .none c) λi a h=>by cases h with|mk g e=>exact hf _ _ _ _ _ _ e
end
def Xh{a j:Bool->Array fh}(l:RA T a)(p:RA T j):bD T (RA T) λb=>mergeHi' (a b) (j b):=by
 obtain⟨n,q⟩:=l.size;obtain⟨r,f⟩:=p.size;refine lB (λb=>by rw[mergeHi'_eq,q,f]) ?_;refine j2 tH (i0 (ny l) λx s=>?_);refine kI (iu ?_) (kI (iu ?_) (qp λz=>?_));·k_caughtB
 ·k_caughtB
 dsimp only[ST.g];repeat'(first|with_reducible refine kI ?_ ?_|(with_reducible refine i0 (ny (by assumption)) λe he=>?_)|((with_reducible refine iu ?_);first|((with_reducible refine gP.done _ ?_);(with_reducible refine tL.mk ?_ ?_)<;>k_caughtB<;>done)|((with_reducible refine gP.yield _ ?_);(with_reducible refine tL.mk ?_ ?_)<;>k_caughtB<;>done)|((show RA T _);assumption))|with_reducible refine zt (vJ (by assumption) (by assumption)) ?_ ?_ ?_|(with_reducible refine tK (zu (by assumption) (by assumption)) ?_ λk=>?_)|with_reducible refine j2 Li ?_|with_reducible refine j2 tH ?_|(with_reducible refine Xf (Xg (by k_caughtB) λi o x m n d h=>?_) (λx m n c h=>?_) (λy x m n c h t=>?_))|with_reducible exact tJ|((with_reducible refine Lg ?_ ?_ ?_);exactλ_=>rfl)|dsimp only)
end
section
variable{T:j1}
def Lm(c:RA T m):bD T RE λb=>(do modify (λs=>setArr s ((m b).toList.zipIdx.foldl (λa(x:fh×Nat)=>a.setIfInBounds (k+x.2) x.1) (pH s)));return(xV (<-get)).isNone:StateT eF d4 Bool):=by have⟨q,c⟩:=c;exact j2 (vI (λz=>⟨q.toList.zipIdx.foldl (λa x=>a.setIfInBounds _ x.1) z.p,z.q,z.g⟩) λz b=>bz (λa=>rS kX a z.q z.g none) (by rw[c,pI];exact W6 _ _ _ _ _)) (qp λz=>iu (.mk _))
def Xi:bD T RE λ_=>mergeAt' i:=by
 refine qp λz=>?_;dsimp only[ST.q];generalize z.q[i]?=b;generalize z.q[i+1]?=c;rcases b with _|⟨f,na,h⟩;·exact tJ
 rcases c with _|⟨j,nb,d⟩;·exact tJ
 refine j2 (W3 (z:=⟨z.p,(z.q.setIfInBounds i _).eraseIdxIfInBounds (i+1),z.g⟩)) ?_;refine i0 (ny RA.st) λe he=>?_;refine tK (zu he RA.st) (iu (.mk _)) λk=>?_;refine kI (iu (.mk _)) ?_;refine i0 (ny RA.st) λe he=>?_;refine tK (zu he RA.st) (iu (.mk _)) λk=>?_;refine kI (iu (.mk _)) ?_;exact kI (i0 (Xe RA.st.extract RA.st.extract) λm a=>Lm a) (i0 (Xh RA.st.extract RA.st.extract) λm a=>Lm a)
def Xj:bD T RE λ_=>GK:=by rw[sortRuns'_eq];refine qp λz=>?_;refine lB (λb=>by rw[ST.a,aca]) ?_;repeat'(first|with_reducible refine kI ?_ ?_|((with_reducible refine iu ?_);first|with_reducible exact gP.dE _|with_reducible exact gP.yE _|with_reducible exact RE.mk _)|with_reducible refine tK Xa ?_ λk=>?_|with_reducible refine Lk Xb ?_ ?_|with_reducible refine Lk Xi ?_ ?_|((with_reducible refine j2 (W2 ?_) ?_);exactλ_ _=>rfl)|with_reducible refine j2 tH ?_|with_reducible refine Lj (Ll λi a=>?_) (λc=>?_) (λx c=>?_)|((with_reducible refine qp λz=>?_);refine lB (λb=>by rw[ST.q]) ?_;generalize z.q=q;first|(rw[show Rs q=Rs q from rfl];generalize(Rs q)=o;rcases o with _|⟨_,_,_⟩)|(dsimp only;generalize(if Array.size q>1 then q[Array.size q-2]?else none)=o;rcases o with _|⟨_,_,_⟩)|skip)|dsimp only)
end
end gC
namespace gC
open PySem PyProof.Rows
open Sem(wp wp_call wp_bind' wp_pure' wp_holding wp_ask wp_tryCatch wp_mono)
abbrev insI(rk:Nat->Int)(i:Nat):List Nat->List Nat|[]=>[i]|j::r=>if rk j<rk i then j::insI rk i r else i::j::r
abbrev sortI(rk:Nat->Int)(l:List Nat):List Nat:=l.foldr (insI rk) []
def insI_perm(rk:Nat->Int)(i:Nat):∀l,(insI rk i l).Perm (i::l)
 |[]=>acd _
 |j::r=>by
  unfold insI;split;·exact((insI_perm rk i r).cons j).trans (List.Perm.swap i j r)
  rfl
def sortI_perm(rk:Nat->Int):∀l,(sortI rk l).Perm l|[]=>acd _|i::l=>(insI_perm rk i _).trans ((sortI_perm rk l).cons i)
def Ln(rk:Nat->Int)(i:Nat):∀l:List Nat,l.Pairwise (λa b=>rk a<=rk b)->(insI rk i l).Pairwise (λa b=>rk a<=rk b)
 |[],_=>by simp[insI]
 |j::r,h=>by
  obtain⟨e,f⟩:=nM.mp h;unfold insI;split
  ·rename_i d;refine nM.mpr ⟨λb c=>?_,Ln rk i r f⟩;rcases ff.mp ((insI_perm rk i r).mem_iff.mp c)with rfl|c;·lia
   ·exact e b c
  ·rename_i d;refine nM.mpr ⟨λb c=>?_,h⟩;rcases ff.mp c with rfl|c;·lia
   ·have:=e b c;lia
def Lo(rk:Nat->Int):∀l,(sortI rk l).Pairwise (λa b=>rk a<=rk b)|[]=>Qw|i::l=>Ln rk i _ (Lo rk l)
def Lp(rk:Nat->Int)(i:Nat)(c:Int):∀l,(insI rk i l).filter (λk=>decide (rk k=c))=(i::l).filter (λk=>decide (rk k=c))
 |[]=>rfl
 |j::r=>by
  unfold insI;split
  ·rename_i b;rw[rE,Lp rk i c r,rE,rE,rE];by_cases a:rk i=c
   ·haveI d:¬rk j=c:=by lia
    simp[a,d]
   ·simp[a]
  ·rfl
def Lq(rk:Nat->Int)(c:Int):∀l,(sortI rk l).filter (λk=>decide (rk k=c))=l.filter (λk=>decide (rk k=c))|[]=>rfl|i::l=>by show(insI rk i (sortI rk l)).filter _=_;rw[Lp,rE,Lq rk c l,rE]
def kJ:∀i∈sortI rk (bU n),i<n:=λi a=>lQ.mp ((sortI_perm rk _).mem_iff.mp a)
section
variable{prog:bA}{w:bB}{A:cG}{s:ar}{E:aj->ar->Prop}
def zw{ks vs:List aj}(hl:ks.length=vs.length)(P:2<=vs.length)(lt:∀(i j:Nat)(x y:aj)(Q:Bool->ar->Prop)(E:aj->ar->Prop),ks[i]?=some x->ks[j]?=some y->Q (decide (rk i<rk j)) s->aH (aF prog w) A (keyLt' kX x y) Q E s):wpS (aF prog w) A E s GK (λ_ f=>xV f=none/\(pH f).map (·.2)=((sortI rk (bU vs.length)).map λi=>vs.getD i .none).toArray) (rS kX (ks.toArray.zip vs.toArray) #[] 7 none):=by
 intro Γ p F;let n:=vs.length;let a:=λi=>if i<n then i else 0;have fQ:∀i,a i<n:=λi=>by show(if i<n then i else 0)<n;split<;>omega
 let T:j1:={
  prog:=prog,w:=w,ctx:=Γ,cd:=Γ.code,s:=s,p0:=p
  it:=λb i=>cond b (ks.getD (a i) .none,vs.getD (a i) .none) (.int (rk (a i)) 0,.int (a i) 0)
  rk:=λi=>rk (a i)
  DS:=λi=>⟨0,rfl⟩
  Le:=λi j Q E C h=>by
   have S:ks[a i]?=some (ks.getD (a i) .none):=by rw[jf,cI (by have:=fQ i;omega)];rfl
   haveI U:ks[a j]?=some (ks.getD (a j) .none):=by rw[jf,cI (by have:=fQ j;omega)];rfl
   exact wp_mono _ _ _ (λb q G z=>z q) (λe q G z=>z.elim) _ _ (lt (a i) (a j) _ _ (λb G=>∀C,Q b C G) (λ_ _=>False) S U h Γ C F)};have g:∀i,i<n->a i=i:=λi h=>ax h;have z1:ks.toArray.zip vs.toArray=(bU n).toArray.map (T.it true):=by
  refine Rq ?_;rw[ksk_zip,pI];refine Rg λi=>?_;rw[jp,Ro];by_cases o:i<n
  ·rw[GP o,(List.getElem?_zip_eq_some).mpr ⟨?_,?_⟩];·show _=some (ks.getD (a i) .none,vs.getD (a i) .none);rw[g i o]
   ·rw[jf,cI (by omega)];rfl
   ·show vs[i]?=some (vs.getD i .none);rw[jf,cI o];rfl
  ·rw[xt (by simp;lia),xt (by simp;lia)];rfl
 let r:=(bU n).toArray.map (T.it false);have t:r.size=n:=by show((bU n).toArray.map (T.it false)).size=n;simp
 have u:KeysOf intKind r:=λx W=>by have v:=W;rw[pI]at v;obtain⟨i,_,rfl⟩:=mK.mp v;exact⟨_,rfl⟩
 have X:=wpS_sortRunsSt (prog:=prog) (w:=w) (E:=λ_ _=>False) (s:=s) (st:=rS kX r #[] 7 none) (Q:=λ_ f=>(pH f).Perm r/\xV f=none/\SortedToK intKind (pH f) r.size/\Stable intKind (pH f) r) intKind_oneLt u ⟨Array.Perm.refl _,rfl,rfl⟩ rfl (Stable.refl _) (by rw[t];exact P) (λf Y Z q3 q4=>⟨Y,Z,q3,q4⟩) (Bj Γ.code []) p (Lc _);rw[z1];refine wp_mono _ _ _ ?_ ?_ _ _ (Xj (T:=T) ⟨(bU n).toArray,#[],7⟩ _ _ X p)
 ·rintro _ C _⟨y,⟨q,_,_⟩,rfl,rfl,_,_,hp,hf,hs,H⟩;refine⟨rfl,rfl,?_⟩;let c:=(sortI rk (bU n)).toArray.map (T.it false);have cl:c.toList=(sortI rk (bU n)).map (T.it false):=by rw[pI]
  have O:r.toList=(bU n).map (T.it false):=by rw[pI]
  have pc:c.Perm r:=Array.perm_iff_toList_perm.mpr (by rw[cl,O];exact(sortI_perm rk _).map _);have B:∀(l:List Nat) (d:Int),(∀i∈l,i<n)->rowOf intKind d (l.map (T.it false))=(l.filter λk=>decide (rk k=d)).map (T.it false):=λl d I=>by
   delta rowOf;rw[ace];congr 1;refine List.filter_congr λi o=>?_;show sameKey intKind d (pB (rk (a i)) 0,_)=decide (rk i=d);rw[g i (I i o)];show(!decide (rk i<d)&&!decide (d<rk i))=decide (rk i=d);by_cases h:rk i=d;·subst h;simp
   ·rw[iC h];by_cases h1:rk i<d;·simp[h1]
    ·haveI:d<rk i:=by omega
     simp[this]
  haveI tc:Stable intKind c r:=λd=>by rw[cl,O,B _ d (λi o=>kJ i o),B _ d (λi o=>lQ.mp o),Lq]
  have sc:SortedToK intKind c r.size:=by
   intro i j hij J;rw[t]at J;have hlen:(sortI rk (bU n)).length=n:=by rw[(sortI_perm rk _).length_eq,Bk]
   haveI kk:∀m,(L:m<n)->KK intKind c m=rk _:=λm L=>by
    haveI e:c[m]?=some ((T.it false) ((sortI rk (bU n))[m]'(by rw[hlen];exact L))):=by rw[<-Bl,cl,jp,cI (by rw[hlen];exact L)];rfl
    delta KK;rw[e];show rk (a _)=_;rw[g _ (kJ _ (acf _))]
   rw[kk i (by omega),kk j J];refine iC ?_;by_cases h:i=j;·subst h;exact Int.lt_irrefl _
   ·haveI:=acg.mp (Lo rk (bU n)) i j (by rw[hlen];omega) (by rw[hlen];exact J) (by omega);exact Int.not_lt.mpr this
  have hq:q.map (T.it false)=c:=sorted_stable_unique u hp pc hs sc H tc;have M:q.toList.map (T.it false)=(sortI rk (bU n)).map (T.it false):=by rw[<-pI,hq,cl]
  have N:q.toList.map a=(sortI rk (bU n)).map a:=by have:=bz (Rt λ(x:fh)=>match x.2 with|.int z _=>z.toNat|_=>0) M;rw[fZ,fZ]at this;exact this
  refine Rq ?_;show((q.map (T.it true)).map (·.2)).toList=_;rw[pI,pI,fZ];haveI f1:q.toList.map ((λx:fh=>x.2)∘(T.it true))=(q.toList.map a).map λi=>vs.getD i .none:=by rw[fZ];rfl
  rw[f1,N,fZ];refine uA λi o=>?_;show vs.getD (a i) .none=_;rw[g i (kJ i o)]
 ·intro _ _ _ z;exact z.elim
end
end gC
namespace HT
open PySem PyProof.Rows
open PySem.SeqAt
open PySem.AutoSeq1(wpAny_loadPart')
open PySem.MeetsSeq PySem.MeetsSeq2 PySem.MeetsSeq3
def zx(h:kj vs ns)(a:i<ns.length):∃t,vs[i]?=some (.int (ns[i]'a) t):=h.get i _ (cI a)
def Xk(l b:af)(items gE:Array aj)(n n2:Nat)(ns ms:List Int)(hi:kj items.toList ns)(hj:kj gE.toList ms)(k:Nat):∀i:Nat,items.size-i=k->i<=items.size->i<=gE.size->uC (Builtin.«list.__eq__.loop» ⟨[.ref l,.ref b,gW i,gW 0],[]⟩) (λ_ R s=>s.heap.get? l=some {cls:=.type "list",data:=.seq items n}/\s.heap.get? b=some {cls:=.type "list",data:=.seq gE n2}/\R (.ok (.ret (.bool (lexLt (ns.drop i) (ms.drop i))))) s):=by
 have z1:items.size=ns.length:=by rw[<-hi.length];simp
 have z2:gE.size=ms.length:=by rw[<-hj.length];simp
 induction k with
 |zero=>
  intro i hk l1 l2 prog w A R s h;obtain⟨hp,g,d,tk,os⟩:=s;obtain⟨hl,hb,h⟩:=h;have e0:i=items.size:=by lia
  wp_walk using lY hl,lY hb;have zy:items[((i:Nat):Int).toNat]?=none:=by simp;lia
  have hd:ns.drop i=[]:=by simp;lia
  rw[hd]at h;rw[zy];wp_walk using lY hl,lY hb;show R (.ok (.ret (.bool (decide (items.size<gE.size))))) _;have:lexLt [] (ms.drop i)=decide (items.size<gE.size):=by
   cases hm:ms.drop i with
   |nil=>
    have:ms.length<=i:=by simpa using hm
    rw[iC (by lia)];rfl
   |cons y ys=>
    have:i<ms.length:=by have:=bz ki hm;simp at this;lia
    rw[gT (by lia)];rfl
  simp_all
 |succ k ih=>
  intro i hk l1 l2 prog w A R s h;obtain⟨hp,g,d,tk,os⟩:=s;obtain⟨hl,hb,h⟩:=h;wp_walk using lY hl,lY hb;have f6:i<ns.length:=by lia
  obtain⟨t,e1⟩:=zx hi f6;have zy:items[((i:Nat):Int).toNat]?=some (.int (ns[i]'f6) t):=by rw[<-e1,Bl];rfl
  have zz:ns.drop i=ns[i]'f6::ns.drop (i+1):=lR f6;rw[zy];by_cases h2:i<ms.length
  ·obtain⟨u,e2⟩:=zx hj h2;have zA:gE[((i:Nat):Int).toNat]?=some (.int (ms[i]'h2) u):=by rw[<-e2,Bl];rfl
   have hd2:ms.drop i=ms[i]'h2::ms.drop (i+1):=lR h2;have hc:((i:Int)+1)=((i+1:Nat):Int):=by push_cast;rfl
   rw[zz,hd2,Jk]at h;rw[zA];obtain⟨e,he,Lr⟩:=T5 A.in1 ⟨hp,g,d,tk,os⟩ (ns[i]'f6) t (ms[i]'h2) u;refine aJ (he prog w _ _ ?_);cases e with|true=>rw[ax (Lr.mp rfl)]at h;wp_walk;rw[hc];exact⟨GQ plain_eq_loop _,Bm entry_eq_loop (by rw[ach plain_eq_loop _];exact ih (i+1) (by lia) (by lia) (by lia) prog w A R _ ⟨hl,hb,h⟩)⟩|false=>rw[ay (λq=>bw (Lr.mpr q) bE)]at h;wp_walk using lY hl,lY hb;rw[zy,zA];have Xl:=T6 A.in1 ⟨hp,g,d,tk,os⟩ (ns[i]'f6) t (ms[i]'h2) u prog w;wp_walk using Xl;exact h
  ·have zA:gE[((i:Nat):Int).toNat]?=none:=by simp;lia
   have hd2:ms.drop i=[]:=by simp;lia
   rw[zz,hd2,T4]at h;rw[zA];wp_walk using lY hl,lY hb;show R (.ok (.ret (.bool (decide (items.size<gE.size))))) _;grind
def Ls(l b:af)(items gE:Array aj)(n n2:Nat)(ns ms:List Int)(hi:kj items.toList ns)(hj:kj gE.toList ms):uC (Builtin.«list.__lt__» ⟨[.ref l,.ref b],[]⟩) (λ_ R s=>s.heap.get? l=some {cls:=.type "list",data:=.seq items n}/\s.heap.get? b=some {cls:=.type "list",data:=.seq gE n2}/\R (.ok (.ret (.bool (lexLt ns ms)))) s):=by intro prog w A R s h;obtain⟨hl,hb,h⟩:=h;haveI f3:=AutoSeq1.sub_list_list;wp_walk using lY hl,lY hb;exact⟨GQ plain_eq_loop _,Bm entry_eq_loop (by exact Xk l b items gE n n2 ns ms hi hj _ 0 rfl (fK _) (fK _) prog w A R _ ⟨hl,hb,h⟩)⟩
section
variable{prog:bA}{w:bB}{A:cG}{E:aj->ar->Prop}{s:ar}{l b:af}{items gE:Array aj}{n n2:Nat}{ns ms:List Int}
def Xm(c:s.heap.get? l=some {cls:=.type "list",data:=.seq items n}) (a:s.heap.get? b=some {cls:=.type "list",data:=.seq gE n2}) (d:kj items.toList ns) (e:kj gE.toList ms) (f:A.units<dU) (h:Q (.bool (lexLt ns ms)) s):aH (aF prog w) A (fg .Lt (.ref l) (.ref b)) Q E s:=richCompare_meets_room (op:=.Lt) ⟨_,c,rfl⟩ ⟨_,a,rfl⟩ Ru aci (acj _ _) (Ls l b items gE n n2 ns ms d e) ⟨c,a,show pC _≠Value.notImplemented/\Q _ s from⟨(λx=>nomatch x),h⟩⟩ f
def Xn(a:s.heap.get? l=some {cls:=.type "list",data:=.seq items n}) (c:s.heap.get? b=some {cls:=.type "list",data:=.seq gE n2}) (d:kj items.toList ns) (e:kj gE.toList ms) (f:A.units<dU) (h:Q (lexLt ns ms) s):aH (aF prog w) A (keyLt' kX (.ref l) (.ref b)) Q E s:=by refine aJ (wpAny_cRoomFor f (aJ (wpAny_callSpecialIfBound?_slot (⟨_,a,rfl⟩) Ru ?_)));exact call_meets Ru ⟨_,a,rfl⟩ aci (acj _ _) (Ls l b items gE n n2 ns ms d e) ⟨a,c,mM h⟩
end
end HT
section
namespace PySem
open Sem(wp)
open PyProof.Rows
namespace TT
section
variable{prog:bA}{w:bB}{A:cG}{E:aj->ar->Prop}{s:ar}
def DW(a:gi s.heap it l i)(g:gV s.heap l b)(h:b[i]?=some x)(j:∀h',gi h' it l (i+1)->jO it s.heap h'->Q x {s with heap:=h'}):aH (aF prog w) A (GR (.ref it)) Q E s:=by obtain⟨o,d,k,c⟩:=id a;obtain⟨m,e,_,nl,f⟩:=g;refine aJ (xW a.typeIs GS (xX GS a.typeIs ack ?_ (acl _)));show aH _ _ (field (.ref it) 0>>=_) _ _ s;refine aJ (km d c rfl ?_);refine aJ (km d c rfl ?_);refine aJ (xY e f ?_);simp only[rT,h];refine aJ (wpAny_setField d c (by simp) (ce ⟨x,rfl,ce (j _ ?_ (Rv ..))⟩));exact⟨_,Gy _ d (Obj.isFreed_of_fields (acm c _)),(Obj.cls_mapFields ..).trans k,by rw[acm c];rfl⟩
def Xo(h:A.handled=none)(a:gi s.heap it l i)(j:gV s.heap l b)(k:b[i]?=none)(n:∀h' e,Rw it s.heap h'->(∃o,h'.get? e=some o/\o.cls=.type "StopIteration")->E (.ref e) {s with heap:=h'}):aH (aF prog w) A (GR (.ref it)) Q E s:=by
 obtain⟨o,c,p,d⟩:=id a;obtain⟨q,f,_,nl,g⟩:=j;refine aJ (xW a.typeIs GS (xX GS a.typeIs ack ?_ (acl _)));show aH _ _ (field (.ref it) 0>>=_) _ _ s;refine aJ (km c d rfl ?_);refine aJ (km c d rfl ?_);refine aJ (xY f g ?_);simp only[rT,k];refine aJ (GN (aJ (wpAny_setField c d (by simp) ?_)));refine aJ ?_;refine aJ (m:=firstArgMember _ _) (Ry (by rfl) ?_);refine Rb ?_ (by size_fits);refine aJ (wpAny_handled ?_);first|rw[show A.in1.handled=none from h]|rw[h]
 refine aJ (ce (wpAny_throw ?_));exact n _ _ (((Rv ..).extBut.push _).push _) ⟨_,dL _ rfl,rfl⟩
def Xp{Q:aj->ar->Prop}(he:lX s.heap e it i I)(hit:gi s.heap it l k)(hl:gV s.heap l U)(hx:U[k]?=some x)(H:e≠it)(hQ:∀h',GU h' e it (i+1) x s.heap.objs.size->gi h' it l (k+1)->h'.get? s.heap.objs.size=some {cls:=.type "tuple",data:=.seq #[.int i s.toks,x]}->h'.objs.size=s.heap.objs.size+1->(∀b o,b≠e->b≠it->s.heap.get? b=some o->h'.get? b=some o)->Q (.ref s.heap.objs.size) {s with heap:=h',toks:=s.toks+1}):aH (aF prog w) A (Builtin.«enumerate.__next__» ⟨[.ref e],[]⟩) (λfin s'=>∃v,fin=.done (.ret v)/\Q v s') E s:=by
 obtain⟨T,g,d,tk,os⟩:=s;show aH _ _ (field (.ref e) 2>>=_) _ _ _;refine aJ (km he rfl (x:=.ref it) rfl ?_);refine aJ (DW hit hl hx λJ P h=>?_);replace h:jO it T J:=h;haveI u:lX J e it i I:=(h.2 e H).trans he;refine aJ (km u rfl (x:=gW i) rfl ?_);refine aJ (km u rfl (x:=.none) rfl ?_);refine aJ (wpAny_mkInt ?_);refine aJ (pJ u (by simp) λL y j=>?_);replace j:jO e J L:=j;replace y:lX L e it (i+1) I:=y;refine aJ (pJ y (by simp) λq z m=>?_);replace m:jO e L q:=m;replace z:lX q e it (i+1) I:=z;refine aJ (Rn ?_);haveI n:lX (q.push {cls:=.type "tuple",data:=.seq #[.int i tk,x]}) e it (i+1) I:=bL _ z;generalize p:q.push {cls:=.type "tuple",data:=.seq #[.int i tk,x]}=t at n;haveI hsz:q.objs.size=T.objs.size:=by rw[m.1,j.1,h.1]
 haveI W:e<T.objs.size:=cu he;haveI X:t.get? T.objs.size=some {cls:=.type "tuple",data:=.seq #[.int i tk,x]}:=by rw[<-p,<-hsz];exact dL _ rfl
 haveI Y:t.objs.size=T.objs.size+1:=by rw[<-p,gX,hsz]
 haveI Z:∀b o,b≠e->b≠it->T.get? b=some o->t.get? b=some o:=λb o B DX hb=>by rw[<-p];exact bL _ (m.extBut b o B (j.extBut b o B (h.extBut b o DX hb)))
 haveI S:gi t it l (k+1):=by rw[<-p];obtain⟨o,ho,r⟩:=(P.extBut j.extBut (bK H)).extBut m.extBut (bK H);exact⟨o,bL _ ho,r⟩
 rw[hsz];refine aJ ?_
 ·delta aeJ;refine aJ (km n rfl (x:=.none) rfl (ce ?_));simp only[if_true];refine aJ (GN ?_);refine aJ (km n rfl (x:=I) rfl ?_);refine aJ (pJ n (by simp) λM C a=>?_);replace a:jO e t M:=a;replace C:lX M e it (i+1) x:=C;refine aJ ?_
  ·delta aeK;refine aJ (pJ C (by simp) λN F c=>?_);replace c:jO e M N:=c;replace F:GU N e it (i+1) x T.objs.size:=F;refine pJ F (by simp) λO G f=>?_;replace f:jO e N O:=f;replace G:GU O e it (i+1) x T.objs.size:=G;refine aJ (GO (ce ⟨_,rfl,hQ O G ?_ ?_ ?_ ?_⟩));·exact((S.extBut a.extBut (bK H)).extBut c.extBut (bK H)).extBut f.extBut (bK H)
   ·exact f.extBut _ _ (lT W) (c.extBut _ _ (lT W) (a.extBut _ _ (lT W) X))
   ·rw[f.1,c.1,a.1,Y]
   ·exactλb o B DX hb=>f.extBut b o B (c.extBut b o B (a.extBut b o B (Z b o B DX hb)))
def Xq(he:lX s.heap e it i m)(g:gi s.heap it l k)(n:gV s.heap l f)(p:f[k]?=some x)(h:e≠it)(q:∀h',GU h' e it (i+1) x s.heap.objs.size->gi h' it l (k+1)->h'.get? s.heap.objs.size=some {cls:=.type "tuple",data:=.seq #[.int i s.toks,x]}->h'.objs.size=s.heap.objs.size+1->(∀b o,b≠e->b≠it->s.heap.get? b=some o->h'.get? b=some o)->Q (some (.ref s.heap.objs.size)) {s with heap:=h',toks:=s.toks+1}):aH (aF prog w) A (uv (.ref e)) Q E s:=by have j:s.TypeIs (.ref e) _:=⟨_,he,rfl⟩;exact aJ (Bi (xW j GV (xX GV j acn (Xp he g n p h λh' a b c d k=>ce (q h' a b c d k)) (aco _))))
def Xr(g:A.handled=none)(he:lX s.heap e it i h)(b:gi s.heap it l k)(j:gV s.heap l a)(m:a[k]?=none)(n:∀h',Rw it s.heap h'->Q none {s with heap:=h'}):aH (aF prog w) A (uv (.ref e)) Q E s:=by haveI f:s.TypeIs (.ref e) _:=⟨_,he,rfl⟩;refine aJ (Bi (xW f GV (xX GV f acn ?_ (aco _))));show aH _ _ (field (.ref e) 2>>=_) _ _ _;refine aJ (km he rfl rfl ?_);refine aJ (Xo g b j m λh' x c d=>?_);obtain⟨o,p,q⟩:=d;refine aJ (Rz ⟨o,p,q⟩ isSubtype_stop ?_);exact ce (n _ c)
end
open AutoSeq1(wpAny_loadPart')
def Xs(t:af)(a:Array aj)(mv:Tok):uC (Builtin.«enumerate.__new__» ⟨[.type "enumerate",.ref t],[(n4 "start",.int 1 mv)]⟩) (λ_ R s=>gV s.heap t a/\R (.ok (.ret (.ref (s.heap.push {cls:=.type "tuple_iterator",data:=.fields #[.ref t,.int 0 0]}).objs.size))) {s with heap:=(s.heap.push {cls:=.type "tuple_iterator",data:=.fields #[.ref t,.int 0 0]}).push {cls:=.type "enumerate",data:=.fields #[.none,.bool false,.ref s.heap.objs.size,gW 1,.none,.none]}}):=
 .of_wp λprog w A R s h=>by
  obtain⟨f,g,d,i,os⟩:=s;obtain⟨j,h⟩:=h;have e:=sub_enumerate;haveI b:gV (GW ⟨f,g,d,i,os⟩) t a:=j;wp_walk;refine wpAny_stack_any λst=>ce ?_;split
  ·rename_i c _ _ _ _ _;cases(c==rF "enumerate");·wp_walk using Bo b;exact⟨_,rfl,h⟩
   ·wp_walk using Bo b;exact⟨_,rfl,h⟩
  ·wp_walk using Bo b;exact⟨_,rfl,h⟩
end TT
end PySem
end
section
namespace PySem
open Sem(wp)
open PyProof.Rows
namespace TT
section
variable{prog:bA}{w:bB}{A:cG}{E:aj->ar->Prop}{s:ar}
def Xt{T d a:String}{y z:Builtin}{args:List aj}{o:List (ag×aj)}{S:Spec}{Q Q₁:aj->ar->Prop}(i:TypeCalled T d a)(H:RB T ⟨args,o⟩=pure ())(q:RC d ⟨.type T::args,o⟩=pure ())(j:entryFor table d=some y)(k:entryFor table a=some z)(g:uC (y ⟨.type T::args,o⟩) S)(h:S A.in1 (wants Q₁ E) s)(m:∀obj b,Q₁ obj b->b.TypeIs obj T/\argsOk a ⟨obj::args,o⟩/\∃t,uC (z ⟨obj::args,o⟩) t/\t A.in1 (wants (λr l=>r=.none/\Q obj l) E) b):aH (aF prog w) A (call (.type T) args o) Q E s:=by
 obtain⟨c,tl,B⟩:=i.mro;haveI u:=i.made;haveI C:=i.sub;refine xO (codeAny_of_tree ?_);refine ce ⟨Code.quiet_builtin _ (by simp),Bm F.entry_type_call ?_⟩;haveI P:=i.notType;haveI U:=i.canCreate;repeat(any_goals(first|assumption|wp_step))
 refine uz (acp i.plain j (Ry q (g prog w A.in1 _ s h))) λr b G=>?_;cases r with
 |error e=>exact G
 |ok I=>
  cases I with
  |ret obj=>
   obtain⟨J,v,t,L,x⟩:=m _ _ G;haveI N:=i.init.lookup;haveI O:=i.init.bind obj;repeat(any_goals(first|assumption|wp_step))
   refine uz (acp i.init.plain k (i.init.check _ _ _ _ _ _ _ _ J v (L prog w A.in1 _ b x))) λp l f=>?_;cases p with|error e=>exact f|ok n=>cases n with|ret r=>obtain⟨rfl,W⟩:=f;repeat(any_goals(first|assumption|wp_step))|_=>omega
  |_=>omega
def Xu(e:xP (.type T) "__init__"=pure (some (.builtin "object.__init__")))(f:Bind.madeBy (.type T)=pure (some b))(c:(some b !=some "object.__new__")=true):uC (Builtin.«object.__init__» ⟨[self,a],g⟩) (λ_ R s=>s.TypeIs self T/\R (.ok (.ret .none)) s):=by
 refine Meets.of_wp λprog w A R s d=>?_;obtain⟨h,i⟩:=d;repeat(any_goals(first|assumption|wp_step))
 simp_all
def Xv(a v:aj):RB "enumerate" ⟨[a],[(n4 "start",v)]⟩=pure ():=by kernel_rfl
def Xw(a v:aj):RC "enumerate.__new__" ⟨[.type "enumerate",a],[(n4 "start",v)]⟩=pure ():=by kernel_rfl
def Xx(a b v:aj):argsOk "object.__init__" ⟨[a,b],[(n4 "start",v)]⟩:=by kernel_rfl
def Xy(f:gV s.heap t c)(h:∀h',lX h' (s.heap.objs.size+1) s.heap.objs.size 1 .none->gi h' s.heap.objs.size t 0->h'.objs.size=s.heap.objs.size+2->(∀b o,s.heap.get? b=some o->h'.get? b=some o)->Q (.ref (s.heap.objs.size+1)) {s with heap:=h'}):aH (aF prog w) A (call (.type "enumerate") [.ref t] [(n4 "start",.int 1 mv)]) Q E s:=by
 refine Xt (Q₁:=λobj a=>a.TypeIs obj "enumerate"/\Q obj a) RD (Xv _ _) (Xw _ _) F.entry_enumerate_new F.entry_object_init (Xs t c mv) ⟨f,?_⟩ λobj _ d=>⟨d.1,Xx obj _ _,_,Xu RD.init.lookup RD.made (by decide),d.1,rfl,d.2⟩;haveI e:(s.heap.push {cls:=.type "tuple_iterator",data:=.fields #[.ref t,.int 0 0]}).objs.size=s.heap.objs.size+1:=gX ..
 rw[e];haveI he:lX ((s.heap.push {cls:=.type "tuple_iterator",data:=.fields #[.ref t,.int 0 0]}).push {cls:=.type "enumerate",data:=.fields #[.none,.bool false,.ref s.heap.objs.size,gW 1,.none,.none]}) (s.heap.objs.size+1) s.heap.objs.size 1 .none:=by haveI:=dL (s.heap.push {cls:=.type "tuple_iterator",data:=.fields #[.ref t,.int 0 0]}) (o:={cls:=.type "enumerate",data:=.fields #[.none,.bool false,.ref s.heap.objs.size,gW 1,.none,.none]}) rfl;rw[e]at this;exact this
 refine⟨⟨_,he,rfl⟩,h _ he ⟨_,bL _ (dL _ rfl),rfl,rfl⟩ (by simp) λb o x=>bL _ (bL _ x)⟩
end
section
variable{M:Model}{A:cG}{E:aj->ar->Prop}{s:ar}{env:Env}
def Xz(h:aH M A (spliced (bF pos (aB (e::rest) env))) (λvs b=>aH M A (evalAll ((ii pos (ij kws env)).map (·.2))) (λkvs d=>aH M A (call (.type T) vs (((ii pos (ij kws env)).filterMap (·.1)).zip kvs)) Q E d) E b) E s)(he: ~~~(bF pos (aB (e::rest) env)=(false,aP e env)::bF pos (aB rest env))) (c: ~~~((bF pos (aB (e::rest) env)).any (·.1)=false)) (f: ~~~((ii pos (ij kws env)).all (·.1.isSome)=true)) (i: ~~~((ii pos (ij kws env)).any (·.1.isNone)=false)):aH M A (pF pos (.type T) [] (bF pos (aB (e::rest) env)) (ii pos (ij kws env))) Q E s:=by
 haveI j:aH M A (evalArgs (.type T) true (bF pos (aB (e::rest) env)) (ii pos (ij kws env))) (λa b=>aH M A (call (.type T) ([]++a.pos) a.kw) Q E b) E s:=by
  rw[he]at h⊢
  exact evalArgs_kwB f h
 refine aJ (rL (fw j (λa b g=>aJ (Gp ?_)) λ_ _ x=>x));rw[c,i];refine aJ (ce ?_);exact aJ (fw g (λr d k=>aJ (rL (wpAny_point (ce k)))) λ_ _ x=>x)
end
end TT
end PySem
end
namespace L2
open PySem PySem.Spec PyProof.Rows
def DY{P:Nat->Prop}(c:P a)(d:P b)(h:q∈[a,b]):P q:=by simp only[ff,GX,or_false]at h;rcases h with h|h<;>rw[h]<;>assumption
def Lu{P:Nat->Prop}{R:Prop}(h:∀x∈[a,b],P x)(k:P a->P b->R):R:=k (h _ (by simp)) (h _ (by simp))
inductive Lv(K:br)(a:af)(i:Nat)(H:Hp):Prop|mk(xs:List V)(x:V):cS K H a xs->xs[i]?=some x->Lv K a i H
inductive Lw(K:br)(a:af)(i:Nat)(H:Hp)(v:V)(H':Hp):Prop|mk(T:af)(x:V):v=.ref T->H T=none->H'=upd H T (.tup [.int ((1+i:Nat):Int),x])->(∀xs,cS K H a xs->xs[i]?=some x)->Lw K a i H v H'
abbrev DZ(K:br)(a:af):It:=⟨Lv K a,Lw K a,λi H=>∃xs:List V,cS K H a xs/\xs.length<=i⟩
inductive E1(a e it i:Nat)(h:aZ):Prop|mk(old:aj):lX h e it ((1+i:Nat):Int) old->gi h it a i->e≠it->E1 a e it i h
def XA{K:br}(a e it:af):Turn P w K (.Tuple T kk U) (DZ K a) [e,it] e (E1 a e it)where
 mem:=.head _;obj:=λi h st b g=>by have⟨d,he,⟨o,j,y,Z⟩,_⟩:=st;exact DY (P:=λb=>∃o,h.get? b=some o/\∀v,o.data≠.cell v) ⟨_,he,λv q=>nomatch q⟩ ⟨o,j,λv q=>by rw[Z]at q;cases q⟩ g
 keep:=λi h Y st k=>by have⟨d,he,⟨o,j,r⟩,c⟩:=st;exact Lu k λk1 k2=>⟨d,k1 _ he,⟨o,k2 o j,r⟩,c⟩
 item:=by
  intro X z B C y i pins s σ H E I hf st F;subst z B C;have⟨d,he,f,c⟩:=st;have⟨xs,x,t,G⟩:=F;have⟨its,J,p,hz⟩:=I.tuple t;have⟨u,hu,ru⟩:=J.get G;haveI l:=cu he;haveI vn:it<s.heap.objs.size:=by have⟨_,q,_⟩:=f;exact cu q
  refine PySem.TT.Xq he f p (by simpa using hu) c λY j n hT hsz hk=>?_;refine⟨_,rfl,ab0 j λL U7 M=>?_⟩;haveI N:=(M.2 _ (lT l)).trans hT;haveI O:da X.prog X.w (upd H s.heap.objs.size (.tup [.int ((1+i)),x])) L _ (.tup [.int _,x]):=⟨by show 2<=bj;decide,[.int _ s.toks,u],.cons ⟨_,rfl⟩ (.cons ru .nil),⟨_,N,rfl,_,rfl⟩⟩;haveI W:Inv X pins σ (upd H _ (.tup [.int (1+i:Nat),x])) {s with heap:=L,toks:=s.toks+1}:=I.yW (λb ob g q=>Lu (P:=λx=>b≠x) (λx m e=>g (e▸m)) λb1 b2=>(M.2 b b1).trans (hk b ob b1 b2 q)) hf (bR _) O;refine⟨.ref _,_,W,rfl,⟨_,x,rfl,I.a9.fresh (bR _),rfl,λys hy=>by rw[I.yp hy t];exact G⟩,⟨u,?_,n.extBut M.extBut (bK c),c⟩,λb g=>?_⟩;·assumption
  ·haveI S:=DY (P:=λb=>b<s.heap.objs.size) l vn g;rw[aD (ea S)];exact(hf b g).1
 done:=by intro X z B C y i pins s σ H E I hf st F;subst z B C;have⟨d,he,f,c⟩:=st;have⟨xs,t,G⟩:=F;have⟨its,J,p,hz⟩:=I.tuple t;have⟨f0,f1,f2,f3,f4,f5⟩:=hf it (.tail _ (.head _));haveI hl:=J.length;exact PySem.TT.Xr (I.ok.hd y) he f p (by simp;lia) λY eb=>⟨rfl,I.turned (λb o g q=>eb b o g q) f0 f1 f3 f4 f5⟩
 self:=λA i s Q E st h=>by obtain⟨_,he⟩:=st;exact GH he h
inductive Lx(K:br)(R:It->Hp->Prop)(vs:List V)(H1:Hp):Prop|mk:∀a xs,vs=[.ref a]->cS K H1 a xs->R (DZ K a) H1->Lx K R vs H1
abbrev XB(K:br)(a:TA):TI:=λσ H R=>a σ H (Lx K R)
def XC(o:Gl X "enumerate")(t:X.mg "enumerate"=none)(u:PA X [e] w)(he: ~~~(bF c (aB [e] X.env)=(false,aP e X.env)::bF c (aB [] X.env))) (hpl: ~~~((bF c (aB [e] X.env)).any (·.1)=false)):PI X (.Tuple l kk m) (.Call (.Name "enumerate" p) [e] [⟨some "start",.Constant (.int 1) j O,P⟩] c) (XB X.K w):=by intro pins s σ H R I h;refine lV (k9 I o t boot_enumerate (PySem.TT.Xz (ba (u c pins s σ H _ I h) λus y ⟨vs,n,A,B,C⟩=>?_) he hpl));have⟨a,xs,e,E,q⟩:=C;subst e;cases B with|cons r F=>cases F;subst r;refine kws_cons (fw (fk pins y σ n (λv i=>v=.int 1/\i=n) A ⟨rfl,rfl⟩) (λv f z=>kws_nil ?_) λ_ _ z=>z);obtain⟨x,i,g,G,rfl,rfl⟩:=z;obtain⟨mv,rfl⟩:=G;have⟨its,Q,J,S⟩:=g.tuple E;refine PySem.TT.Xy J λT he k hsz L=>GH he ?_;haveI M:=g.kept (t':=f.toks) L;refine⟨f.heap.objs.size+1,[f.heap.objs.size+1,f.heap.objs.size],_,_,i,rfl,M,XA a _ _,⟨.none,he,k,ab1 _⟩,λb N=>?_,q⟩;haveI d:=DY (uD _ _) (bR _) N;exact g.mY d (g.a9.fresh d)
end L2
section
namespace PySem
open Sem(wp)
open PyProof.Rows
namespace TT
def na{n a b:Nat}(h:(a==b)=false):n+a≠n+b:=λe=>by cases Nat.add_left_cancel e;rw[beq_self_eq_true]at h;cases h
def nb(h:(0==b)=false):n≠n+b:=na h
def nc(h:(0==b)=false):n+b≠n:=(nb h).symm
def nl{n l b:Nat}(h:l<n):l≠n+b:=ea (Nat.lt_add_right b h)
@[reducible]def gF(h:aZ)(T:af)(a b c:aj):Prop:=h.get? T=some {cls:=.type "tuple",data:=.seq #[a,b,c]}
@[reducible]def Ly(h:aZ)(e:af):Prop:=∃o,h.get? e=some o/\o.cls=.type "StopIteration"
inductive ZP(n:Nat):Prop|mk{β:Type}{b:β}{F:aj×Nat->β->d4 (ForInStep β)}{K:β->d4 Fin}:(∀{prog:bA}{w:bB}{A:cG}{E:aj->ar->Prop}{s:ar}{Q:Fin->ar->Prop},kY s.heap (n+5) (n+3) (n+4) .none->gF s.heap (n+3) (.ref n) (.ref (n+1)) (.ref (n+2))->(∀h',kY h' (n+5) (n+3) (n+4) .ellipsis->jO (n+5) s.heap h'->aH (aF prog w) A (forIn [(.ref n,0),(.ref (n+1),1),(.ref (n+2),2)] b F) (λr s'=>aH (aF prog w) A (K r) Q E s') E {s with heap:=h'})->aH (aF prog w) A (Builtin.«zip.__next__» ⟨[.ref (n+5)],[]⟩) Q E s)->(∀{prog:bA} {w:bB} {A:cG} {E:aj->ar->Prop} {s:ar} {Q:ForInStep β->ar->Prop} {it:af} {k:Nat} {x y z v:aj} {I:aZ->Prop},it≠n+4->gF s.heap (n+4) x y z->(∀{Q:aj->ar->Prop} {E},(∀h',I h'->jO it s.heap h'->Q v {s with heap:=h'})->aH (aF prog w) A (GR (.ref it)) Q E s)->(∀h' ng,I h'->jO it s.heap h'->jO (n+4) h' ng->ng.get? (n+4)=some {cls:=.type "tuple",data:=.seq ((#[x,y,z]:Array aj).setIfInBounds k v)}->Q (.yield b) {s with heap:=ng})->aH (aF prog w) A (F (.ref it,k) b) Q E s)->(∀{prog:bA} {w:bB} {A:cG} {E:aj->ar->Prop} {s:ar} {Q:ForInStep β->ar->Prop} {it:af} {k:Nat},it≠n+5->kY s.heap (n+5) (n+3) (n+4) .ellipsis->(∀{Q:aj->ar->Prop} {E:aj->ar->Prop},(∀h' e,Rw it s.heap h'->Ly h' e->E (.ref e) {s with heap:=h'})->aH (aF prog w) A (GR (.ref it)) Q E s)->(∀h' e,(∀c o,c≠n+5->c≠it->s.heap.get? c=some o->h'.get? c=some o)->Ly h' e->E (.ref e) {s with heap:=h'})->aH (aF prog w) A (F (.ref it,k) b) Q E s)->(∀{prog:bA} {w:bB} {A:cG} {E:aj->ar->Prop} {s:ar} {Q:Fin->ar->Prop} {x y z:aj},gF s.heap (n+4) x y z->kY s.heap (n+5) (n+3) (n+4) .ellipsis->(∀h',kY h' (n+5) (n+3) (n+4) (gW s.heap.objs.size)->gF h' s.heap.objs.size x y z->h'.objs.size=s.heap.objs.size+1->(∀c o,c≠n+5->s.heap.get? c=some o->h'.get? c=some o)->Q (.done (.ret (.ref s.heap.objs.size))) {s with heap:=h'})->aH (aF prog w) A (K b) Q E s)->ZP n
def zp(n:Nat):ZP n:=by
 refine' ZP.mk ?pre ?slot ?fin ?out;case pre=>intro prog w A E s Q j J h;show aH _ _ (field (.ref (n+5)) 2>>=_) _ _ _;refine aJ (km j rfl (x:=.bool false) rfl ?_);refine aJ (km j rfl (x:=.ref (n+3)) rfl ?_);refine aJ (xY J rfl ?_);refine aJ (aJ (km j rfl (x:=.none) rfl (ce ?_)));rw[ax rfl];exact aJ (GN (aJ (km j rfl (x:=.ref (n+4)) rfl (aJ (pJ j (by simp) λt l m=>aJ (h t l m))))))
 case slot=>intro prog w A E s Q it k x y z v I L M N h;refine aJ (wpAny_onRaise ?_);refine aJ (N λu B a=>ce ?_);haveI b:=a.extBut _ _ L.symm M;refine aJ (xY b rfl (aJ (wpAny_updateSeq b rfl (aJ (GO (ce (h _ _ B a (Rv ..) ?_)))))));rw[Gy _ b rfl];simp[jo]
 case fin=>
  intro prog w A E s Q it k L j N h;refine aJ (wpAny_onRaise ?_);refine aJ (N λu e a he=>?_);have⟨T,p,C⟩:=he;haveI g:=a _ _ L.symm j;haveI O:e≠n+5:=λx=>by subst x;rw[g]at p;cases p;simp at C
  exact pJ g (by simp) λF _ i=>h F e (λc o H U x=>i.extBut _ _ H (a _ _ U x)) ⟨T,i.extBut _ _ O p,C⟩
 case out=>intro prog w A E s Q x y z M j h;refine aJ (xY M rfl (aJ (Rn ?_)));refine aJ (aJ (pJ (bL _ j) (by simp) λP q d=>pJ q (by simp) λG r f=>ce ?_));haveI S:=lT (cu j);exact h G r (f.extBut _ _ S (d.extBut _ _ S (dL _ rfl))) (by rw[f.1,d.1,gX]) λc o H e=>f.extBut _ _ H (d.extBut _ _ H (bL _ e))
section
variable{prog:bA}{w:bB}{A:cG}{E:aj->ar->Prop}{s:ar}
def XD{Q:aj->ar->Prop}(d1:Y<n)(Z:l2<n)(M:l3<n)(hz:kY s.heap (n+5) (n+3) (n+4) .none)(XE:gF s.heap (n+3) (.ref n) (.ref (n+1)) (.ref (n+2)))(XF:gF s.heap (n+4) a b c)(h1:s.heap.IsListIter n Y k)(h2:gi s.heap (n+1) l2 k)(h3:gi s.heap (n+2) l3 k)(sT:s.heap.IsList Y xs)(zB:gV s.heap l2 ys)(XG:gV s.heap l3 zs)(hx:xs[k]?=some x)(hy:ys[k]?=some y)(hw:zs[k]?=some z)(hQ:∀h',kY h' (n+5) (n+3) (n+4) (gW s.heap.objs.size)->gF h' (n+4) x y z->h'.IsListIter n Y (k+1)->gi h' (n+1) l2 (k+1)->gi h' (n+2) l3 (k+1)->gF h' s.heap.objs.size x y z->h'.objs.size=s.heap.objs.size+1->(∀c o,c≠n+5->c≠n+4->c≠n->c≠n+1->c≠n+2->s.heap.get? c=some o->h'.get? c=some o)->Q (.ref s.heap.objs.size) {s with heap:=h'}):aH (aF prog w) A (Builtin.«zip.__next__» ⟨[.ref (n+5)],[]⟩) (λfin s'=>∃v,fin=.done (.ret v)/\Q v s') E s:=by
 obtain⟨pre,slot,-,out⟩:=zp n;refine pre hz XE λacP L d=>?_;refine aJ (slot (nb rfl) (d.extBut _ _ (na rfl) XF) (wpAny_nextOf_list_item (h1.extBut d.extBut (nb rfl)) (sT.extBut d.extBut (nl d1)) hx) λacQ r N h g O=>?_);have f:∀c o,c≠n+5->c≠n+4->c≠n->s.heap.get? c=some o->r.get? c=some o:=λc o X i q e=>g.extBut _ _ i (h.extBut _ _ q (d.extBut _ _ X e));have⟨o2,e2,r2⟩:=h2;have⟨o3,e3,r3⟩:=h3;have⟨p2,f2,g2⟩:=zB;have⟨p3,f3,g3⟩:=XG;refine aJ (slot (na rfl) O (DW ⟨o2,f _ _ (na rfl) (na rfl) (nc rfl) e2,r2⟩ ⟨p2,f _ _ (nl Z) (nl Z) (ea Z) f2,g2⟩ hy) λacR t P u j S=>?_);have l:∀c o,c≠n+4->c≠n+1->r.get? c=some o->t.get? c=some o:=λc o i q e=>j.extBut _ _ i (u.extBut _ _ q e);refine aJ (slot (na rfl) S (DW ⟨o3,l _ _ (na rfl) (na rfl) (f _ _ (na rfl) (na rfl) (nc rfl) e3),r3⟩ ⟨p3,l _ _ (nl M) (nl M) (f _ _ (nl M) (nl M) (ea M) f3),g3⟩ hw) λacS B T C m F=>ce ?_);have G:∀c o,c≠n+4->c≠n+2->t.get? c=some o->B.get? c=some o:=λc o i q e=>m.extBut _ _ i (C.extBut _ _ q e);have hsz:B.objs.size=s.heap.objs.size:=by rw[m.1,C.1,j.1,u.1,g.1,h.1,d.1]
 have p:=λc o i q c4 e=>G c o i c4 (l c o i q e);refine out F (p _ _ (na rfl) (na rfl) (na rfl) (g.extBut _ _ (na rfl) (h.extBut _ _ (nc rfl) L))) λU H I J W=>?_;rw[hsz]at H I J⊢
 have⟨q4,g4,j4⟩:=P;have⟨q6,g6,j6⟩:=T;refine⟨_,rfl,hQ U H (W _ _ (na rfl) F) (N.at λo e=>W _ o (nb rfl) (p _ _ (nb rfl) (nb rfl) (nb rfl) (g.extBut _ _ (nb rfl) e))) ⟨q4,W _ _ (na rfl) (G _ _ (na rfl) (na rfl) (j.extBut _ _ (na rfl) g4)),j4⟩ ⟨q6,W _ _ (na rfl) (m.extBut _ _ (na rfl) g6),j6⟩ I J λc o X i q c4 c5 e=>W c o X (p c o i c4 c5 (f c o X i q e))⟩
def XH(m:A.handled=none)(p:i<n)(q:kY s.heap (n+5) (n+3) (n+4) .none)(g:gF s.heap (n+3) (.ref n) (.ref (n+1)) (.ref (n+2)))(r:gF s.heap (n+4) a b c)(t:s.heap.IsListIter n i k)(h:s.heap.IsList i xs)(u:xs[k]?=none)(v:∀h' e,(∀c o,c≠n+5->c≠n->s.heap.get? c=some o->h'.get? c=some o)->(∃o,h'.get? e=some o/\o.cls=.type "StopIteration")->E (.ref e) {s with heap:=h'}):aH (aF prog w) A (Builtin.«zip.__next__» ⟨[.ref (n+5)],[]⟩) Q E s:=by obtain⟨pre,-,fin,-⟩:=zp n;refine pre q g λj f d=>?_;exact aJ (fin (nb rfl) f (wpAny_nextOf_list_end m (t.extBut d.extBut (nb rfl)) (h.extBut d.extBut (nl p)) u) λh' e k he=>v h' e (λc o l y x=>k c o l y (d.extBut _ _ l x)) he)
def XI(q:d<n)(r:e<n)(t:f<n)(m:kY s.heap (n+5) (n+3) (n+4) .none)(g:gF s.heap (n+3) (.ref n) (.ref (n+1)) (.ref (n+2)))(h:gF s.heap (n+4) a b c)(u:s.heap.IsListIter n d k)(v:gi s.heap (n+1) e k)(B:gi s.heap (n+2) f k)(i:s.heap.IsList d xs)(j:gV s.heap e C)(l:gV s.heap f G)(H:xs[k]?=some x)(I:C[k]?=some y)(J:G[k]?=some z)(L:∀h',kY h' (n+5) (n+3) (n+4) (gW s.heap.objs.size)->gF h' (n+4) x y z->h'.IsListIter n d (k+1)->gi h' (n+1) e (k+1)->gi h' (n+2) f (k+1)->gF h' s.heap.objs.size x y z->h'.objs.size=s.heap.objs.size+1->(∀c o,c≠n+5->c≠n+4->c≠n->c≠n+1->c≠n+2->s.heap.get? c=some o->h'.get? c=some o)->Q (some (.ref s.heap.objs.size)) {s with heap:=h'}):aH (aF prog w) A (uv (.ref (n+5))) Q E s:=by haveI p:s.TypeIs (.ref (n+5)) "zip":=⟨_,m,rfl⟩;exact aJ (Bi (xW p GY (xX GY p F.entry_zip_next (XD q r t m g h u v B i j l H I J λh' M N O P S T U W=>ce (L h' M N O P S T U W)) (acq _))))
def XJ(l:A.handled=none)(m:h<n)(i:kY s.heap (n+5) (n+3) (n+4) .none)(d:gF s.heap (n+3) (.ref n) (.ref (n+1)) (.ref (n+2)))(f:gF s.heap (n+4) a b c)(p:s.heap.IsListIter n h k)(g:s.heap.IsList h xs)(q:xs[k]?=none)(r:∀h',(∀c o,c≠n+5->c≠n->s.heap.get? c=some o->h'.get? c=some o)->Q none {s with heap:=h'}):aH (aF prog w) A (uv (.ref (n+5))) Q E s:=by have j:s.TypeIs (.ref (n+5)) "zip":=⟨_,i,rfl⟩;refine aJ (Bi (xW j GY (xX GY j F.entry_zip_next (XH l m i d f p g q λh' e t he=>?_) (acq _))));have⟨o,u,v⟩:=he;refine aJ (Rz ⟨o,u,v⟩ isSubtype_stop ?_);exact ce (r _ t)
end
@[reducible]def z1(h:aZ)(a:af):aZ:=h.push {cls:=.type "list_iterator",data:=.fields #[.ref a,.int 0 0]}
@[reducible]def z2(h:aZ)(a b:af):aZ:=(z1 h a).push {cls:=.type "tuple_iterator",data:=.fields #[.ref b,.int 0 0]}
@[reducible]def z3(h:aZ)(a b c:af):aZ:=(z2 h a b).push {cls:=.type "tuple_iterator",data:=.fields #[.ref c,.int 0 0]}
@[reducible]def z4(h:aZ)(a b c:af):aZ:=(z3 h a b c).push {cls:=.type "tuple",data:=.seq #[.ref h.objs.size,.ref (z1 h a).objs.size,.ref (z2 h a b).objs.size]}
@[reducible]def z5(h:aZ)(a b c:af):aZ:=(z4 h a b c).push {cls:=.type "tuple",data:=.seq #[.none,.none,.none]}
@[reducible]def z6(h:aZ)(a b c:af):aZ:=(z5 h a b c).push {cls:=.type "zip",data:=.fields #[.none,.bool false,.bool false,.ref (z3 h a b c).objs.size,.ref (z4 h a b c).objs.size]}
def XM(a b c:af)(xs o p:Array aj):uC (Builtin.«zip.__new__» ⟨[.type "zip",.ref a,.ref b,.ref c],[]⟩) (λ_ R s=>s.heap.IsList a xs/\gV s.heap b o/\gV s.heap c p/\R (.ok (.ret (.ref (z5 s.heap a b c).objs.size))) {s with heap:=z6 s.heap a b c}):=.of_wp λprog w A R s h=>by obtain⟨e,g,d,f,os⟩:=s;obtain⟨i,j,k,h⟩:=h;haveI q:=sub_zip;haveI l:Heap.IsList (GW ⟨e,g,d,f,os⟩) a xs:=i;haveI m:gV (GW ⟨e.push {cls:=.type "list_iterator",data:=.fields #[.ref a,.int 0 0]},g,d,f,os⟩) b o:=j.push _;haveI n:gV (GW ⟨(e.push {cls:=.type "list_iterator",data:=.fields #[.ref a,.int 0 0]}).push {cls:=.type "tuple_iterator",data:=.fields #[.ref b,.int 0 0]},g,d,f,os⟩) c p:=(k.push _).push _;wp_walk using QU l,Bo m,Bo n;exact⟨_,rfl,h⟩
def XN(a b c:aj):RB "zip" ⟨[a,b,c],[]⟩=pure ():=by kernel_rfl
def XO(a b c:aj):RC "zip.__new__" ⟨[.type "zip",a,b,c],[]⟩=pure ():=by kernel_rfl
def XQ(a b c d:aj):argsOk "object.__init__" ⟨[a,b,c,d],[]⟩:=by kernel_rfl
section
variable{prog:bA}{w:bB}{A:cG}{E:aj->ar->Prop}{s:ar}
def XR(e:s.heap.IsList a xs)(f:gV s.heap b u)(g:gV s.heap d v)(h:∀h',kY h' (s.heap.objs.size+5) (s.heap.objs.size+3) (s.heap.objs.size+4) .none->gF h' (s.heap.objs.size+3) (.ref s.heap.objs.size) (.ref (s.heap.objs.size+1)) (.ref (s.heap.objs.size+2))->gF h' (s.heap.objs.size+4) .none .none .none->h'.IsListIter s.heap.objs.size a 0->gi h' (s.heap.objs.size+1) b 0->gi h' (s.heap.objs.size+2) d 0->(∀c o,s.heap.get? c=some o->h'.get? c=some o)->Q (.ref (s.heap.objs.size+5)) {s with heap:=h'}):aH (aF prog w) A (call (.type "zip") [.ref a,.ref b,.ref d]) Q E s:=by
 refine callType_new F.called_zip (by decide) (XN _ _ _) (XO _ _ _) (λobj=>XQ obj _ _ _) F.entry_zip_new (XM a b d xs u v) ⟨e,f,g,?_⟩;haveI i:(z1 s.heap a).objs.size=s.heap.objs.size+1:=gX ..
 haveI j:(z2 s.heap a b).objs.size=s.heap.objs.size+2:=by rw[gX,i]
 haveI k:(z3 s.heap a b d).objs.size=s.heap.objs.size+3:=by rw[gX,j]
 haveI l:(z4 s.heap a b d).objs.size=s.heap.objs.size+4:=by rw[gX,k]
 haveI n:(z5 s.heap a b d).objs.size=s.heap.objs.size+5:=by rw[gX,l]
 haveI m:(z6 s.heap a b d).get? (z5 s.heap a b d).objs.size=some _:=dL _ rfl;haveI p:(z6 s.heap a b d).get? (z4 s.heap a b d).objs.size=some _:=bL _ (dL _ rfl);haveI q:(z6 s.heap a b d).get? (z3 s.heap a b d).objs.size=some _:=bL _ (bL _ (dL _ rfl));haveI r:(z6 s.heap a b d).get? (z2 s.heap a b).objs.size=some _:=bL _ (bL _ (bL _ (dL _ rfl)));haveI t:(z6 s.heap a b d).get? (z1 s.heap a).objs.size=some _:=bL _ (bL _ (bL _ (bL _ (dL _ rfl))));haveI y:(z6 s.heap a b d).get? s.heap.objs.size=some _:=bL _ (bL _ (bL _ (bL _ (bL _ (dL _ rfl)))));rw[k,l,n]at m;rw[i,j,k]at q;rw[l]at p;rw[j]at r;rw[i]at t;rw[n];exact⟨⟨_,m,rfl⟩,h _ m q p ⟨_,y,rfl,rfl⟩ ⟨_,t,rfl,rfl⟩ ⟨_,r,rfl,rfl⟩ λc o x=>bL _ (bL _ (bL _ (bL _ (bL _ (bL _ x)))))⟩
end
end TT
end PySem
end
namespace L2
open PySem PySem.Spec PyProof.Rows
def D1{P:Nat->Prop}(g:P a)(i:P b)(j:P c)(k:P d)(l:P e)(m:P f)(h:q∈[a,b,c,d,e,f]):P q:=by simp only[ff,GX,or_false]at h;rcases h with h|h|h|h|h|h<;>rw[h]<;>assumption
def Lz{P:Nat->Prop}{R:Prop}(h:∀x∈[a,b,c,d,e,f],P x)(k:P a->P b->P c->P d->P e->P f->R):R:=k (h _ (by simp)) (h _ (by simp)) (h _ (by simp)) (h _ (by simp)) (h _ (by simp)) (h _ (by simp))
def LA{a b c d e f q:Nat}{R:Prop}(h:q∉[a,b,c,d,e,f])(k:q≠a->q≠b->q≠c->q≠d->q≠e->q≠f->R):R:=Lz (P:=λx=>q≠x) (λx m e=>h (e▸m)) k
inductive LB(K:br)(a b c:af)(i:Nat)(H:Hp):Prop|mk(xs ys zs:List V)(x y z:V):dG K H a xs->cS K H b ys->cS K H c zs->xs[i]?=some x->ys[i]?=some y->zs[i]?=some z->LB K a b c i H
inductive LC(K:br)(a b c:af)(i:Nat)(H:Hp)(v:V)(H':Hp):Prop|mk(T:af)(x y z:V):v=.ref T->H T=none->H'=upd H T (.tup [x,y,z])->(∀xs,dG K H a xs->xs[i]?=some x)->(∀ys,cS K H b ys->ys[i]?=some y)->(∀zs,cS K H c zs->zs[i]?=some z)->LC K a b c i H v H'
abbrev D2(K:br)(a b c:af):It:=⟨LB K a b c,LC K a b c,λi H=>∃xs:List V,dG K H a xs/\xs.length<=i⟩
inductive Z3(n a b c i:Nat)(h:aZ):Prop|mk(x y z:aj):kY h (n+5) (n+3) (n+4) .none->PySem.TT.gF h (n+3) (.ref n) (.ref (n+1)) (.ref (n+2))->PySem.TT.gF h (n+4) x y z->h.IsListIter n a i->gi h (n+1) b i->gi h (n+2) c i->Z3 n a b c i h
abbrev LD(n:Nat):List af:=[n+5,n+3,n+4,n,n+1,n+2]
def XS{K:br}(d1:a<n)(d2:b<n)(d3:c<n):Turn P w K (.Tuple elts kk oA) (D2 K a b c) (LD n) (n+5) (Z3 n a b c)where
 mem:=.head _;obj:=λi h st q hq=>by have⟨x,y,z,f,d,e,⟨o1,e1,_,g1⟩,⟨M,N,_,g2⟩,⟨O,S,_,g3⟩⟩:=st;exact D1 (P:=λq=>∃o,h.get? q=some o/\∀v,o.data≠.cell v) ⟨_,f,λv q=>nomatch q⟩ ⟨_,d,λv q=>nomatch q⟩ ⟨_,e,λv q=>nomatch q⟩ ⟨o1,e1,λv q=>by rw[g1]at q;cases q⟩ ⟨M,N,λv q=>by rw[g2]at q;cases q⟩ ⟨O,S,λv q=>by rw[g3]at q;cases q⟩ hq
 keep:=λi h h' st k=>by have⟨x,y,z,f,d,e,m,⟨M,N,r2⟩,⟨O,S,r3⟩⟩:=st;exact Lz k λk5 k3 k4 k0 k1 k2=>⟨x,y,z,k5 _ f,k3 _ d,k4 _ e,m.at k0,⟨M,k1 _ N,r2⟩,⟨O,k2 _ S,r3⟩⟩
 item:=by intro X T U Y hc i pins s σ H E I hf st Z;subst T U Y;have⟨_,_,_,f,d,e,m,h2,h3⟩:=st;have⟨xs,ys,zs,x,y,z,g,r,t,hx,hy,B⟩:=Z;have⟨its,rv,p,_⟩:=I.list g;have⟨XT,D3,p2,_⟩:=I.tuple r;have⟨acT,zC,p3,_⟩:=I.tuple t;have⟨u,hu,ru⟩:=rv.get hx;have⟨u2,XU,XV⟩:=D3.get hy;have⟨u3,XW,XX⟩:=zC.get B;haveI C:=cu f;refine PySem.TT.XI d1 d2 d3 f d e m h2 h3 p.isList p2 p3 (by simpa using hu) (by simpa using XU) (by simpa using XW) λh' z' XY XZ vK X0 hT hsz J=>?_;refine⟨_,rfl,wpAny_letOwnedTupleGo_zip z' λng X2 j=>?_⟩;haveI X4:=(j.2 _ (lT C)).trans hT;haveI new:da X.prog X.w (upd H s.heap.objs.size (.tup [x,y,z])) ng s.heap.objs.size (.tup [x,y,z]):=⟨by show 3<=bj;decide,[u,u2,u3],.cons ru (.cons XV (.cons XX .nil)),⟨_,X4,rfl,_,rfl⟩⟩;haveI W:Inv X pins σ (upd H _ (.tup [x,y,z])) {s with heap:=ng}:=I.yW (λc o hb q=>LA hb λL c3 c4 c0 c1 c2=>(j.2 c L).trans (J c o L c4 c0 c1 c2 q)) hf (bR _) new;refine⟨.ref _,_,W,rfl,⟨_,x,y,z,rfl,I.a9.fresh (bR _),rfl,λl F=>by rw[I.Cj F g];exact hx,λl F=>by rw[I.yp F r];exact hy,λl F=>by rw[I.yp F t];exact B⟩,⟨u,u2,u3,X2,(j.2 _ (PySem.TT.na rfl)).trans (J _ _ (PySem.TT.na rfl) (PySem.TT.na rfl) (PySem.TT.nc rfl) (PySem.TT.na rfl) (PySem.TT.na rfl) d),(j.2 _ (PySem.TT.na rfl)).trans XY,XZ.at λo q=>(j.2 _ (PySem.TT.nb rfl)).trans q,vK.extBut j.extBut (PySem.TT.na rfl),X0.extBut j.extBut (PySem.TT.na rfl)⟩,λc G=>?_⟩;haveI f6:=D1 (P:=λc=>c<=n+5) (bR _) (Bg (by decide) _) (Bg (by decide) _) (uD _ _) (Bg (by decide) _) (Bg (by decide) _) G;rw[aD (ea (Rf f6 C))];exact(hf c G).1
 done:=by intro X T U Y hc i pins s σ H E I hf st Z;subst T U Y;have⟨_,_,_,f,d,e,m,h2,h3⟩:=st;have⟨xs,g,acU⟩:=Z;have⟨its,rv,p,_⟩:=I.list g;haveI l1:=rv.length;exact PySem.TT.XJ (I.ok.hd hc) d1 f d e m p.isList (by simp;lia) λh' J=>⟨rfl,I.U2 (λc o hb q=>LA hb λL _ _ c0 _ _=>J c o L c0 q) hf⟩
 self:=λA i s Q E st h=>by obtain⟨_,_,_,f⟩:=st;exact wpAny_pyIter_zip f h
inductive LF(K:br)(R:It->Hp->Prop)(vs:List V)(H1:Hp):Prop|mk:∀a b c xs ys zs,vs=[.ref a,.ref b,.ref c]->dG K H1 a xs->cS K H1 b ys->cS K H1 c zs->R (D2 K a b c) H1->LF K R vs H1
abbrev X5(K:br)(a:TA):TI:=λσ H R=>a σ H (LF K R)
def X8{X:Cx}{e i j:bp}{z:TA}{p f k:cj}{l:List bp}{kk:Nat}(L:Gl X "zip")(M:X.mg "zip"=none)(N:PA X [e,i,j] z)(O: ~~~(aB [e,i,j] X.env=(false,aP e X.env)::aB [i,j] X.env)) (hpl: ~~~((bF f (aB [i,j] X.env)).any (·.1)=false)):PI X (.Tuple l kk k) (.Call (.Name "zip" p) [e,i,j] [] f) (X5 X.K z):=by intro pins s σ H R I h;refine Call_ (k9 I L M Vb (uw (ba (N f pins s σ H _ I h) λus d z1=>?_) O hpl));obtain⟨vs,A,g,Q,S⟩:=z1;obtain⟨a,b,c,xs,ys,zs,ex,o,t,u,q⟩:=S;subst ex;cases Q with|cons r m=>cases m with|cons T m=>cases m with|cons v m=>cases m;subst r;subst T;subst v;obtain⟨its,rv,B,_⟩:=g.list o;obtain⟨C,U,E,_⟩:=g.tuple t;obtain⟨F,W,G,_⟩:=g.tuple u;have Y:a<d.heap.objs.size:=B.lt;have Z:b<d.heap.objs.size:=E.lt;have lc:c<d.heap.objs.size:=G.lt;refine PySem.TT.XR B.isList E G λh' J w x h1 h2 h3 hk=>wpAny_pyIter_zip J ?_;haveI I2:Inv X pins σ A {d with heap:=h'}:=g.kept (t':=d.toks) hk;refine⟨d.heap.objs.size+5,LD d.heap.objs.size,_,_,A,rfl,I2,XS Y Z lc,⟨_,_,_,J,w,x,h1,h2,h3⟩,λc y=>?_,q⟩;have n:d.heap.objs.size<=c:=D1 (P:=λc=>d.heap.objs.size<=c) (uD _ _) (uD _ _) (uD _ _) (bR _) (uD _ _) (uD _ _) y;exact g.mY n (g.a9.fresh n)
end L2
section
namespace PySem
open Sem(wp)
open PyProof.Rows
namespace TT
def X9:xP (.type "list_reverseiterator") "__len__"=pure none:=by kernel_rfl
def Ya:xP (.type "list_reverseiterator") "__length_hint__"=pure (some (.builtin "list_reverseiterator.__length_hint__")):=by kernel_rfl
section
variable{prog:bA}{w:bB}{A:cG}{E:aj->ar->Prop}{s:ar}
def Yb{R:Result->ar->Prop}(z:A.handled=none)(h:s.heap.IsRevIter I l ((a.size:Int)-1))(B:s.heap.IsList l a)(q:l≠I)(hlen:a.size<=bj)(S:af)(res:aj)(j:Nat)(C:s.heap.get? S=some {cls:=.type "list",data:=.seq #[] j}) (r:S≠I) (G:S≠l) (H:∀h' tk c c',(∀b o,b≠S->b≠I->s.heap.get? b=some o->h'.get? b=some o)->h'.get? S=some {cls:=.type "list",dict:=none,data:=.seq c c',slots:=#[]}->uE (λi v=>a[a.size-1-i]?=some v) c a.size->R (.ok (.ret res)) {s with heap:=h',toks:=tk}):aH (aF prog w) A.in1 (acr (.ref S) (.ref I) res) (λfin d=>match fin with|.done f=>R (.ok f) d|.again c'=>c'.quiet=true/\nX (aF prog w) A c' R d) (λe d=>R (.error e) d) s:=by
 haveI W:=(Walks.listRev (prog:=prog) (w:=w) (A:=A.in1) z I l q a).toS;haveI t:S∉[I,l]:=λu=>by simp_all
 haveI k:(0<=a.size/\s.heap.IsRevIter I l ((a.size:Int)-1-((0:Nat):Int))/\s.heap.IsList l a):=⟨fK _,by simpa using h,B⟩;delta acr;haveI J:acs (.ref S) (.ref I)=false:=by simp[acs,r]
 refine aJ (RF (T:="list_reverseiterator") h.typeIs ?_);rw[ay (by rw[J];decide)];refine aJ (W.self 0 _ _ _ k ?_);refine aJ (rL ?_);delta Builtin.List.listLengthHint;refine aJ (Re h.typeIs X9 ?_);refine aJ (Re h.typeIs Ya ?_);(generalize g:("list_reverseiterator.__length_hint__":String)=m;(fail_if_success(clear g m));wp_delta;rw[show splitId m=some ("list_reverseiterator","__length_hint__") from by subst g;rfl];subst g);refine aJ (Rz (b:=true) h.typeIs (by rw[isSubtype_type];kernel_rfl) ?_);refine ce ?_;rw[ay (by decide)];refine ce ⟨GQ F.plain_extend_loop _,codeAny_extend_loopS W hlen _ t _ a.size 0 _ _ _ rfl (fK _) k C (ItemsOf.nil _) λd c c' u x n=>?_⟩;rw[Moved.eq_with u];refine H d.heap d.toks c c' (λb o M L e=>u.heap b o (λy=>?_) e) x n;simp_all
def Yc{R:Result->ar->Prop}{I l:af}{a:Array aj}(r:A.handled=none)(t:s.heap.IsRevIter I l ((a.size:Int)-1))(u:s.heap.IsList l a)(m:l≠I)(hlen:a.size<=bj)(S:af)(n:s.heap.get? S=some {cls:=.type "list",data:=.seq #[]}) (g:S≠I) (h:S≠l) (z:∀h' tk c c',(∀b o,b≠S->b≠I->s.heap.get? b=some o->h'.get? b=some o)->h'.get? S=some {cls:=.type "list",dict:=none,data:=.seq c c',slots:=#[]}->uE (λi v=>a[a.size-1-i]?=some v) c a.size->R (.ok (.ret .none)) {s with heap:=h',toks:=tk}):aH (aF prog w) A.in1 (Builtin.«list.__init__» ⟨[.ref S,.ref I],[]⟩) (λfin k=>match fin with|.done f=>R (.ok f) k|.again c'=>c'.quiet=true/\nX (aF prog w) A c' R k) (λe k=>R (.error e) k) s:=by refine aJ ?_;delta act;refine aJ (xY n rfl (ce ?_));refine aJ (wpAny_updateSeq n rfl ?_);have d:=Gy (jo (λ_=>(#[]:Array aj))) n rfl;have j:∀b o,b≠S->s.heap.get? b=some o->(s.heap.update S (jo (λ_=>(#[]:Array aj)))).get? b=some o:=λb o x e=>(Q4 _ _ (bK x)).trans e;refine aJ (GO ?_);refine Yb r (t.at λo e=>j _ o (bK g) e) (u.at λo e=>j _ o (bK h) e) m hlen S .none _ d g h λh' tk c c' B y q=>?_;grind
def Yd(u:A.handled=none)(q:s.heap.IsRevIter I l ((a.size:Int)-1))(r:s.heap.IsList l a)(h:l≠I)(hlen:a.size<=bj)(x:∀h' tk c c',(∀b o,b≠I->s.heap.get? b=some o->h'.get? b=some o)->h'.get? s.heap.objs.size=some {cls:=.type "list",dict:=none,data:=.seq c c',slots:=#[]}->uE (λi v=>a[a.size-1-i]?=some v) c a.size->Q (.ref s.heap.objs.size) {s with heap:=h',toks:=tk}):aH (aF prog w) A (call (.type "list") [.ref I]) Q E s:=by
 haveI j:I<s.heap.objs.size:=by obtain⟨o,k,_⟩:=q;exact cu k
 haveI m:l<s.heap.objs.size:=by obtain⟨o,k,_⟩:=r;exact cu k
 refine callType_codes (Q₁:=λobj d=>obj=.ref s.heap.objs.size/\d={s with heap:=s.heap.push _}) F.called_list (F.typeCall_list_1 _) F.entry_list_init (code_list_new _ ⟨rfl,rfl⟩) λobj d f=>?_;obtain⟨rfl,rfl⟩:=f;have t:(s.heap.push _).get? s.heap.objs.size=some {cls:=.type "list",data:=.seq #[]}:=dL _ rfl;refine⟨⟨_,t,rfl⟩,F.args_list_init_2 _ _,Yc (A:=A.in1) u (q.at λo e=>bL _ e) (r.at λo e=>bL _ e) h hlen _ t (lT j) (lT m) λh' tk c c' y n g=>?_⟩;exact⟨rfl,x h' tk c c' (λb o z e=>y b o (ea (cu e)) z (bL _ e)) n g⟩
end
end TT
end PySem
namespace L2
open PySem PySem.Spec PyProof.Rows
section
variable{X:Cx}{e:bp}{p pos p2 mw:cj}{ta:TA}
inductive LG(K:br)(Q:VK)(vs:List V)(H1:Hp):Prop|mk:∀a xs,vs=[.ref a]->dG K H1 a xs->(∀l,H1 l=none->Q (.ref l) (upd H1 l (.lst xs.reverse)))->LG K Q vs H1
abbrev LH(K:br)(ta:TA):TE:=λσ H Q=>ta σ H (LG K Q)
def Ye{its acc:Array aj}{xs:List V}(c:Vals xs its.toList)(h:uE (λi v=>its[its.size-1-i]?=some v) acc its.size):Vals xs.reverse acc.toList:=by
 haveI e:acc.toList=its.toList.reverse:=by
  apply Rg;intro i;rw[Bl];by_cases a:i<its.size;·haveI b:acc[i]?=some (acc[i]'(by rw[h.1];exact a)):=Array.getElem?_eq_getElem (by rw[h.1];exact a);haveI d:=h.2 i _ b;rw[b,List.getElem?_reverse (by simpa using a),acu,Bl];exact d.symm
  ·rw[Array.getElem?_eq_none (by rw[h.1];lia),xt (by simp;lia)]
 rw[e];exact c.reverse
def Yf(x:X.calm=true)(y:Gl X "list")(B:X.mg "list"=none)(j:Gl X "reversed")(k:X.mg "reversed"=none)(C:PA X [e] ta)(F: ~~~(aB [.Call (.Name "reversed" p2) [e] [] mw] X.env=(false,aP (.Call (.Name "reversed" p2) [e] [] mw) X.env)::aB [] X.env)) (hpl: ~~~((bF pos (aB [] X.env)).any (·.1)=false)) (l: ~~~(aB [e] X.env=(false,aP e X.env)::aB [] X.env)) (d: ~~~((bF mw (aB [] X.env)).any (·.1)=false)):PE X (.Call (.Name "list" p) [.Call (.Name "reversed" p2) [e] [] mw] [] pos) (LH X.K ta):=by intro pins s σ H Q I h;refine lV (k9 I y B ab3 (uw ?_ F hpl));refine QZ (lV (k9 I j k U1 (uw (ba (C mw pins s σ H _ I h) λus c z1=>?_) l d)));obtain⟨vs,t,f,G,J⟩:=z1;obtain⟨a,xs,rfl,L,q⟩:=J;obtain⟨u,rfl,M⟩:=vals1 G;subst M;obtain⟨its,N,m,Z⟩:=f.list L;haveI hl:=N.length;refine call_reversed_list m.isList (ce ?_);haveI v:Inv X pins σ t {c with heap:=c.heap.push (revObj a (its.toArray.size-1))}:=f.kept λb o e=>bL _ e;haveI g:(c.heap.push _).get? c.heap.objs.size=some (revObj a (its.toArray.size-1)):=dL _ rfl;haveI O:=f.mY (bR _) (f.a9.fresh (bR _));haveI P:=m.lt;refine PySem.TT.Yd (f.ok.hd x) ⟨_,g,rfl,rfl⟩ (m.isList.push _) (ea P) (by simp_all) λS T acc c' U hS i=>?_;haveI W:=Ye (by omega) i;haveI n:da X.prog X.w (upd t (c.heap.push (revObj a (its.toArray.size-1))).objs.size (.lst xs.reverse)) S _ (.lst xs.reverse):=⟨by simp_all,acc.toList,c',W,by omega⟩;haveI Y:=v.yW (t':=T) (ch:=[c.heap.objs.size]) (λb o r e=>U b o (λz=>r (by simp[z])) e) (λb r=>(show b=c.heap.objs.size by simpa using r)▸O) (bR _) n;exact⟨.ref _,_,Y,rfl,q _ (v.a9.fresh (bR _))⟩
end
end L2
end
namespace L2
open PySem PySem.Spec PyProof.Rows
open PySem.W(kla_fn kla_obj kla_eval kla_makeFunction kla_makeFunctionHit kla_callFunE kla_codeExpr CodeHd tabObj)
abbrev mx(c:af)(qual:ag):HO:=.ext λh=>h.CodeRec (.ref c) qual
abbrev qr(f:af)(qual:ag)(params:rn)(body:bp)(scope:fe)(iK:List (ag×af))(c:af):HO:=.ext λh=>∃o b a,h.get? f=some o/\o.data=.func (kla_fn "<lambda>" qual params body scope iK b (.ref c) a)
def Yg(x:h.CodeRec (.ref c) qual):da P w H h c (mx c qual):=by obtain⟨c',o,vs,t,e,g,r⟩:=id x;cases e;refine⟨x,⟨o,g⟩,λa b z1 k=>?_⟩;obtain⟨c',o,vs,t,e,g,r⟩:=z1;cases e;exact⟨_,o,vs,t,rfl,k o g,r⟩
def LI(x:h.get? f=some {cls:=.type "function",data:=.func (kla_fn "<lambda>" qual params body scope iK b (.ref c) a)}):da P w H h f (qr f qual params body scope iK c):=⟨⟨_,b,a,x,rfl⟩,⟨_,x⟩,λg i ⟨o,b,a,e,d⟩ k=>⟨o,b,a,k o e,d⟩⟩
abbrev D4(T:af)(pos:cj)(qual:ag)(params:rn)(body:bp)(scope:fe)(iK:List (ag×af)):TE:=λσ H Q=>∃ps,H T=some (.fj ps)/\TriplesOk ps.toList/\((Bp pos ps.toList=none/\∀c f,H c=none->H f=none->c≠f->Q (.ref f) (upd (upd (upd H T (.fj (ps++#[gW pos.line,gW pos.col,.ref c]))) c (mx c qual)) f (qr f qual params body scope iK c)))\/∃c,Bp pos ps.toList=some (.ref c)/\H c=some (mx c qual)/\∀f,H f=none->Q (.ref f) (upd H f (qr f qual params body scope iK c)))
section
variable{X:Cx}{pins:List (af×bu)}{σ:L2.St}{H:Hp}{s:ar}
def Inv.grown(I:Inv X pins σ H s)(h:H T=some (.fj ps))(k:∀b o,b≠T->s.heap.get? b=some o->h'.get? b=some o)(e:h'.get? T=some (tabObj (ps++a))):Inv X pins σ (upd H T (.fj (ps++a))) {s with heap:=h',toks:=t'}:=by
 have g:∀b,H b=none->b≠T:=λb n z=>by lia
 have f:∀b o,H b=some o->(∀q,o≠.fj q)->b≠T:=λb o e n z=>by grind
 refine I.un ⟨λb o q n _ _=>k b o (g b n) q,λb o q n _ _=>⟨o.slots,k b o (g b n) q⟩,λb o q n _=>by rw[aD (g b n)];exact n,λb o q _=>?_,λb xs q=>by rw[aD (f b _ q (λ_ z=>nomatch z))];exact q,λb o u q=>by rw[aD (f b _ q (λ_ z=>nomatch z))];exact q,λb i q=>?_⟩ λb u q=>?_;·grind
 ·by_cases d:b=T;·cases d;rw[h]at q;cases q;exact⟨a,aW⟩
  ·exact⟨#[],by rw[aD d,q];rfl⟩
 ·by_cases d:b=T;·cases d;rw[aW]at q;cases q;exact e
  ·rw[aD d]at q;refine(I.a9 b u q).k7 (λc v j z=>k c v ?_ z) (λc z=>by rw[aD (f c _ z (λ_ z=>nomatch z))];exact z) λc xs z=>by rw[aD (f c _ z (λ_ z=>nomatch z))];exact z
   lia
end
section
variable{X:Cx}{params:rn}{body:bp}{scope:fe}{pos:cj}{c T:af}{iK:List (ag×af)}{qual:ag}
def Yh(a:X.env.code=.ref c)(y:CodeHd X.base c T)(g:closureFor scope X.env=pure iK)(i:defaultsOf params X.env=([],[]))(J:X.env.qual++"<lambda>"=qual)(l:iB≠T)(m:∃bm o,X.mg "__builtins__"=some (.ref bm)/\bm≠rH/\bm≠iB/\bm≠T/\X.base.get? bm=some o/\o.cls=.type "module"/\o.dict=some rH/\o.data=.plain):PE X (.Lambda params body scope pos) (D4 T pos qual params body scope iK):=by
 intro pins s σ H Q I h;obtain⟨ps,B,C,h⟩:=h;obtain⟨bm,L,b1,b2,b3,b4,b5,b6,b7,b8⟩:=m;have F:=I.a9 T _ B;have j:s.heap.BuiltinsAt X.mg T:=⟨bm,L,b1,b2,b3,b4,I.bk _ _ b5,b6,b7,b8⟩;refine kla_eval i ?_;rw[J];rcases h with⟨n,h⟩|⟨c',n,M,h⟩
 ·refine kla_makeFunction g I.ok.glob (I.ok.mod.glob.keeps I.bk) a (y.keeps I.bk) F C n l j λc' q h' tk N d k f r=>?_;haveI u:=I.grown (t':=tk) B (λb o m e=>N b o m e) r;obtain⟨G,oc,vs,t,O,g0,r0⟩:=id f;cases O;haveI nc:=I.a9.fresh d;have P:c'≠T:=λz=>by lia
  haveI S:upd H T (.fj (ps++#[gW pos.line,gW pos.col,.ref c'])) c'=none:=by rw[aD P];exact nc
  haveI U:Inv X pins σ (upd (upd H T (.fj (ps++#[gW pos.line,gW pos.col,.ref c']))) c' (mx c' qual)) {s with heap:=h',toks:=tk}:=by
   refine u.K6 S (gI I.sz d) (lT (gf I.lt d)) (λx G e z=>?_) (λp W z=>?_) (Yg f);·obtain⟨v,o,Y,_⟩:=I.cell x G e;exact bw (gf (cu Y) (by simp_all)) (mL _)
   ·exact bw (gf (cu (I.pin p W).1) (by simp_all)) (mL _)
  haveI Z:=I.a9.fresh (Go (Rf d k));refine⟨.ref h'.objs.size,_,U.laid (λb o e=>bL _ e) (bR _) (LI (dL _ rfl)),rfl,h c' _ nc Z (ea k)⟩
 ·refine kla_makeFunctionHit g I.ok.glob (I.ok.mod.glob.keeps I.bk) a (y.keeps I.bk) F C n j λq h' tk hk hsz=>?_;haveI u:Inv X pins σ H {s with heap:=h',toks:=tk}:=I.kept hk;exact⟨.ref h'.objs.size,_,u.laid (λb o e=>bL _ e) (bR _) (LI (dL _ rfl)),rfl,h _ (I.a9.fresh hsz)⟩
end
section
variable{prog:bA}{w:bB}{A:cG}{E:aj->ar->Prop}{s:ar}
def Yi{i:Nat}{kv:aj}{Q:aj->ar->Prop}(g:A.depth<Qs)(l:s.heap.NoLimit)(P:s.heap.get? f=some o)(S:o.data=.func (kla_fn "<lambda>" qual params (.Subscript (.Name y U) (.Name x W) Y) scope iK Z (.ref c) q))(r:s.heap.CodeRec (.ref c) qual)(u:scope.kind=.function)(B:scope.isCoroutine=false)(m:scope.isGenerator=false)(j:∀z∈scope.names,z.2≠.cell)(hx:scope.names.lookup x=some .local)(hy:scope.names.lookup y=some .free)(k:∀v,Ba (kla_fn "<lambda>" qual params (.Subscript (.Name y U) (.Name x W) Y) scope iK Z (.ref c) q) ⟨[v],[]⟩=pure [(x,v)])(C:iK.lookup y=some cc)(F:s.heap.IsCell cc (some (.ref a)))(hl:s.heap.IsList a its)(hi:its[i]?=some kv)(hsz:its.size<2^63)(G:(x==("__debug__":ag))=false)(I:(y==("__debug__":ag))=false)(J:(y==("__classdict__":ag))=false)(h:∀h' tk,(∀b o,s.heap.get? b=some o->h'.get? b=some o)->Q kv {s with heap:=h',toks:=tk}):aH (aF prog w) A (call (.ref f) [.int i t]) Q E s:=by refine xO (kla_callFunE g P S B m rfl r ?_);rw[k];refine ce (wpAny_newFunctionEnv j (λz hz=>by simp_all) (λn L p=>⟨l.fresh _ p,?_⟩) u);haveI d:=λb o e=>p.extBut b o (ea (cu e)) (bL _ e);refine kla_codeExpr ?_;obtain⟨oc,M,N⟩:=F;refine Gv (A5 (abI u (show _=_ from hy) C ⟨oc,d _ _ M,N⟩ ?_ J) I);refine A5 (QR (v:=.int i t) u (show _=_ from hx) L (by simp) ?_) G;haveI O:=hl.at λo e=>d _ o e;exact item_listR O (Int.natCast_nonneg i) (by grind) (by simp_all) (h n _ d) (by rfl)
end
end L2
section
namespace gC
open PySem PyProof.Rows
section
variable{prog:bA}{w:bB}{A:cG}{E:aj->ar->Prop}{s:ar}
def D5{b a:Type}{f:b->d4 a}{g:b->a}:∀(l:List b){Q:List a->ar->Prop},(∀x∈l,∀c:a->ar->Prop,c (g x) s->aH (aF prog w) A (f x) c E s)->Q (l.map g) s->aH (aF prog w) A (l.mapM f) Q E s|[],Q,_,h=>by rw[List.mapM_nil];exact ce h|x::l,Q,hf,h=>by rw[List.mapM_cons];refine aJ (hf x (by simp) _ (aJ (D5 l (λy d=>hf y (jk _ d)) (ce h))))
def acV(v:aj):firstOfTuple' v=(do
    if(<-typeOf v)!=.type "tuple"then return none
    return(<-act v)[0]?):=rfl
def Yj{ks:List aj}(h:∀v∈ks,s.TypeIs v "list")(c:0<ks.length){Q:SortKind->ar->Prop}(d:Q kX s):aH (aF prog w) A (keyKind' ks.toArray) Q E s:=by
 rw[keyKind'_eq,acv];refine aJ ?_;refine aJ (D5 (g:=λ_=>none) ks (λv e f b=>?_) (ce ?_));·refine aJ (RF (h v e) ?_);exact ce b
 ·obtain⟨v,r,rfl⟩:∃v r,ks=v::r:=by cases ks with|nil=>simp at c|cons v r=>grind
  rw[ay (by simp),oneTypeOnly'_eq,acv];refine aJ (aJ ?_);refine aJ (D5 (v::r) (λu i f b=>RF (h u i) b) (ce ?_));haveI j:(Rt (λ_=>rF "list") (v::r)).toArray[0]?=some (rF "list"):=by rfl
  haveI a:((Rt (λ_=>rF "list") (v::r)).toArray.all λx=>x==rF "list")=true:=by rw[List.all_toArray,Q7,ji];intro _ _;rfl
  rw[j];dsimp only;rw[a];exact ce (ce d)
def Yk{n:Nat}(l:A.handled=none)(m:IsRange s.heap r a b c t u v)(g:Bf a b c=true)(p:rM a b c=n)(hlen:n<=2^24)(q:∀h' tk acc,(∀b o,s.heap.get? b=some o->h'.get? b=some o)->uE (λi v=>∃t,v=.int (a+i*c) t) acc n->Q acc.toList {s with heap:=h',toks:=tk}):aH (aF prog w) A (collect (.ref r)) Q E s:=by
 have key:∀R:Result->ar->Prop,(∀h' tk d c',(∀b o,b≠s.heap.objs.size->(s.heap.push {cls:=.type "list",data:=.seq ([]).toArray}).get? b=some o->h'.get? b=some o)->h'.get? s.heap.objs.size=some {cls:=.type "list",dict:=none,data:=.seq d c',slots:=#[]}->uE (λi v=>∃t,v=.int (a+i*c) t) d n->R (.ok (.ret (.ref s.heap.objs.size))) {s with heap:=h',toks:=tk})->nX (aF prog w) A (.builtin "proto.collect" ⟨[.ref r],[]⟩) R s:=by intro R x;refine Bm F.entry_proto_collect ?_;refine aJ (Rb ?_);refine ce ⟨GQ acw _,Bm F.entry_list_iadd ?_⟩;rw[ach acw _];have h:(s.heap.push _).get? s.heap.objs.size=some {cls:=.type "list",data:=.seq ([]).toArray}:=dL _ rfl;exact wpAny_extend_range (s:={s with heap:=s.heap.push _}) l (bL _ m) g p hlen s.heap.objs.size _ 0 h λh' tk d c' k j f=>x h' tk d c' k j f
 refine aJ (wpAny_runValue (key _ λh' tk d c' k j f=>?_));refine aJ (wpAny_load j ?_);exact ce (q h' tk d (λb o e=>k b o (ea (cu e)) (bL _ e)) f)
end
end gC
namespace L2
open PySem PySem.Spec PyProof.Rows
section
variable{X:Cx}
def Yl:l9 X (.type "range") (λxs H Q=>∃n,xs=[.int n]/\∀r,H r=none->Q (.ref r) (upd H r (.ik 0 n))):=by intro pins s σ H vs us Q I r h;obtain⟨n,rfl,q⟩:=h;obtain⟨u,rfl,t,rfl⟩:=vals1 r;refine call_range_1 ⟨.ref _,_,I.laid (λb o e=>bL _ e) (bR _) ?_,rfl,q _ (I.a9.fresh (bR _))⟩;exact⟨_,_,_,dL _ rfl⟩
open gC(sortI kJ sortI_perm zw)
abbrev Ym(i:Nat)(T:af)(l:cj)(qual:ag)(d:rn)(e:bp)(scope:fe)(g:List (ag×af))(o:TE):TE:=λσ H Q=>o σ H λv m=>∃(r:af) (n:Nat),v=.ref r/\m r=some (.ik 0 n)/\n<=2^24/\D4 T l qual d e scope g σ m λfv h=>∃(f c a:af) (bs:List af) (k:List (List Int)) (rk:Nat->Int),fv=.ref f/\h f=some (qr f qual d e scope g c)/\h c=some (mx c qual)/\h r=some (.ik 0 n)/\σ[i]?=some (some (.ref a))/\Rd h a (.lst (bs.map V.ref))/\bs.length=n/\(∀(j:Nat) (b:af),bs[j]?=some b->Rd h b (.lst ((k.getD j []).map V.int)))/\(∀i j,i<n->j<n->HT.lexLt (k.getD i []) (k.getD j [])=decide (rk i<rk j))/\∀D,h D=none->Q (.ref D) (upd h D (.lst ((sortI rk (bU n)).map λi=>V.int (i:Nat))))
def LJ:∀{bs:List af}{us:List aj},Vals (bs.map V.ref) us->us=bs.map d9|[],_,.nil=>rfl|b::bs,_,.cons r t=>by rw[LJ t];subst r;rfl
def range_items(h:uE (λi v=>∃t,v=.int (0+i*1) t) acc n):acc.toList.length=n/\∀(i:Nat)(v:aj),acc.toList[i]?=some v->∃t,v=.int (i:Nat) t:=by refine⟨h.1,λi v e=>?_⟩;obtain⟨t,rfl⟩:=h.2 i v (by simp_all);simp
def D6{vs:List aj}(a:vs.length=n)(h:∀(i:Nat)(v:aj),vs[i]?=some v->∃t,v=.int (i:Nat) t):∀l:List Nat,(∀i∈l,i<n)->Vals (l.map λi=>V.int (i:Nat)) (l.map λi=>vs.getD i .none)
 |[],_=>.nil
 |i::l,b=>by
  have c:i<vs.length:=by rw[a];exact b i (by simp)
  obtain⟨t,e⟩:=h i _ (cI c);refine .cons ?_ (D6 a h l λj d=>b j (jk _ d));show L2.RelV _ (vs.getD i .none);rw[jf,cI c,e];exact⟨t,rfl⟩
def Yn{i:Nat}{T cc:af}{k Z p2 p3 p pos kp:cj}{qual x y:ag}{d:rn}{scope:fe}{F:bp}{tR:TE}(hc:X.calm=true)(g:Gl X "sorted")(hm:X.mg "sorted"=none)(hr:bO 3 X.A)(hR:PE X F tR)(hl:PE X (.Lambda d (.Subscript (.Name y Z) (.Name x p2) p3) scope k) (D4 T k qual d (.Subscript (.Name y Z) (.Name x p2) p3) scope [(y,cc)]))(yn:X.env.cells.lookup y=some cc)(hi:X.N[i]?=some y)(C4:fP X.env.scope y)(hkc:X.env.kindOf y=some .cell)(hk:scope.kind=.function)(Yo:scope.isCoroutine=false)(Yp:scope.isGenerator=false)(G:∀z∈scope.names,z.2≠.cell)(hx:scope.names.lookup x=some .local)(hy:scope.names.lookup y=some .free)(J:∀v pm c L,Ba (PySem.W.kla_fn "<lambda>" qual d (.Subscript (.Name y Z) (.Name x p2) p3) scope [(y,cc)] pm (.ref c) L) ⟨[v],[]⟩=pure [(x,v)])(Yq:(x==("__debug__":ag))=false)(Yr:(y==("__debug__":ag))=false)(Ys:(y==("__classdict__":ag))=false)(hs: ~~~(aB [F] X.env=(false,aP F X.env)::aB [] X.env)) (he: ~~~(bF pos (aB [F] X.env)=(false,aP F X.env)::bF pos (aB [] X.env))) (hpl: ~~~((bF pos (aB [F] X.env)).any (·.1)=false)):PE X (.Call (.Name "sorted" p) [F] [⟨some "key",.Lambda d (.Subscript (.Name y Z) (.Name x p2) p3) scope k,kp⟩] pos) (Ym i T k qual d (.Subscript (.Name y Z) (.Name x p2) p3) scope [(y,cc)] tR):=by
 intro pins s σ H Q I h;refine lV (k9 I g hm boot_sorted (acx (kws:=[⟨some "key",.Lambda d (.Subscript (.Name y Z) (.Name x p2) p3) scope k,kp⟩]) ?_ he hpl));rw[hs];show aH _ _ (spliced ((false,aP F X.env)::bF pos (aB [] X.env))) _ _ s;refine QZ (ba (hR pins s σ H _ I h) λu s1 z1=>ce ?_);obtain⟨v,H1,I1,r1,r,n,ev,hrn,hn,h1⟩:=z1;subst ev;obtain rfl:u=d9 r:=r1;refine kws_cons (fw (hl pins s1 σ H1 _ I1 h1) (λkv s2 z=>kws_nil ?_) λ_ _ z=>z);obtain⟨fv,H2,I2,rx,f,c,a,bs,vL,rk,ef,hf,zD,Yt,qs,ha,M,zE,f6,q⟩:=z;subst ef;obtain rfl:kv=d9 f:=rx;obtain⟨tr,ur,vr,Yu⟩:=I2.a9 r _ Yt;have l:bO 1 X.A.in1.in1:=hr.in1.in1;refine K8 (pins:=pins) (σ:=σ) (fv:=.ref f) (Good:=λvs=>vs.length=n/\∀(i:Nat) (v:aj),vs[i]?=some v->∃t,v=.int (i:Nat) t) (λQc Yv=>?col) (λvs g=>?len) (λx=>ksk_t1 _ _) (λvs j ks O=>O=H2/\ks=(bs.take j).map d9) (λvs out O=>O=H2/\out=(sortI rk (bU n)).map λi=>vs.getD i .none) (λvs g=>⟨rfl,by simp⟩) ?turn ?nw ?jC ?val ?fin;case col=>
  refine gC.Yk (A:=X.A.in1) (I2.ok.hd hc) Yu (small_one (by lia) (by lia) (by lia) (by lia)) (n:=n) ?_ hn λh' tk acc Yw Yx=>?_;·rw[rangeSize_nat];simp
  ·exact Yv _ _ (I2.kept Yw) (range_items Yx)
 case len=>rw[g.1,xM];lia
 case turn=>
  rintro vs g j v ks Hi P si hv lC ⟨rfl,S⟩ Ii;obtain⟨t,rfl⟩:=g.2 j v hv;have hj:j<n:=by rw[<-g.1];exact(gg.mp hv).1
  obtain⟨⟨o,pm,L,ho,hd⟩,_,_⟩:=Ii.a9 f _ hf;obtain⟨Yy,_,_⟩:=Ii.a9 c _ zD;obtain⟨m,LK,Yz⟩:=Ii.loc;obtain⟨u,ru,lk⟩:=Yz i y _ hi qs C4;obtain rfl:u=d9 a:=ru;have C:si.heap.IsCell cc (some (.ref a)):=by
   rcases lk with⟨z,_⟩|⟨_,c2,B,z⟩;·simp_all
   ·rw[yn]at B;cases B;exact z
  obtain⟨z2,its,n2,U,B⟩:=ha.ok Ii.a9;obtain rfl:=LJ U;have LL:j<bs.length:=by rw[M];exact hj
  haveI hsz:bs.length<=bj:=by simpa using z2
  haveI h63:=sG;refine Yi (its:=(bs.map d9).toArray) (kv:=.ref bs[j]) l.depth Ii.nolimit ho hd Yy hk Yo Yp G hx hy (λv=>J v pm c L) (by simp) C ⟨_,B,rfl,_,rfl⟩ (by simp[LL]) (by simp;lia) Yq Yr Ys λh' tk k'=>?_;refine⟨Hi,Ii.kept k',rfl,?_⟩;haveI e3:bs.take (j+1)=bs.take j++[bs[j]]:=by rw[GZ,cI LL];rfl
  rw[S,e3,lZ];rfl
 case nw=>
  rintro vs g ks O P sj ⟨rfl,S⟩ lC Ij vK;haveI YA:ks=bs.map d9:=by rw[S,mJ (by lia)]
  subst YA;have Y:∀(j:Nat) (b:af),bs[j]?=some b->∃its n,Vals ((vL.getD j []).map V.int) its/\sj.heap.get? b=some {cls:=.type "list",data:=.seq its.toArray n}:=λj b e=>by obtain⟨z2,its,n2,U,B⟩:=(zE j b e).ok Ij.a9;exact⟨its,n2,U,B⟩
  refine⟨λQ hQ=>gC.Yj (λv hv=>?_) (by lia) hQ,?_⟩;·obtain⟨b,hb,rfl⟩:=mK.mp hv;obtain⟨j,hj,e⟩:=List.mem_iff_getElem.mp hb;obtain⟨its,m,_,B⟩:=Y j b (by rw[cI hj,e]);exact⟨_,B,rfl⟩
  ·refine wpS_mono (zw (rk:=rk) lC vK ?_) ?_;·intro i' j' x' y' Q' E' LM LN YB;rw[jp]at LM LN;obtain⟨b1,e1,rfl⟩:=Gz.mp LM;obtain⟨b2,B,rfl⟩:=Gz.mp LN;obtain⟨acW,m1,r1,g1⟩:=Y i' b1 e1;obtain⟨XT,m2,r2,g2⟩:=Y j' b2 B;refine HT.Xn g1 g2 (intsAre_of r1) (intsAre_of r2) l.CG ?_;rw[f6 i' j' (by rw[<-M];exact(gg.mp e1).1) (by rw[<-M];exact(gg.mp B).1)];exact YB
   ·rintro _ LO ⟨YC,LP⟩;rw[g.1]at LP;exact⟨YC,_,LP,by rw[bZ,(sortI_perm _ _).length_eq,Bk,g.1],rfl,rfl⟩
 case jC=>rintro vs g ks O ⟨rfl,_⟩ vM;refine⟨rfl,?_⟩;rw[<-g.1];match vs,vM with|[],_=>rfl|[v],_=>rfl
 case val=>rintro vs g out O ⟨_,rfl⟩;exact⟨_,D6 g.1 g.2 _ λi hi=>kJ i hi⟩
 case fin=>rintro vs g D0 out ys O s' ⟨rfl,eo⟩ YD YE hD I5;subst eo;have D7:=Vals.inj YD (D6 g.1 g.2 _ λi hi=>kJ i hi);subst D7;exact⟨.ref D0,_,I5,rfl,q D0 hD⟩
end
end L2
end
namespace DL
open PySem PySem.Spec PyProof.Rows L2
section
variable{X:Cx}{G:Gx}{Ew:Nat->Hp->Prop}{e a b c tg iter:bp}{es:List bp}{st:dm}{rest body:List dm}{pos pos' p apos:cj}{Ea Eb Ec:DL.Env->R D}{La Lb:DL.Env->R (List D)}{Ca:DL.Env->R Bool}{S T:DL.Env->R Out}{x:ag}
def iL(d:A8 (aF X.prog X.w) X.A X.env X.xe)(f:PI X tg iter (tI G Ew La))(h:zk X G tg i vs)(j:df X body (sOf G Ew S))(k: ~~~(X.calm=true)) (l:∀x,nW iter X.env x=pure x:=by intro _;rfl):PS X (.For tg iter body [] pos) (sOf G Ew (fq La i S)):=by obtain⟨g,m,n⟩:=h;exact gq (IB d k f m j l) λ_ _ _=>Wq n
def LQ(d:A8 (aF X.prog X.w) X.A X.env X.xe)(f:PT X c (tT G Ew Ca))(g:df X body (sOf G Ew S)):PS X (.While c body [] pos) (sOf G Ew (sY fuel Ca S)):=gq (Ir d f g) λ_ _ _=>Wr
def vN(i:Nat)(he:PE X e (cD G Ew La))(l: ~~~(X.N[i]?=some x)) (m:fP X.env.scope x:=by first|exact cy rfl|exact bM (cy rfl)|exact bM (bM rfl)) (n:((x==("__debug__":ag))=false)⁻¹) (k:((x==("__classdict__":ag))=false)⁻¹) (g: ~~~(aB [e] X.env=(false,aP e X.env)::aB [] X.env)) (d: ~~~(jl (.Name x pos') "extend" X.env (aP (.Name x pos') X.env)=aP (.Name x pos') X.env)) (j: ~~~(((bF p (aB [e] X.env)).all (λx=>!x.1)&&(ii p (ij [] X.env)).all (λx=>x.1.isSome)&&decide ([e].length+([]:List n0).length+(if([]:List n0).isEmpty then 0 else 1)<30))=true)) (f: ~~~((apos.endLine==p.line)=true)) (o: ~~~(fJ (.Call (.Attribute (.Name x pos') "extend" apos) [e] [] p) none pos.line X.env=pure false)) (q: ~~~(X.K=G.K)):PS X (.Expr (.Call (.Attribute (.Name x pos') "extend" apos) [e] [] p) pos) (sOf G Ew (gL i La)):=gq (iI (yL GJ Ri acy KY (pv i l m n k) (aV he bG g) d j f g) o) λ_ _ _ h=>by rw[q];exact Wh h
def YF(i:Nat)(h:PE X b (ap G Ew Eb))(he:PE X e (ap G Ew Ea))(j: ~~~(X.N[i]?=some x)) (k:fP X.env.scope x:=by first|exact cy rfl|exact bM (cy rfl)|exact bM (bM rfl)) (l:((x==("__debug__":ag))=false)⁻¹)
    (f:((x==("__classdict__":ag))=false)⁻¹) (m:∀v,rK (.Subscript (.Name x pos') b apos) X.env v=(do
     let d<-jP [v] (aP (.Name x pos') X.env) let g<-jP [v,d] (aP b X.env)
     mN apos
     jP [v,d,g] (setItem d g v)
     release [v,d,g] []):=by intro _;rfl) (n: ~~~(swapsWithSole [.Subscript (.Name x pos') b apos] e pos.line X.env=pure false)) (o: ~~~(swappedStores [.Subscript (.Name x pos') b apos] e X.env=pure none)) (q: ~~~((mP [.Subscript (.Name x pos') b apos] X.env).map (·.2)=[rK (.Subscript (.Name x pos') b apos) X.env])):PS X (.Assign [.Subscript (.Name x pos') b apos] e pos) (sOf G Ew (sX i Eb Ea)):=gq (Ti he (Th (pv i j k l f) h set_list m) n o q) λ_ _ _=>Wi
def LR(i:Nat)(f:X.A.units+1<dU)(g:PE X b (ap G Ew Eb))(he:PE X e (ap G Ew Ea))(h: ~~~(X.N[i]?=some x)) (j:fP X.env.scope x:=by first|exact cy rfl|exact bM (cy rfl)|exact bM (bM rfl)) (k:((x==("__debug__":ag))=false)⁻¹) (d:((x==("__classdict__":ag))=false)⁻¹) (l: ~~~(fJ e (some (.Subscript (.Name x pos') b apos)) pos.line X.env=pure false)):PS X (.Assign [.Subscript (.Name x pos') b apos] e pos) (sOf G Ew (qh i Eb Ea)):=gq (De f (pv i h j k d) g he l) λ_ _ _=>Wm
def YG(i:Nat)(f:X.A.units+1<dU)(g:PA X es (cM G Ew La))(he:PE X e (ap G Ew Ea))(h: ~~~(X.N[i]?=some x)) (j:fP X.env.scope x:=by first|exact cy rfl|exact bM (cy rfl)|exact bM (bM rfl)) (k:((x==("__debug__":ag))=false)⁻¹) (d:((x==("__classdict__":ag))=false)⁻¹) (l: ~~~(fJ e (some (.Subscript (.Name x pos') (.Tuple es m n) apos)) pos.line X.env=pure false)):PS X (.Assign [.Subscript (.Name x pos') (.Tuple es m n) apos] e pos) (sOf G Ew (vz i La Ea)):=gq (De f (pv i h j k d) (sH g) he l) λ_ _ _=>Wn
def YH(i c j:Nat)(g:(G.eh c).Nodup)(hf:(G.eh c)[j]?=some f)(jC:(G.eh c).length<1000)(cl:Cls G.K (G.cm c))(na:iU G.K (G.cm c) f)(he:PE X e (ap G Ew Ea))(k: ~~~(X.N[i]?=some x)) (l:fP X.env.scope x:=by first|exact cy rfl|exact bM (cy rfl)|exact bM (bM rfl)) (m:((x==("__debug__":ag))=false)⁻¹) (d:((x==("__classdict__":ag))=false)⁻¹) (n: ~~~(fJ e (some (.Attribute (.Name x pos') f apos)) pos.line X.env=pure false)) (o: ~~~(X.K=G.K)):PS X (.Assign [.Attribute (.Name x pos') f apos] e pos) (sOf G Ew (cx i c j Ea)):=gq (I0 (pv i k l m d) he n) λ_ _ _ h=>by rw[o];exact Wo g hf jC cl na h
abbrev lD(Ea:DL.Env->R D):DL.Env->R D:=λd=>(Ea d).bind λx=>match x with|.int i=>.ok (.int (-i))|_=>.bad
def D8(f:PE X a (ap G Ew Ea)):PE X (.UnaryOp .USub a pos) (ap G Ew (lD Ea)):=cr (ID IH f) λσ H Q h=>by obtain⟨P,l,g,h⟩:=h;refine(step g h).imp λv m z1=>?_;obtain⟨x,n,j,k,d⟩:=z1;cases x with|int i=>exact⟨i,j,d.done rfl⟩|_=>exact d.elim
abbrev D9(La:DL.Env->R (List D)):DL.Env->R D:=λd=>(La d).bind λds=>match ints? ds with|some ns=>.ok (.int ns.sum)|none=>.bad
def YI(g:X.mg "sum"=none)(i:PE X a (cD G Ew La))(j: ~~~(X.calm=true)) (k: ~~~(Gl X "sum")) (f: ~~~(aB [a] X.env=(false,aP a X.env)::aB [] X.env)) (r: ~~~((bF pos (aB [] X.env)).any (·.1)=false)):PE X (.Call (.Name "sum" p) [a] [] pos) (ap G Ew (D9 La)):=cr (p8 (Uo j) k g boot_sum (aV i bG f) (he:=f)) λσ H Q h=>by
 obtain⟨P,s,m,h⟩:=h;delta li eW;refine(jx m h).imp λv t z1=>?_;obtain⟨ds,a,vs,e,u,q,l,n,d⟩:=z1;subst e;split at d;·rename_i ns o;rw[lm o]at l;rw[l.ints]at q;exact⟨a,ns,rfl,.inl q,d.done rfl⟩
 ·exact d.elim
abbrev vO(Ea Eb:DL.Env->R D):DL.Env->R D:=λd=>(Ea d).bind λx=>(Eb d).bind λy=>mh x y λi j=>.ok (.int (if j<i then j else i))
def YJ(k:X.mg "min"=none)(l:PE X a (ap G Ew Ea))(m:PE X b (ap G Ew Eb))(n: ~~~(X.calm=true)) (o: ~~~(Gl X "min")) (g: ~~~(aB [a,b] X.env=(false,aP a X.env)::aB [b] X.env)) (d: ~~~(aB [b] X.env=(false,aP b X.env)::aB [] X.env)) (q: ~~~((bF pos (aB [b] X.env)).any (·.1)=false)):PE X (.Call (.Name "min" p) [a,b] [] pos) (ap G Ew (vO Ea Eb)):=cr (p8 (TF n) o k boot_min (aV l (aV m bG d) g) (he:=g) (hpl:=q)) λσ H Q h=>by obtain⟨P,C,r,h⟩:=h;refine(step r h).imp λv E z1=>?_;obtain⟨x,F,s,f,t⟩:=z1;refine(step f t).imp λu I z2=>?_;obtain⟨y,J,w,z,A⟩:=z2;obtain⟨i,j,rfl,rfl,B⟩:=vp A;subst s;subst w;exact⟨i,j,rfl,B.done rfl⟩
end
section
variable{X:Cx}{G:Gx}{Ew:Nat->Hp->Prop}{P:af->Prop}{σ:L2.St}{H H':Hp}{ρ:DL.Env}{Q:VK}{e a b c tg iter:bp}{es:List bp}{st:dm}{rest body:List dm}{pos pos' p apos:cj}{Ea Eb Ec:DL.Env->R D}{La Lb:DL.Env->R (List D)}{Ca:DL.Env->R Bool}{S T:DL.Env->R Out}{x:ag}
abbrev tM(ds:List D):R (List D):=match ds with|[.int a,.int b,.int c]=>if c≠0/\c.natAbs<1073741824/\Bf a b c=true/\0<=rM a b c then .ok (jy a c (rM a b c).toNat)else .bad|_=>.bad
abbrev qt(d:DL.Env->R (List D)):DL.Env->R (List D):=λρ=>(d ρ).bind tM
def YK{R:It->Hp->Prop}(h:tI G Ew (qt n) σ H R):J3 (cM G Ew n) σ H R:=by
 obtain⟨P,ρ,o,h⟩:=h;refine⟨P,ρ,o,?_⟩;delta qt at h;cases d:n ρ with
 |bad=>rw[d]at h;exact h|exc c=>rw[d]at h;exact h
 |ok ds=>
  rw[d,ai]at h;intro vs H' s r;delta tM at h;split at h
  ·rename_i i j k;obtain⟨v,w,e,q,v2,y,t,f,v3,z,u,g,l⟩:=r;subst q;subst f;subst g;subst l;subst u t;split at h;·rename_i m;exact⟨i,j,k,_,e,⟨m.1,m.2.1,m.2.2.1,by lia⟩,h _ _ s V0⟩
   ·exact h.elim
  ·exact h.elim
def LS(d:X.mg "range"=none)(f:PA X [a,b,c] (cM G Ew La))(g: ~~~(Gl X "range")) (h: ~~~(aB [a,b,c] X.env=(false,aP a X.env)::aB [b,c] X.env)) (hpl: ~~~((bF pos (aB [b,c] X.env)).any (·.1)=false)):PI X tg (.Call (.Name "range" p) [a,b,c] [] pos) (tI G Ew (qt La)):=qi (U5 g d f h hpl) λ_ _ _=>YK
abbrev qu(La:DL.Env->R (List D)):DL.Env->R D:=λρ=>(La ρ).bind λds=>match ints? ds with|some ns=>.ok (.tk ns)|none=>.bad
def LU(g:X.mg "tuple"=none)(i:PE X a (cD G Ew La))(j: ~~~(Gl X "tuple")) (f: ~~~(aB [a] X.env=(false,aP a X.env)::aB [] X.env)) (r: ~~~((bF pos (aB [] X.env)).any (·.1)=false)):PE X (.Call (.Name "tuple" p) [a] [] pos) (ap G Ew (qu La)):=cr (CI Ui j g PyProof.Rows.boot_tuple (aV i bG f) (he:=f)) λσ H Q h=>by
 obtain⟨P,ρ,k,h⟩:=h;delta li eW;refine(jx k h).imp λv s z1=>?_;obtain⟨ds,a,vs,e,u,q,l,m,d⟩:=z1;subst e;split at d;·rename_i ns n;rw[lm n]at l;rw[l.ints]at q;exact⟨a,_,rfl,.inl ⟨.inl q,λt o=>d _ _ (cY o) ⟨t,rfl,aW⟩⟩⟩
 ·exact d.elim
abbrev vP(f g:DL.Env->R D):DL.Env->R D:=λρ=>(f ρ).bind λk=>(g ρ).bind λd=>match k,d with|.tk k,.dt ks ds=>.ok (.bl (cF ks ds k).isSome)|_,_=>.bad
def YL{l n:DL.Env->R D}(h:ap G Ew (vP l n) σ H Q):yS (ap G Ew l) (ap G Ew n) σ H Q:=by
 obtain⟨P,ρ,r,h⟩:=h;refine(step r h).imp λv E z1=>?_;obtain⟨x,F,s,f,t⟩:=z1;refine(step f t).imp λu I z2=>?_;obtain⟨y,z,A,B,i⟩:=z2;have j:=s.keep z;cases x with
 |tk k=>
  cases y with
  |dt ks ds=>
   obtain⟨b,rfl,C⟩:=j;obtain⟨a,o,e,g,m⟩:=y6 (k:=k) (b:=b) A C;refine⟨a,o,e,g,?_⟩;have:o.isSome=(cF ks ds k).isSome:=by cases q:cF ks ds k with|none=>rw[q]at m;rw[m];rfl|some d=>rw[q]at m;obtain⟨w,e,_⟩:=m;rw[e];rfl
   rw[this];exact i.done rfl|_=>exact i.elim
 |_=>exact i.elim
def YM(d:X.A.units+1<dU)(f:PE X a (ap G Ew Ea))(g:PE X b (ap G Ew Eb))(i: ~~~(iD .In b=false)):PT X (.Compare a [.In] [b] pos) (tT G Ew (cB (vP Ea Eb))):=nn (pY (yV d f g) i) λ_ _ _ h=>YL (qf h)
abbrev vR(f g:DL.Env->R D):DL.Env->R D:=λρ=>(f ρ).bind λd=>(g ρ).bind λk=>match d,k with|.dt ks ds,.tk k=>(match cF ks ds k with|some d=>.ok d|none=>.bad)|_,_=>.bad
def YN(h:ap G Ew (vR n q) σ H Q):yR (ap G Ew n) (ap G Ew q) σ H Q:=by
 obtain⟨P,ρ,r,h⟩:=h;refine(step r h).imp λv I z1=>?_;obtain⟨x,J,s,i,t⟩:=z1;refine(step i t).imp λu L z2=>?_;obtain⟨y,z,A,B,f⟩:=z2;have j:=s.keep z;cases x with
 |dt ks ds=>
  cases y with
  |tk k=>
   obtain⟨b,rfl,C⟩:=A;obtain⟨a,o,e,g,m⟩:=y6 j C;dsimp only at f;split at f;·rename_i d E;rw[E]at m;obtain⟨w,F,l⟩:=m;subst F;exact⟨a,w,e,g,f.done l⟩
   ·exact f.elim|_=>exact f.elim
 |_=>exact f.elim
def YO(d:X.A.units+1<dU)(f:PE X a (ap G Ew Ea))(g:PE X b (ap G Ew Eb))(h:vm b:=by intro _ _;rfl):PE X (.Subscript a b pos) (ap G Ew (vR Ea Eb)):=cr (yU d f g h) λ_ _ _=>YN
abbrev vS(i:Nat)(f g:DL.Env->R D):DL.Env->R Out:=λρ=>(g ρ).bind λd=>match ρ[i]?with|some (.eH ks ds)=>(f ρ).bind λk=>(match k with|.tk k=>if ks.Nodup/\ks.length<bj then .ok (.nx (ρ.set i (.eH (cV ks ds k d).1 (cV ks ds k d).2)))else .bad|_=>.bad)|_=>.bad
def YQ(h:sOf G Ew (vS i C E) f σ H):yT (d5 i) (ap G Ew C) (ap G Ew E) f σ H:=by
 obtain⟨O,W,ρ,F,h⟩:=h;refine(jB F h).imp λv Z z1=>?_;obtain⟨d,s1,I,g,m⟩:=z1;split at m
 ·rename_i ks ds e;obtain⟨a,vs,y,p,q,z,l⟩:=g.rv.eH e;refine⟨_,y,?_⟩;refine(jB g m).imp λu A z2=>?_;obtain⟨k,n,rk,o,j⟩:=z2;cases k with
  |tk k=>
   obtain⟨t,rfl,J⟩:=rk;dsimp only at j;split at j
   ·rename_i L;have r:=n _ _ q;obtain⟨M,N,U,Y,w4,w5⟩:=Dz (λk:List Int=>(k.map dW)) y4 (k:=k) L.1 z (l.keep n) (I.keep n);have k1:∀o',Kp (λa=>O a\/W a) A (upd A a o'):=λo' b u z w=>by
     by_cases B:b=a
     ·subst B;rw[r]at z;cases z;rcases w with w|w;·exact bw p w
      ·exact bw w zc
     ·rw[aD B];exact z
    obtain⟨s,ex,_⟩:=o.chg (jW:=.eH _ (cV ks ds k d).2) (o':=.dT (putK _ _ v)) e rfl rfl rfl y r zc ⟨a,M,rfl,p,by rw[aW,N],U,Y.mono (k1 _) λb z=>.inl z⟩;exact⟨a,_,rfl,m9.t r (by rw[fZ];exact J) (by simp_all),j _ _ _ ex s⟩
   ·exact j.elim|_=>exact j.elim
 ·exact m.elim
def YR(i:Nat)(f:X.A.units+1<dU)(g:PE X b (ap G Ew Eb))(he:PE X e (ap G Ew Ea))(h: ~~~(X.N[i]?=some x)) (j:fP X.env.scope x:=by first|exact cy rfl|exact bM (cy rfl)|exact bM (bM rfl)) (k:((x==("__debug__":ag))=false)⁻¹) (d:((x==("__classdict__":ag))=false)⁻¹) (l: ~~~(fJ e (some (.Subscript (.Name x pos') b apos)) pos.line X.env=pure false)):PS X (.Assign [.Subscript (.Name x pos') b apos] e pos) (sOf G Ew (vS i Eb Ea)):=gq (De f (pv i h j k d) g he l) λ_ _ _=>YQ
abbrev vT:D->Bool|.ah=>true|.bl _=>true|.int _=>true|.str _=>true|_=>false
def YS(h:vT d=true)(r:Rep G P H d v):Rep G f H d v:=by cases d<;>first|exact r|(exact bw h bE)
abbrev tN(ρ:DL.Env):DL.Env:=ρ.map λs=>if s.owned then .ah else s
abbrev qv(i:Nat)(E:DL.Env->R D):DL.Env->R D:=λρ=>match ρ[i]?with|some (.aL ds)=>(E ((tN ρ).set i (.val (.lst ds)))).bind λd=>if vT d=true then .ok d else .bad|_=>.bad
def RV.view(g:RV G P σ H ρ)(e:ρ[i]?=some (.aL ds)):∃u,RV G u σ H ((tN ρ).set i (.val (.lst ds))):=by
 obtain⟨a,vs,w,p,q,l⟩:=g.aL e;refine⟨λb=>P b/\b≠a,by simp[tN,g.len],λj s y f h=>?_,λb z=>g.bI b z.1⟩;haveI k:Kp P H H:=λ_ _ e _=>e;haveI m:∀b,(P b/\b≠a)->P b\/H b=none:=λb z=>.inl z.1;by_cases n:j=i;·subst n;rw[oQ f];rw[w]at h;cases h;exact⟨_,rfl,a,vs,rfl,.inl q,λz=>z.2 rfl,l.mono k m⟩
 ·rw[fu (bK n)]at f;delta tN at f;rw[jp]at f;cases o:ρ[j]?with|none=>simp_all|some t=>rw[o]at f;haveI f:=eR f;haveI A:=g.at_ j t y o h;cases t with|ah=>subst f;trivial|val d=>subst f;obtain⟨v,B,r⟩:=A;exact⟨v,B,r.mono k m⟩|aL d=>subst f;trivial|dv c d=>subst f;trivial|f7 ks d=>subst f;trivial|eH ks d=>subst f;trivial
def YT(i:Nat)(h:PE X e (ap G Ew Ea)):PE X e (ap G Ew (qv i Ea)):=cr h λσ H Q h=>by
 obtain⟨P,ρ,k,h⟩:=h;delta qv at h;split at h
 ·rename_i ds e;obtain⟨l,f⟩:=k.view e;refine⟨l,_,f,?_⟩;cases g:Ea _ with
  |bad=>rw[g]at h;exact h|exc c=>rw[g]at h;exact h
  |ok d=>
   rw[g,ai]at h;intro v H' s r;by_cases j:vT d=true;·rw[ax j]at h;exact h v H' s (YS j r)
   ·rw[ay j]at h;exact h.elim
 ·exact h.elim
def LV(f:X.A.units<dU):dH X (fg .Lt) (yY HT.lexLt):=by intro pins s σ H x y v u Q I g i h;obtain⟨a,b,ns,t,rfl,rfl,j,k,q⟩:=h;subst g;subst i;obtain⟨z1,its,n,r,l⟩:=j.ok I.a9;obtain⟨z2,d,w,m,o⟩:=k.ok I.a9;exact HT.Xm l o (intsAre_of r) (intsAre_of m) f ⟨.bl _,H,I,rfl,q⟩
def YU(d:X.A.units<dU)(f:PE X a (cD G Ew La))(g:PE X b (cD G Ew Lb)):PE X (.Compare a [.Lt] [b] pos) (ap G Ew (h7 HT.lexLt La Lb)):=oS (LV d) (λ_ _ _=>yZ) f g (eV _)
def YV(d:X.A.units<dU)(f:PE X a (cD G Ew La))(g:PE X b (cD G Ew Lb)):PT X (.Compare a [.Lt] [b] pos) (tT G Ew (cB (h7 HT.lexLt La Lb))):=mo (LV d) (λ_ _ _=>yZ) f g (eV _)
end
end DL
section
namespace L2
open PySem PySem.Spec PyProof.Rows
section
variable{X:Cx}{CX:hU}{k:Nat}{x:ag}{p pos:cj}{e:bp}{es:List bp}{t:TA}{E:XK}
abbrev YW(i:Nat)(Gd:af->Prop)(sp:af->Sp)(E:XK)(t:TA):TE:=λσ H Q=>∃f,σ[i]?=some (some (.ref f))/\Gd f/\t σ H λvs d=>sp f vs d Q E
def YX(i:Nat)(m:∀f,Gd f->∃d ps,bS X.prog X.w X.K X.mg X.base CX k f d ps (sp f)/\Binds X.K d ps []/\jJ X.K (.ref f)=true)(n:bO k X.A)(o:Passes CX X E)(y:PA X (e::es) t)(z: ~~~(X.N[i]?=some x)) (B:fP X.env.scope x:=by first|exact cy rfl|exact bM (cy rfl)|exact bM (bM rfl)) (C:((x==("__debug__":ag))=false)⁻¹) (g:((x==("__classdict__":ag))=false)⁻¹) (he: ~~~(aB (e::es) X.env=(false,aP e X.env)::aB es X.env)) (hpl: ~~~((bF pos (aB es X.env)).any (·.1)=false)):PE X (.Call (.Name x p) (e::es) [] pos) (YW i Gd sp E t):=by intro pins s σ H Q I ⟨f,hf,J,h⟩;refine lV (ba (pv i z B C g pins s σ H (λv j=>v=.ref f/\j=H) I ⟨_,hf,rfl,rfl⟩) λu L z1=>?_);obtain⟨v,j,M,O,U⟩:=z1;obtain⟨rfl,rfl⟩:=U;obtain rfl:u=d9 f:=O;obtain⟨d,ps,F,Y,Z⟩:=m f J;refine Gs I.ok.mod.ol Z (ba (y pos pins L σ j _ M h) λus s2 ⟨vs,H2,l,r,q⟩=>⟨l.gm,?_⟩) he hpl;exact u7 F n Y .nil o l r (by simp_all)
end
end L2
namespace DL
open PySem PySem.Spec PyProof.Rows L2
section
variable{X:Cx}{G:Gx}{Ew:Nat->Hp->Prop}{P:af->Prop}{σ:L2.St}{H H':Hp}{ρ:DL.Env}{Q:VK}{e a b c tg iter:bp}{es:List bp}{st:dm}{rest body:List dm}{pos pos' p apos:cj}{Ea Eb Ec:DL.Env->R D}{La Lb:DL.Env->R (List D)}{Ca:DL.Env->R Bool}{S T:DL.Env->R Out}{x:ag}
abbrev Ed(P:bA)(w:bB)(mg:ag->Option aj)(base:aZ)(G:Gx)(CX:hU)(k n:Nat)(FV:Nat->Option (List D->R D)):Prop:=∀t F,FV t=some F->∃d ps,bS P w G.K mg base CX k (G.fm t) d ps (gx G n F)/\Binds G.K d ps []/\jJ G.K (.ref (G.fm t))=true/\∀t' f,FV t'=some f->G.fm t=G.fm t'->f=F
abbrev oW(i n:Nat)(FV:Nat->Option (List D->R D))(d:DL.Env->R (List D)):DL.Env->R D:=λρ=>match ρ[i]?with|some (.val (.fn t))=>(match FV t with|some F=>(d ρ).bind λds=>if ds.length=n then F ds else .bad|none=>.bad)|_=>.bad
def YY(i:Nat)(B:Ed X.prog X.w X.mg X.base G CX k n FV)(u:bO k X.A)(y:Passes CX X (xk G Ew))(z:PA X (e::es) (cM G Ew La))(C: ~~~(X.N[i]?=some x)) (I:fP X.env.scope x:=by first|exact cy rfl|exact bM (cy rfl)|exact bM (bM rfl)) (J:((x==("__debug__":ag))=false)⁻¹) (g:((x==("__classdict__":ag))=false)⁻¹) (he: ~~~(aB (e::es) X.env=(false,aP e X.env)::aB es X.env)) (hpl: ~~~((bF pos (aB es X.env)).any (·.1)=false)) (L: ~~~(X.K=G.K)):PE X (.Call (.Name x p) (e::es) [] pos) (ap G Ew (oW i n FV La)):=by
 refine cr (YX (Gd:=λf=>∃t F,FV t=some F/\f=G.fm t) (sp:=λf=>λvs H Q E=>∃t F,FV t=some F/\f=G.fm t/\gx G n F vs H Q E) i ?_ u y z C I J g he hpl) λσ H Q h=>?_;·rintro f ⟨t,F,d,rfl⟩;obtain⟨M,ps,m,o,r,inj⟩:=B t F d;rw[<-L]at m o r;refine⟨M,ps,m.imp λvs H Q E z1=>?_,o,r⟩;obtain⟨t',F',O,e,q⟩:=z1;grind
 ·obtain⟨P,ρ,s,h⟩:=h;delta oW at h;split at h;·rename_i t U;obtain⟨v,W,Y⟩:=s.val U;subst Y;cases d:FV t with|none=>rw[d]at h;exact h.elim|some F=>rw[d]at h;refine⟨_,W,⟨t,F,d,rfl⟩,?_⟩;refine(oK s h).imp λvs H1 z1=>?_;obtain⟨ds,s1,l,j,Z⟩:=z1;exact⟨t,F,d,rfl,Dm j l Z⟩
  ·exact h.elim
def YZ{g:TG}{T:D->DL.Env->R DL.Env}{C:DL.Env->R Bool}{E:DL.Env->R D}{vs:List Nat}(hT:lq G g T vs)(M:RV G P σ H ρ)(h:Ft Ew H ((Es ρ).bind λds=>match e8 T C E (fo ρ vs) ds with|.ok xs=>if xs.length<=bj then .ok xs else .bad|_=>.bad) λH0 xs=>∀a acc H',H0 a=none->aG H0 H'->H' a=some (.lst acc)->aU G (λb=>P b\/b=a) H' xs acc->Q (.ref a) H'):m7 (tI G Ew Es) g (tT G mn C) (ap G mn E) vs σ H Q:=by
 refine⟨P,ρ,M,?_⟩;delta Ft at h;cases Z:Es ρ with
 |bad=>rw[Z]at h;exact h|exc c=>rw[Z]at h;exact h
 |ok ds=>
  rw[Z,ai]at h;intro J H1 N it q O;split at h
  ·rename_i xs hxs;split at h
   ·rename_i hz;haveI w:H q=none:=N.free O;haveI nPD:¬P q:=λz=>M.bI q z w;let v:af->Prop:=λa=>P a\/a=q;refine⟨λi m r=>m=ds.length-i/\i<=ds.length/\∃acc f rest,r q=some (.lst acc)/\aU G v r f acc/\aG H1 r/\e8 T C E (fo ρ vs) (ds.drop i)=.ok rest/\f++rest=xs,⟨ds.length,by rfl,fK _,[],[],xs,aW,rfl,cY O,by simp_all,rfl⟩,?_⟩
    ·rintro i m r ⟨rfl,hi,acc,f,rest,eD,U,s,l,hx⟩;haveI Y0:RV G v (L2.wipe σ vs) r (fo ρ vs):=((M.wipe vs).keep N).zb s (λa z=>z.elim .inl λe=>.inr (by simp_all)) (λa z=>.inl z) λa z=>z.elim (λz=>(((M.wipe vs).keep N).keep s).bI a z) λe=>by lia
     by_cases n:i<ds.length
     ·right;obtain⟨d,hd⟩:∃d,ds[i]?=some d:=⟨_,cI n⟩;have ni:ds.drop i=d::ds.drop (i+1):=by rw[lR n];rw[cI n]at hd;cases hd;rfl
      rw[ni]at l;unfold e8 at l;obtain⟨A,Dv,l⟩:=oP l;obtain⟨b,Dw,l⟩:=oP l;obtain⟨go,yl⟩:=it.turn v r (Kp.of s) (λa z=>z.elim .inl λe=>.inr (by rw[e];exact O)) i d hd;refine⟨go,_,λH' z=>⟨ds.length-(i+1),by grind,z⟩,λx H2 y=>?_⟩;obtain⟨B,rx⟩:=yl x H2 y;refine hT.go (Y0.keep B) rx Dv λKw F n2 k2 o2=>?_;refine⟨by rw[Du (σ:=L2.wipe σ vs) n2 (λj hj=>(k2 j hj).1),Ku],v,A,F,?_⟩;rw[Dw];intro H3 I;by_cases W:b=true
      ·rw[ax W];rw[ax W]at l;obtain⟨dx,Dx,l⟩:=oP l;obtain⟨rs,sT,l⟩:=oP l;cases l;refine⟨v,A,F.keep I,?_⟩;delta eY;rw[Dx];intro y Y s4 ry;have u:aG r Y:=(B.trans I).trans s4;have L:Y q=some (.lst acc):=u _ _ eD;have k5:Kp v Y (upd Y q (.lst (acc++[y]))):=λc o e z=>by
        by_cases hc:c=q
        ·cases hc;rw[L]at e;cases e;rcases z with z|z;·lia
         ·rcases z with⟨_,z⟩|⟨_,_,z⟩<;>contradiction
        ·rw[aD hc];exact e
       refine⟨acc,L,?_,rfl,n,acc++[y],f++[dx],rs,aW,?_,?_,sT,by simp_all⟩;·rw[<-U.length];grind
       ·exact((U.keep u).app (aU.one ry)).mono k5 λa z=>.inl z
       ·intro c o e;rw[aD (im e O)];exact(s.trans u) c o e
      ·rw[ay W];rw[ay W]at l;exact⟨rfl,n,acc,f,rest,(B.trans I) _ _ eD,(U.keep B).keep I,(s.trans B).trans I,l,hx⟩
     ·left;have e:i=ds.length:=by lia
      subst e;rw[Bh]at l;delta e8 at l;cases l;rw[nY]at hx;subst hx;exact⟨it.stop r (Kp.of s),h q acc r w (N.trans s) eD U⟩
   ·exact h.elim
  ·exact h.elim
abbrev vU(i:Nat)(d:DL.Env->R (List D))(T:D->DL.Env->R DL.Env)(C:DL.Env->R Bool)(E:DL.Env->R D)(vs:List Nat):DL.Env->R Out:=λρ=>(d ρ).bind λds=>match e8 T C E (fo ρ vs) ds with|.ok xs=>if xs.length<=bj/\i<ρ.length then .ok (.nx (ρ.set i (.aL xs)))else .bad|_=>.bad
def RS.Y1{p:af}(d:RS G O W σ H ρ)(J:H p=none)(s:aG H H')(L:m.owned=true)(M:m.vo=false)(e:H' p≠none)(N:oI G (λa=>O a\/W a\/a=p) H' m (some (.ref p)))(C:i<ρ.length):RS G O (λa=>W a\/a=p) (σ.set i (some (.ref p))) H' (ρ.set i m):=by
 have g:RV G (λa=>O a\/W a\/a=p) σ H' ρ:=d.rv.zb s (λa z=>by
  lia) (λa z=>z.elim .inl λz=>.inr (.inl z)) λa z=>by
  rcases z with z|z|z;·exact jX d.rv.bI s a (.inl z)
  ·exact jX d.rv.bI s a (.inr z)
  simp_all
 have v:i<σ.length:=by rw[d.rv.len];exact C
 refine⟨⟨by simp[g.len],λj s F h l=>?_,g.bI⟩,λa z=>?_,λj s e o=>?_,λj k s t a h l y I n r=>?_,λj s a e o q=>?_⟩
 ·by_cases f:j=i;·simp_all
  ·rw[fu (bK f)]at h l;exact g.at_ j s F h l
 ·rcases z with z|z;·exact d.dj a z
  ·intro q;exact d.rv.bI a (.inl q) (by simp_all)
 ·by_cases f:j=i;·simp_all
  ·rw[fu (bK f)]at e⊢
   obtain⟨a,q,w⟩:=d.own j s e o;simp_all
 ·have u:∀(j:Nat) (s:Slot),j≠i->(ρ.set i m)[j]?=some s->s.owned=true->(σ.set i (some (.ref p)))[j]?=some (some (.ref a))->a≠p:=λj s f e o q z=>by rw[fu (bK f)]at e q;obtain⟨b,A,w⟩:=d.own j s e o;rw[q]at A;cases A;exact d.rv.bI a (.inr w) (by simp_all)
  by_cases f:j=i;·grind
  ·by_cases B:k=i;·cases B;have e:=oQ r;cases e;exact bw rfl (u j s f h y n)
   ·rw[fu (bK f)]at h n;rw[fu (bK B)]at l r;exact d.inj j k s t a h l y I n r
 ·by_cases f:j=i;·simp_all
  ·rw[fu (bK f)]at e q;exact d.me j s a e o q
def Y2{T:D->DL.Env->R DL.Env}(i:Nat)(own:List (ag×Nat))(w:X.N.Nodup)(y:PI X tg iter (tI G Ew La))(ok:ll X.N X.env.scope scope own=true)(A:∃g,lq G g T (own.map (·.2))/\∀(s:ar)(H:Hp)(C:af)(cl:List (ag×af))(f:List af),PG (X.db s H scope (ec scope cl C X.env) f) tg g)(B:∀(s:ar)(H:Hp)(C:af)(cl:List (ag×af))(f:List af),lj (X.db s H scope (ec scope cl C X.env) f) j (tT G mn Ca))(he:∀(s:ar)(H:Hp)(C:af)(cl:List (ag×af))(f:List af),PE (X.db s H scope (ec scope cl C X.env) f) m (ap G mn Eb))(F: ~~~(X.N[i]?=some x)) (n: ~~~(X.env.scope.names.lookup x=some .local)) (o:fJ (.ListComp m [⟨tg,iter,j,0⟩] scope p) (some (.Name x pos')) pos.line X.env=pure true:=by exact JO rfl rfl rfl (by decide+kernel)) (I: ~~~(X.calm=true)) (J:∀x,nW iter X.env x=pure x:=by intro _;rfl):PS X (.Assign [.Name x pos'] (.ListComp m [⟨tg,iter,j,0⟩] scope p) pos) (sOf G Ew (vU i La T Ca Eb (own.map (·.2)))):=by
 obtain⟨g,L,M⟩:=A;refine gq (C8 I w F n o y (vg ok) M B he J) λD σ H h=>?_;obtain⟨O,W,ρ,v,h⟩:=h;refine YZ L v.rv ?_;delta vU at h;cases q:La ρ with
 |bad=>rw[q]at h;exact h|exc c=>rw[q]at h;exactλH' s=>h W H' (Ext.of s)
 |ok ds=>
  simp only[q,ai]at h;rw[ai];cases r:e8 T Ca Eb _ ds with
  |bad=>rw[r]at h;assumption|exc c=>rw[r]at h;assumption
  |ok xs=>
   rw[r]at h;dsimp only at h⊢
   by_cases u:xs.length<=bj
   ·rw[ax u];by_cases d:i<ρ.length;·rw[ax ⟨u,d⟩]at h;intro a acc H' U s e l;refine h _ _ _ ⟨Kp.of s,λ_ z=>.inl z,λb z=>z.elim .inl λz=>.inr (by lia)⟩ (v.Y1 U s rfl rfl (by lia) ⟨a,acc,rfl,.inr (.inr rfl),e,l.mono (Kp.of (aG.refl _)) λb z=>?_⟩ d);lia
    ·rw[ay (λz=>d z.2)]at h;exact h.elim
   ·rw[ay (λz=>u z.1)]at h;exact h.elim
abbrev kK(n:Nat)(ds:List D):List D:=(bU ds.length).map λi=>.tup [.int ((n+i:Nat):Int),ds.getD i .ah]
def LW{d:D}(h:(kK n ds)[i]?=some d):∃f,ds[i]?=some f/\d=.tup [.int ((n+i:Nat):Int),f]:=by delta kK at h;grind
def LX:(kK n ds).length=ds.length:=by simp[kK]
def Y3{a:af}(q:Rd H a (.lst vs))(n:¬P a)(l:aU G P H ds vs):oN G P (Dg G.K a) H (kK 0 ds)where
 turn:=λz H' k j i d m=>by obtain⟨A,f,rfl⟩:=LW m;obtain⟨v,e,r⟩:=l.get f;have g:dG G.K H' a vs:=.inl (k.rd n q);refine⟨⟨vs,v,g,e⟩,λx o z1=>?_⟩;obtain⟨T,y,s,h,u,w⟩:=z1;subst s u;have:=w vs g;rw[e]at this;cases this;refine⟨cY h,T,_,rfl,.inl (.inl aW),_,_,rfl,?_,_,_,rfl,(r.mono k j).keep (cY h),rfl⟩;rw[Rp];rfl
 stop:=λH' k=>⟨vs,.inl (k.rd n q),by rw[LX];exact lU l.length.symm⟩
abbrev vV(La:DL.Env->R (List D)):DL.Env->R (List D):=λρ=>(La ρ).bind λds=>.ok (kK 0 ds)
def Y4(m:X.mg "enumerate"=none)(o:PE X a (ap G Ew Ea))(u: ~~~(Gl X "enumerate")) (w: ~~~(aB [a] X.env=[(false,aP a X.env)])) (f: ~~~(aB [a] X.env=(false,aP a X.env)::aB [] X.env)) (y: ~~~(X.K=G.K)):PI X (.Tuple i kk j) (.Call (.Name "enumerate" p) [a] [] pos) (tI G Ew (vV (eL Ea))):=qi (Va u m (aV o bG f) w) λσ H R h=>by obtain⟨P,ρ,z,h⟩:=h;refine⟨P,ρ,z,?_⟩;delta vV eL at h;cases g:Ea ρ with|bad=>rw[g]at h;exact h|exc c=>rw[g]at h;exact h|ok d=>rw[g]at h;intro v H' s r;cases d with|lst ds=>obtain⟨a,vs,e,q,n,l⟩:=r;exact⟨a,vs,by rw[e],.inl q,by rw[y];exact h _ _ s (Y3 q n l)⟩|_=>exact h.elim
abbrev ia(c:Nat):DL.Env->R Out:=λ_=>.exc c
def Y5(c:Nat)(R:Raises X E)(O:OwnCls x C [.type "Exception",.type "BaseException",.type "object"] "Exception.__new__" X.mg X.base)(f:G.xv c=.ref C)(g:∀H,Ew c H->E (.ref C) none H)(i: ~~~(Gl X x)) (j: ~~~(X.calm=true)) (l:((x==("__debug__":ag))=false)⁻¹):PS X (.Raise (some (.Call (.Name x m) [] [] d)) none pos) (sOf G Ew (ia c)):=gq (K4 R j O i l) λD σ H h=>by obtain⟨O,W,ρ,n,h⟩:=h;exact g H (h W H (Ext.refl _ _))
end
end DL
end
section
namespace L2
open PySem PySem.Spec PyProof.Rows
structure Ee(K:br)(C:af)(m:ag)(f:af):Prop where
 at_:kS K (.ref C) m=some (some (.ref f))
 fn:xp K (.ref f)=true
 get:Qu K (.ref f) "__get__"=some (some (.builtin "function.__get__"))
 tk:Qv K (.ref f)=some false
 cp:PySem.W.copiedNames.contains m=false
section
variable{X:Cx}{pins:List (af×bu)}{σ:L2.St}{H:Hp}{s:ar}{a C dx f:af}{fs:List (ag×V)}{m:ag}{A:cG}{E:aj->ar->Prop}
def Y6(I:Inv X pins σ H s)(e:H a=some (.ins C dx fs))(c:Cls X.K C)(k:Ee X.K C m f)(l:fs.lookup m=none)(h:∀q d,H q=none->Inv X pins σ (upd H q (.met f a)) d->Q (.ref q) d):aH (aF X.prog X.w) A (getAttr (.ref a) m b) Q E s:=by obtain⟨g,O,r,_,_,_⟩:=yC I.a9 e;have i:g m=none:=hJ.none_of (by grind);obtain⟨n,J,j⟩:=O.look;refine PySem.W.get_bind I.gm J (A9 (c.get m)).1 (PySem.W.findObj_fn c.hd k.at_ k.get k.tk k.cp (by rw[j,i])) (A9 (c.get m)).2 (xO (PySem.W.fn_get I.gm (eE.mp k.fn) (PySem.W.handed_on rfl (h _ _ (I.a9.fresh (bR _)) ?_))));exact I.laid (λb o e=>bL _ e) (bR _) (show da X.prog X.w _ _ _ _ from dL _ rfl)
end
section
variable{X:Cx}{e:bp}{m:ag}{pos:cj}{C f:af}{te:TE}
inductive LY(C:af)(m:ag)(f:af)(Q:VK)(v:V)(H1:Hp):Prop|mk:∀a dx fs,v=.ref a->H1 a=some (.ins C dx fs)->fs.lookup m=none->(∀q,H1 q=none->Q (.ref q) (upd H1 q (.met f a)))->LY C m f Q v H1
abbrev LZ(C:af)(m:ag)(f:af)(te:TE):TE:=λσ H Q=>te σ H (LY C m f Q)
def Y7(he:PE X e te)(c:Cls X.K C)(k:Ee X.K C m f)(b:jl e m X.env (aP e X.env)=aP e X.env):PE X (.Attribute e m pos) (LZ C m f te):=by intro pins s σ H Q I h;refine IV b (ba (he pins s σ H _ I h) λu o z1=>?_);obtain⟨x,r,d,g,a,dx,fs,ex,i,l,q⟩:=z1;subst ex;obtain rfl:u=d9 a:=g;exact Y6 d i c k l λp t j n=>⟨.ref p,_,n,rfl,q p j⟩
end
section
variable{X:Cx}{pins:List (af×bu)}{σ:L2.St}{H:Hp}{s:ar}
def Y8(F:bS X.prog X.w X.K X.mg X.base aS k f g ps sp)(i:bO k A)(j:lh X.prog X.w X.K X.mg X.base A X.stack s H)(l:Binds X.K g ps [])(I:Inv X pins σ H s)(c:H q=some (.met f a))(r:Vals vs us)(h:sp (.ref a::vs) H Q E0):aH (aF X.prog X.w) A (call (.ref q) us) (EP X pins σ Q) E s:=by
 haveI n:=I.a9 q _ c;haveI d:Vals (.ref a::vs) _:=.cons rfl r;haveI t:(.ref a::us).length=ps.length:=by rw[<-d.length];exact F.len _ _ _ _ h
 haveI b:=l s (.ref a::us) I.gm (by simp_all);rw[nY]at b;refine xO (PySem.W.method_call n (uz (F.run A X.stack s H _ _ _ Q E0 i j b d h) λr v c=>?_));cases r with|error e=>exact mO c|ok o=>cases o with|ret u=>exact I.after c|next=>assumption|brk=>assumption|cont=>assumption
end
end L2
namespace DL
open PySem PySem.Spec PyProof.Rows L2
open gC(sortI kJ sortI_perm zw)
abbrev my(F:List D->R D)(o:D):List D->Option (List Int)|[]=>some []|d::r=>match F [o,d]with|.ok (.int k)=>(my F o r).map (k::·)|_=>none
def L0{F:List D->R D}{o:D}:∀{ds:List D}{ks:List Int},my F o ds=some ks->ks.length=ds.length/\∀(i:Nat)(d:D),ds[i]?=some d->∃k,ks[i]?=some k/\F [o,d]=.ok (.int k)
 |[],_,h=>by cases h;exact⟨rfl,λi d e=>by simp at e⟩
 |d::r,ks,h=>by
  unfold my at h;split at h;·rename_i k c;cases b:my F o r with|none=>rw[b]at h;cases h|some g=>rw[b]at h;cases h;obtain⟨j,l⟩:=L0 b;refine⟨by simp[j],λi n e=>?_⟩;cases i with|zero=>simp at e;subst e;exact⟨k,rfl,c⟩|succ i=>simp at e;obtain⟨k',q,t⟩:=l i n e;exact⟨k',by simpa using q,t⟩
  ·cases h
abbrev tP(ks:List Int)(ds:List D):List D:=(sortI (λi=>ks.getD i 0) (bU ds.length)).map λi=>ds.getD i .ah
abbrev qw(c n:Nat)(F:List D->R D)(La:DL.Env->R (List D))(Ea:DL.Env->R D):DL.Env->R D:=λρ=>(La ρ).bind λds=>(Ea ρ).bind λo=>match o with|.ins c' fs=>if c'=c/\n=2 then(match my F (.ins c' fs) ds with|some ks=>.ok (.lst (tP ks ds))|none=>.bad)else .bad|_=>.bad
structure Ef(P:bA)(w:bB)(mg:ag->Option aj)(base:aZ)(G:Gx)(c t:Nat)(m:ag)(k:Nat)(ps:List ag)(F:List D->R D):Prop where
 ok:∃fd,bS P w G.K mg base aS k (G.fm t) fd ps (gx G ps.length F)/\Binds G.K fd ps []
 mt:Ee G.K (G.cm c) m (G.fm t)
 cl:Cls G.K (G.cm c)
 no:∀vs:List V,((G.eh c).zip vs).lookup m=none
def Eg(r:Vals vs us):∀l:List Nat,(∀i∈l,i<us.length)->Vals (l.map λi=>vs.getD i .ah) (l.map λi=>us.getD i .none)
 |[],_=>.nil
 |i::l,h=>by
  have b:=h i (by simp);have c:i<vs.length:=by rw[r.length];exact b
  obtain⟨u,g,k⟩:=r.get (cI c);refine .cons ?_ (Eg r l λj d=>h j (jk _ d));simp_all
def L1(r:aU G P H ds vs):∀l:List Nat,(∀i∈l,i<ds.length)->aU G P H (l.map λi=>ds.getD i .ah) (l.map λi=>vs.getD i .ah)|[],_=>rfl|i::l,h=>by have b:=h i (by simp);obtain⟨v,d,g⟩:=r.get (cI b);refine⟨_,_,rfl,?_,L1 r l λj c=>h j (jk _ c)⟩;simp_all
section
variable{X:Cx}{G:Gx}{Ew:Nat->Hp->Prop}{P:af->Prop}{σ:L2.St}{H H':Hp}{ρ:DL.Env}{Q:VK}{e a:bp}{pos p apos kp:cj}{Ea:DL.Env->R D}{La:DL.Env->R (List D)}
def Y9{c t k:Nat}{m:ag}{ps:List ag}{F:List D->R D}(hm:X.mg "sorted"=none)(B:Ef X.prog X.w X.mg X.base G c t m k ps F)(hr:bO (k+2) X.A)(hl:PE X e (cD G Ew La))(ho:PE X a (ap G Ew Ea))(hg: ~~~(Gl X "sorted")) (oX: ~~~(aB [e] X.env=(false,aP e X.env)::aB [] X.env)) (hb: ~~~(jl a m X.env (aP a X.env)=aP a X.env)) (he: ~~~(bF pos (aB [e] X.env)=(false,aP e X.env)::bF pos (aB [] X.env))) (hpl: ~~~((bF pos (aB [e] X.env)).any (·.1)=false)) (hK: ~~~(X.K=G.K)):PE X (.Call (.Name "sorted" p) [e] [⟨some "key",.Attribute a m apos,kp⟩] pos) (ap G Ew (qw c ps.length F La Ea)):=by
 intro pins s σ H Q I h;obtain⟨⟨fd,ok,bd⟩,mt,cl,no⟩:=B;rw[<-hK]at ok bd mt cl;obtain⟨P,ρ,rv,h⟩:=h;have hA:eW (cD G Ew La) eu σ H (λvs g=>∃ds l L,vs=[.ref l]/\aG H g/\Rd g l (.lst L)/\aU G P g ds L/\RV G P σ g ρ/\eY G Ew P g ((Ea ρ).bind λo=>match o with|.ins c' fs=>if c'=c/\ps.length=2 then(match my F (.ins c' fs) ds with|some ks=>.ok (.lst (tP ks ds))|none=>.bad)else .bad|_=>.bad) Q):=(jx rv h).imp λv g ⟨ds,l,L,e,s1,q,lr,M,h1⟩=>⟨ds,l,L,by rw[e],s1,q,lr,M,h1⟩;refine lV (k9 I hg hm boot_sorted (acx (kws:=[⟨some "key",.Attribute a m apos,kp⟩]) (ba (aV hl bG oX pos pins s σ H _ I hA) λus s1 z1=>?_) he hpl));obtain⟨vs,g,I1,r1,q1⟩:=z1;obtain⟨ds,l,L,e1,s01,q,lr,M,h1⟩:=q1;subst e1;cases r1 with
 |cons r rr=>
  cases rr;cases r;have hB:LZ (G.cm c) m (G.fm t) (ap G Ew Ea) σ g (λv H2=>∃(q n dx:af) (fs:List D) (o:D) (H0:Hp),v=.ref q/\aG g H0/\H0 q=none/\H2=upd H0 q (.met (G.fm t) n)/\Rep G P H0 (.ins c fs) (.ref n)/\o=D.ins c fs/\ps.length=2/\RV G P σ H0 ρ/\eY G Ew P H0 (match my F (.ins c fs) ds with|some ks=>.ok (.lst (tP ks ds))|none=>.bad) Q/\dx=dx):=by
   refine(step M h1).imp λv H0 z1=>?_;obtain⟨o,s2,ro,D3,b⟩:=z1;cases o with
   |ins c' fs=>
    dsimp only at b;split at b;·rename_i hc;obtain⟨rfl,hn⟩:=hc;obtain⟨n,dx,vs,e,q,z,n',l'⟩:=id ro;subst e;exact⟨n,dx,_,rfl,q,no _,λp hp=>⟨p,n,dx,fs,_,H0,rfl,s2,hp,rfl,ro,rfl,hn,D3,b,rfl⟩⟩
    ·exact b.elim|_=>exact b.elim
  refine kws_cons (fw (Y7 ho cl mt hb pins s1 σ g _ I1 hB) (λkv s2 z=>kws_nil ?_) λ_ _ z=>z);obtain⟨x,H2,I2,rx,U,n,_,fs,o,H0,ex,L3,Za,Zb,ro,eo,hn,N,b,_⟩:=z;subst ex;obtain rfl:kv=d9 U:=rx;subst Zb;have sq:aG H0 (upd H0 U (.met (G.fm t) n)):=cY Za;cases hk:my F (.ins c fs) ds with
  |none=>rw[hk]at b;exact b.elim
  |some ks=>
   rw[hk]at b;dsimp only at b;obtain⟨kl,Zc⟩:=L0 hk;have q2:Rd (upd H0 U (.met (G.fm t) n)) l (.lst L):=qe sq (qe L3 q);obtain⟨z2,its,n2,d,e2⟩:=q2.ok I2.a9;have O:aU G P H0 ds L:=lr.keep L3;have hlen:its.length=ds.length:=by rw[<-d.length];exact O.length.symm
   have zC:=N.keep sq;refine WZ (fv:=.ref U) (vs:=its) (Rr:=λout W=>aG (upd H0 U (.met (G.fm t) n)) W/\out=(sortI (λi=>ks.getD i 0) (bU its.length)).map λi=>its.getD i .none) I2 ⟨_,e2,rfl,_,rfl⟩ (by rw[<-d.length];exact z2) (λx=>ksk_t1 _ _) (λi kv Hi=>aG (upd H0 U (.met (G.fm t) n)) Hi/\kj kv (ks.take i)) ⟨aG.refl _,.nil⟩ ?turn ?nw ?jC ?val ?fin;case turn=>
    rintro i v kv Hi S si hv hki ⟨sI,hI⟩ Ii;have J:i<its.length:=(gg.mp hv).1;have L4:i<ds.length:=by rw[<-hlen];exact J
    obtain⟨w0,Zd,Ze⟩:=O.get (cI L4);obtain⟨u,hu,ru⟩:=d.get Zd;rw[hv]at hu;cases hu;obtain⟨k0,yQ,hF⟩:=Zc i _ (cI L4);have T:aG H0 Hi:=sq.trans sI;refine fw (Y8 (A:=X.A.in1.in1) (Q:=λx H'=>x=.int k0/\aG Hi H') (vs:=[w0]) (us:=[v]) ok (hr.in1.in1) Ii.CH.in1.in1 bd Ii (sI _ _ aW) (.cons ru .nil) ?_) (λkv2 s3 z=>?_) λ_ _ z=>z;·refine⟨P,[.ins c fs,ds[i]],⟨_,_,rfl,ro.keep T,_,_,rfl,Ze.keep T,rfl⟩,(N.keep T).bI,by simp[hn],?_⟩;rw[hF];exactλx H' s r=>⟨r,s⟩
    ·obtain⟨x,H4,I4,rx,ex,s4⟩:=z;subst ex;obtain⟨tk,rfl⟩:=rx;refine⟨H4,I4,sI.trans s4,?_⟩;have:ks.take (i+1)=ks.take i++[k0]:=by rw[GZ,yQ];rfl
     rw[this];exact intsAre_of (by rw[lZ];exact(JB hI).append (.cons ⟨tk,rfl⟩ .nil))
   case nw=>
    rintro kv W S sj ⟨Y,Z⟩ lC Ij vK;have Zf:ks.take its.length=ks:=mJ (by omega);rw[Zf]at Z;refine⟨λQ hQ=>Ry (ksk_kind (keys:=kv.toArray) (kz:=ks) (by omega) (by simp;omega)) hQ,?_⟩;refine wpS_mono (zw (rk:=λi=>ks.getD i 0) lC vK ?_) ?_
    ·intro i j x y Q E hx hy hQ;rw[keyLt'_oneType];have J:i<ks.length:=by rw[<-Z.length];exact(gg.mp hx).1
     have hj:j<ks.length:=by rw[<-Z.length];exact(gg.mp hy).1
     obtain⟨t1,e1⟩:=HT.zx Z J;obtain⟨t2,e2⟩:=HT.zx Z hj;rw[hx]at e1;rw[hy]at e2;cases e1;cases e2;refine oneLt_int ?_;simpa[jf,J,hj]using hQ
    ·rintro _ LO ⟨hf,ha⟩;exact⟨hf,_,ha,by rw[bZ,(sortI_perm _ _).length_eq,Bk],Y,rfl⟩
   case jC=>rintro kv W ⟨Y,Z⟩ f6;refine⟨Y,?_⟩;match its,f6 with|[],_=>rfl|[v],_=>rfl
   case val=>rintro out W ⟨_,rfl⟩;exact⟨_,Eg d _ λi J=>kJ i J⟩
   case fin=>rintro D0 out ys W s' ⟨Y,eo⟩ hv YE hD I5;subst eo;have D7:ys=(sortI (λi=>ks.getD i 0) (bU its.length)).map λi=>L.getD i .ah:=Vals.inj hv (Eg d _ λi J=>kJ i J);subst D7;refine⟨.ref D0,_,I5,rfl,?_⟩;have sD:aG H0 (upd W D0 (.lst ((sortI (λi=>ks.getD i 0) (bU its.length)).map λi=>L.getD i .ah))):=(sq.trans Y).trans (cY hD);refine b _ _ sD ⟨D0,_,rfl,.inl aW,λz=>N.bI D0 z ((sq.trans Y).free hD),?_⟩;delta tP;rw[<-hlen];exact(L1 O _ λi J=>by rw[<-hlen];exact kJ i J).keep sD
end
end DL
end
namespace DL
open PySem PySem.Spec PyProof.Rows L2
section
variable{X:Cx}{G:Gx}{Ew:Nat->Hp->Prop}{P:af->Prop}{σ:L2.St}{H H':Hp}{ρ:DL.Env}{Q:VK}{e a b c tg iter:bp}{es elts:List bp}{kk:Nat}{pos pos' p p2 mw oA kp cp:cj}{Ea Eb Ec:DL.Env->R D}{La Lb:DL.Env->R (List D)}{Ca:DL.Env->R Bool}{x:ag}
abbrev qx(La:DL.Env->R (List D)):DL.Env->R D:=λρ=>(La ρ).bind λds=>.ok (.lst ds.reverse)
def aU.reverse:∀{ds:List D}{vs:List V},aU G P H ds vs->aU G P H ds.reverse vs.reverse|[],_,h=>by subst h;rfl|d::ds,_,⟨v,r,e,h,l⟩=>by subst e;rw[xx,xx];exact(aU.reverse l).app (aU.one h)
def Zg(k:X.mg "list"=none)(g:X.mg "reversed"=none)(m:PE X e (cD G Ew La))(n: ~~~(X.calm=true)) (o: ~~~(Gl X "list")) (i: ~~~(Gl X "reversed")) (r: ~~~(aB [.Call (.Name "reversed" p2) [e] [] mw] X.env=(false,aP (.Call (.Name "reversed" p2) [e] [] mw) X.env)::aB [] X.env)) (hpl: ~~~((bF pos (aB [] X.env)).any (·.1)=false)) (d: ~~~(aB [e] X.env=(false,aP e X.env)::aB [] X.env)) (f: ~~~((bF mw (aB [] X.env)).any (·.1)=false)):PE X (.Call (.Name "list" p) [.Call (.Name "reversed" p2) [e] [] mw] [] pos) (ap G Ew (qx La)):=cr (Yf n o k i g (aV m bG d) r hpl d f) λσ H Q h=>by obtain⟨P,ρ,s,h⟩:=h;delta LH eW;refine(jx s h).imp λv w z1=>?_;obtain⟨ds,a,vs,e,y,q,l,j,t⟩:=z1;subst e;exact⟨a,vs,rfl,.inl q,λz u=>vq j l.reverse t u⟩
def Zh{a:af}(q:cS G.K H a vs)(l:aU G P H ds vs):oN G P (DZ G.K a) H (kK 1 ds)where
 turn:=λu H' k j i d m=>by obtain⟨w,f,rfl⟩:=LW m;obtain⟨v,e,r⟩:=l.get f;have g:=k.qd q;refine⟨⟨vs,v,g,e⟩,λx n z1=>?_⟩;obtain⟨T,y,o,h,s,t⟩:=z1;subst o s;have:=t vs g;rw[e]at this;cases this;exact⟨cY h,T,_,rfl,.inl (.inl aW),_,_,rfl,rfl,_,_,rfl,(r.mono k j).keep (cY h),rfl⟩
 stop:=λH' k=>⟨vs,k.qd q,by rw[LX];exact lU l.length.symm⟩
abbrev vW(La:DL.Env->R (List D)):DL.Env->R (List D):=λρ=>(La ρ).bind λds=>.ok (kK 1 ds)
def Zi{j}(i:X.mg "enumerate"=none)(k:PE X e (ap G Ew Ea))(m: ~~~(Gl X "enumerate")) (n: ~~~(aB [e] X.env=(false,aP e X.env)::aB [] X.env)) (he: ~~~(bF pos (aB [e] X.env)=(false,aP e X.env)::bF pos (aB [] X.env))) (hpl: ~~~((bF pos (aB [e] X.env)).any (·.1)=false)) (g: ~~~(X.K=G.K)):PI X (.Tuple elts kk oA) (.Call (.Name "enumerate" p) [e] [⟨some "start",.Constant (.int 1) j cp,kp⟩] pos) (tI G Ew (vW (kE Ea))):=qi (XC m i (aV k bG n) he hpl) λσ H R h=>by obtain⟨P,ρ,o,h⟩:=h;refine⟨P,ρ,o,?_⟩;delta vW kE at h;delta eY;cases f:Ea ρ with|bad=>rw[f]at h;exact h|exc c=>rw[f]at h;exact h|ok d=>rw[f,ai]at h;intro v H' s r;cases d with|tup ds=>obtain⟨a,vs,e,q,l⟩:=r;exact⟨a,vs,by rw[e],by rw[g];exact q,by rw[g];exact h _ _ s (Zh q l)⟩|_=>exact h.elim
abbrev mz:List D->List D->List D->List D|x::xs,y::d,z::f=>.tup [x,y,z]::mz xs d f|_,_,_=>[]
def L5:∀{xs f g:List D}{i:Nat}{d:D},xs.length<=f.length->f.length=g.length->(mz xs f g)[i]?=some d->∃x y z,xs[i]?=some x/\f[i]?=some y/\g[i]?=some z/\d=.tup [x,y,z]
 |[],_,_,_,_,_,_,h=>by simp[mz]at h|x::xs,[],_,_,_,j,_,_=>by simp at j|x::xs,y::f,[],_,_,_,k,_=>by simp at k|x::xs,y::f,z::g,0,d,_,_,h=>by simp[mz]at h;exact⟨x,y,z,rfl,rfl,rfl,h.symm⟩
 |x::xs,y::f,z::g,i+1,d,j,k,h=>by
  simp only[mz,List.getElem?_cons_succ]at h⊢
  exact L5 (by simpa using j) (by simpa using k) h
def L6:∀{xs d f:List D},xs.length<=d.length->d.length=f.length->(mz xs d f).length=xs.length|[],_,_,_,_=>by simp[mz]|x::xs,[],_,g,_=>by simp at g|x::xs,y::d,[],_,h=>by simp at h|x::xs,y::d,z::f,g,h=>by simp only[mz,jj];rw[L6 (by simpa using g) (by simpa using h)]
def Zj{a b c:af}(q:Rd H a (.lst vs))(n:¬P a)(l:aU G P H xs vs)(I:cS G.K H b us)(J:aU G P H g us)(L:cS G.K H c h)(M:aU G P H o h)(r:xs.length<=g.length)(s:g.length=o.length):oN G P (D2 G.K a b c) H (mz xs g o)where
 turn:=λP' H' k j i d N=>by obtain⟨x,y,z,ex,O,S,rfl⟩:=L5 r s N;obtain⟨v,t,U⟩:=l.get ex;obtain⟨u,A,W⟩:=J.get O;obtain⟨w,B,m⟩:=M.get S;have C:dG G.K H' a vs:=.inl (k.rd n q);have E:=k.qd I;have F:=k.qd L;refine⟨⟨vs,us,h,v,u,w,C,E,F,t,A,B⟩,λx' Y z1=>?_⟩;obtain⟨T,v',u',w',Z,f,e2,y1,y2,y3⟩:=z1;subst Z e2;have b1:=y1 vs C;have b2:=y2 us E;have b3:=y3 h F;rw[t]at b1;rw[A]at b2;rw[B]at b3;cases b1;cases b2;cases b3;exact⟨cY f,T,_,rfl,.inl (.inl aW),_,_,rfl,(U.mono k j).keep (cY f),_,_,rfl,(W.mono k j).keep (cY f),_,_,rfl,(m.mono k j).keep (cY f),rfl⟩
 stop:=λH' k=>⟨vs,.inl (k.rd n q),by rw[L6 r s];exact lU l.length.symm⟩
abbrev Eh(ds:List D):R (List D):=match ds with|[.lst xs,.tup d,.tup f]=>if xs.length<=d.length/\d.length=f.length then .ok (mz xs d f)else .bad|_=>.bad
abbrev vX(d:DL.Env->R (List D)):DL.Env->R (List D):=λρ=>(d ρ).bind Eh
def Zk(o:X.mg "zip"=none)(q:PA X [a,b,c] (cM G Ew La))(t: ~~~(Gl X "zip")) (u: ~~~(aB [a,b,c] X.env=(false,aP a X.env)::aB [b,c] X.env)) (hpl: ~~~((bF pos (aB [b,c] X.env)).any (·.1)=false)) (d: ~~~(X.K=G.K)):PI X (.Tuple elts kk oA) (.Call (.Name "zip" p) [a,b,c] [] pos) (tI G Ew (vX La)):=qi (X8 t o q u hpl) λσ H R h=>by
 obtain⟨P,ρ,w,h⟩:=h;refine⟨P,ρ,w,?_⟩;delta vX at h;cases f:La ρ with
 |bad=>rw[f]at h;exact h|exc c=>rw[f]at h;exact h
 |ok ds=>
  rw[f,ai]at h;intro vs H' s r;delta Eh at h;split at h
  ·obtain⟨v,O,e,⟨y,v1,z,j,A,B⟩,v2,S,C,⟨E,F,g,k,I⟩,v3,T,J,⟨L,M,i,m,N⟩,l⟩:=r;subst l;subst i g z J C e;split at h;·rename_i n;exact⟨y,E,L,_,_,_,rfl,.inl j,by rw[d];exact k,by rw[d];exact m,by rw[d];exact h _ _ s (Zj j A B k I m N n.1 n.2)⟩
   ·exact h.elim
  ·exact h.elim
end
abbrev be(n:Nat)(ds:List D):DL.Env:=ds.map Slot.val++jn (n-ds.length) .ah
abbrev aK(n:Nat)(S:DL.Env->R Out)(ds:List D):R D:=match S (be n ds)with|.ok (.rt d)=>.ok d|.ok (.nx _)=>.ok .ah|.exc c=>.exc c|_=>.bad
abbrev tQ(n c:Nat)(ds:List D):DL.Env:=.dv c []::(ds.map Slot.val++jn (n-(ds.length+1)) .ah)
abbrev iv(n c m:Nat)(S:DL.Env->R Out)(ds:List D):R (List D):=match S (tQ n c ds)with|.ok (.nx a)=>(match a[0]?with|some (Slot.dv c' fs)=>if c'=c/\fs.length=m then .ok fs else .bad|_=>.bad)|_=>.bad
section
variable{G:Gx}{O:af->Prop}{H H':Hp}
def vY(l:aU G O H ds vs){i:Nat}(a:(ds.map Slot.val++jn m .ah)[i]?=some s)(b:(vs.map some++jn m none)[i]?=some d):oI G O H s d/\s.owned=false:=by
 have g:=l.length;by_cases c:i<ds.length;·rw[AX (by simp_all),jp]at a;rw[AX (by simp_all),jp]at b;obtain⟨v,e,r⟩:=l.get (cI c);rw[cI c]at a;rw[e]at b;cases a;cases b;exact⟨⟨v,rfl,r⟩,rfl⟩
 ·rw[RG (by simp_all),List.getElem?_replicate]at a;split at a;·cases a;exact⟨trivial,rfl⟩
  ·contradiction
def Zl(l:aU G O H ds vs)(g:∀a,O a->H a≠none):RS G O (λ_=>False) (L2.start N vs) H (be N.length ds):=by
 have h:=l.length;have m:aU G (λa=>O a\/False) H ds vs:=l.mono (Kp.of (aG.refl _)) λa z=>.inl (z.elim id mO);haveI e:L2.start N vs=vs.map some++jn (N.length-ds.length) none:=by delta L2.start;rw[h]
 rw[e];delta be;refine⟨⟨by simp[h],λi s c b d=>(vY m b d).1,λa z=>g a (z.elim id mO)⟩,λa z=>z.elim,λi s b o=>?_,λi j s t a b _ p _ _ _=>?_,λi s a b o _=>?_⟩
 ·have:∃c,(vs.map some++jn (N.length-ds.length) none)[i]?=some c:=by have n:=(gg.mp b).1;exact⟨_,cI (by simp_all)⟩
  obtain⟨c,d⟩:=this;rw[(vY m b d).2]at o;cases o
 ·have:∃c,(vs.map some++jn (N.length-ds.length) none)[i]?=some c:=by have n:=(gg.mp b).1;exact⟨_,cI (by simp[h]at n⊢;exact n)⟩
  obtain⟨c,d⟩:=this;rw[(vY m b d).2]at p;cases p
 ·cases s<;>first|exact bw o bE|grind
def Ei(h:Ext (λ_=>False) H a H'):aG H H':=λb o e=>h.1 b o e (.inl λz=>z)
end
section
variable{P:bA}{w:bB}{G:Gx}{mg:ag->Option aj}{base:aZ}{x qual:ag}{st:dm}{f:af}{fd:eQ}{N ps:List ag}{k:Nat}{S:DL.Env->R Out}
@[reducible]def oY(G:Gx)(E:XK):Nat->Hp->Prop:=λc H=>E (G.xv c) none H
def L7(h:gx G n (aK N.length S) vs H Q E):sOf G (oY G E) S {nx:=λ_ H'=>Q .ah H',rt:=Q} (L2.start N vs) H:=by obtain⟨O,ds,l,b,j,h⟩:=h;refine⟨O,_,_,Zl l b,?_⟩;delta aK at h;cases e:S _ with|bad=>rw[e]at h;exact h|exc c=>rw[e]at h;exactλg H' ex=>h H' (Ei ex)|ok o=>rw[e]at h;cases o with|nx a=>exactλg i H' ex m=>h .ah H' (Ei ex) rfl|rt d=>exactλv g H' ex r=>h v H' (Ei ex) r|bk a=>exact h.elim|ct a=>exact h.elim
def L8(F:cU G.K x qual st f fd)(c:du N ps (bx st))(b:∀(a:aj)(A:cG)(outer:List n6)(s:ar)(H:Hp)(E:XK),bO k (A.deeper (gY qual (bx st) s.heap.objs.size f a))->df (hV aS P w G.K mg base N qual (bx st) f a A outer s H E).kB (g7 st) (sOf G (oY G E) S)):bS P w G.K mg base aS (k+1) f fd ps (gx G ps.length (aK N.length S)):=F.ok c (λvs H Q E z1=>by obtain⟨O,ds,l,_,d,_⟩:=z1;rw[<-l.length];exact d) λa A outer s H vs Q E e h=>⟨_,b a A outer s H E e,L7 h⟩
def Zm(F:cU G.K x qual st f fd)(d:du N ps (bx st))(b:∀(a:aj)(A:cG)(outer:List n6)(s:ar)(H:Hp)(E:XK),bO k (A.deeper (gY qual (bx st) s.heap.objs.size f a))->df (hV (bH P w) P w G.K mg base N qual (bx st) f a A outer s H E) (g7 st) (sOf G (oY G E) S)):bS P w G.K mg base (bH P w) (k+1) f fd ps (gx G ps.length (aK N.length S)):=by obtain⟨m,n,kV,e,o,p,a,ct,g,rfl,lk,c⟩:=F.ex;exact yH lk c d (λvs H Q E ⟨O,ds,l,_,i,_⟩=>by rw[<-l.length];exact i) λA outer s H vs Q E j h=>⟨_,b a A outer s H E j,L7 h⟩
abbrev Gx.at(G:Gx)(x:af):Gx:={G with me:=λa=>a=x}
mutual
theorem Ej{G:Gx}{x:af}{O:af->Prop}{H:Hp}:∀{d:D}{v:V},Rep (G.at x) O H d v↔Rep G O H d v|.ah,_=>rV|.bl _,_=>rV|.int _,_=>rV|.str _,_=>rV|.fn _,_=>rV|.lst ds,_=>⟨λ⟨a,vs,e,r,n,l⟩=>⟨a,vs,e,r,n,iw.mp l⟩,λ⟨a,vs,e,r,n,l⟩=>⟨a,vs,e,r,n,iw.mpr l⟩⟩|.tup ds,_=>⟨λ⟨a,vs,e,r,l⟩=>⟨a,vs,e,r,iw.mp l⟩,λ⟨a,vs,e,r,l⟩=>⟨a,vs,e,r,iw.mpr l⟩⟩|.ins c ds,_=>⟨λ⟨a,dx,vs,e,r,z,n,l⟩=>⟨a,dx,vs,e,r,z,n,iw.mp l⟩,λ⟨a,dx,vs,e,r,z,n,l⟩=>⟨a,dx,vs,e,r,z,n,iw.mpr l⟩⟩|.dk ks ds,_=>⟨λ⟨a,vs,e,r,z,n,l⟩=>⟨a,vs,e,r,z,n,iw.mp l⟩,λ⟨a,vs,e,r,z,n,l⟩=>⟨a,vs,e,r,z,n,iw.mpr l⟩⟩|.dt ks ds,_=>⟨λ⟨a,vs,e,r,z,n,l⟩=>⟨a,vs,e,r,z,n,iw.mp l⟩,λ⟨a,vs,e,r,z,n,l⟩=>⟨a,vs,e,r,z,n,iw.mpr l⟩⟩|.tk _,_=>rV|.adr _,_=>rV
theorem iw{G:Gx}{x:af}{O:af->Prop}{H:Hp}:∀{ds:List D}{vs:List V},aU (G.at x) O H ds vs↔aU G O H ds vs|[],_=>rV|_::_,_=>⟨λ⟨v,r,e,h,l⟩=>⟨v,r,e,Ej.mp h,iw.mp l⟩,λ⟨v,r,e,h,l⟩=>⟨v,r,e,Ej.mpr h,iw.mpr l⟩⟩end
def Zn{x:af}(h:gx (G.at x) n F vs H Q E):gx G n F vs H Q E:=by obtain⟨O,ds,l,a,e,h⟩:=h;refine⟨O,ds,iw.mp l,a,e,?_⟩;cases b:F ds with|bad=>rw[b]at h;exact h|exc c=>rw[b]at h;exact h|ok d=>rw[b]at h;exactλv H' s r=>h v H' s (Ej.mpr r)
def Zo{x:af}(h:oM (G.at x) c n F vs H Q E):oM G c n F vs H Q E:=by obtain⟨O,ds,y,dx,i,e,j,m,l,a,o,h⟩:=h;refine⟨O,ds,y,dx,i,e,j,m,iw.mp l,a,o,?_⟩;cases b:F ds with|bad=>rw[b]at h;exact h|exc c=>rw[b]at h;exact h|ok d=>rw[b]at h;exactλv H' us g p e z r k=>h v H' us g p e z (iw.mpr r) k
def bh.at(B:bh P w mg base G a t name k ps F)(x:af):bh P w mg base (G.at x) a t name k ps F:=by obtain⟨⟨fd,b,c⟩,d,e⟩:=B;exact⟨⟨fd,b.imp λvs H Q E h=>Zn h,c⟩,d,e⟩
def gN.at(B:gN P w mg base G a c t name k ps n F)(x:af):gN P w mg base (G.at x) a c t name k ps n F:=by obtain⟨⟨fd,b,d⟩,e,g⟩:=B;exact⟨⟨fd,b.imp λvs H Q E h=>Zo h,d⟩,e,g⟩
def Zp(F:cU G.K x qual st f fd)(Sc:du N ps (bx st))(hm:(G.eh c).length=m)(hps:0<ps.length)(C:∀(y:af)(n:aj)(A:cG)(outer:List n6)(s:ar)(H:Hp)(E:XK),bO k (A.deeper (gY qual (bx st) s.heap.objs.size f n))->df (hV aS P w G.K mg base N qual (bx st) f n A outer s H E).kB (g7 st) (sOf (G.at y) (λ_ _=>False) S)):bS P w G.K mg base aS (k+1) f fd ps (oM G c (ps.length-1) (iv N.length c m S)):=by
 refine F.ok Sc (λvs H Q E z1=>by obtain⟨O,ds,x,dx,u,e,_,_,l,_,Z,_⟩:=z1;rw[e,jj,<-l.length,Z];lia) λn A outer s H vs Q E hr h=>?_;obtain⟨O,ds,x,dx,u,e,hx,ox,l,I,Z,h⟩:=h;refine⟨_,C x n A outer s H E hr,?_⟩;subst e;have J:=l.length;let L:af->Prop:=λa=>O a/\a≠x;have l':aU (G.at x) (λa=>L a\/a=x) H ds u:=iw.mpr (l.mono (Kp.of (aG.refl _)) λa z=>.inl (z.elim (λq=>q.1) λq=>by rw[q];exact ox));have M:L2.start N (.ref x::u)=some (.ref x)::(u.map some++jn (N.length-(ds.length+1)) none):=by delta L2.start;rw[gv,jj,J];rfl
 have T:∀(i:Nat) (s:Slot),(Slot.dv c []::(ds.map Slot.val++jn (N.length-(ds.length+1)) Slot.ah))[i]?=some s->s.owned=true->i=0:=λi s g o=>by cases i with|zero=>rfl|succ i=>haveI hi:=(gg.mp g).1;have:∃U,(u.map some++jn (N.length-(ds.length+1)) (none:Option V))[i]?=some U:=⟨_,cI (by simp[J]at hi⊢;exact hi)⟩;obtain⟨U,r⟩:=this;rw[(vY l' (by simpa using g) r).2]at o;cases o
 have rs:RS (G.at x) L (λa=>a=x) (L2.start N (.ref x::u)) H (tQ N.length c ds):=by
  rw[M];delta tQ;refine⟨⟨by simp[J],λi s U g r=>?_,λa z=>z.elim (λq=>I a q.1) λq=>by rw[q,hx];simp⟩,λa z q=>q.2 z,λi s g o=>?_,λi j s t a g r o1 o2 _ _=>?_,λi s a g o q=>?_⟩;·cases i with|zero=>simp at g r;subst g r;exact⟨x,dx,[],rfl,.inr rfl,by rw[hx,List.zip_nil_right];rfl,fK _,rfl⟩|succ i=>exact(vY l' (by assumption) (by simpa using r)).1
  ·grind
  ·rw[T i s g o1,T j t r o2]
  ·rw[T i s g (by cases s<;>first|rfl|assumption)]at q;cases q;exact rfl
 refine⟨L,_,_,rs,?_⟩;delta iv at h;cases W:S (tQ N.length c ds)with
 |bad=>rw[W]at h;exact h|exc c=>rw[W]at h;exact h.elim
 |ok o=>
  rw[W]at h;cases o with
  |nx v=>
   dsimp only at h;intro W' et H' ex B;split at h
   ·rename_i c' fs e0;split at h;·rename_i hc;obtain⟨rfl,X⟩:=hc;obtain⟨a,Y,us,g,p,q,z,lf⟩:=B.rv.dv e0;obtain rfl:a=x:=B.me 0 _ a e0 rfl g;refine h .ah H' us Y rfl q (by rw[hm,<-lf.length,X]) ((iw.mp lf).mono (Kp.of (aG.refl _)) λb ob=>?_) λb o e ne=>ex.1 b o e (.inl ne);lia
    ·exact h.elim
   ·exact h.elim|rt d=>exact h.elim|bk v=>exact h.elim|ct v=>exact h.elim
end
structure i1(G:Gx)(c:Nat)(ns:List ag):Prop where
 nm:G.eh c=ns
 nd:ns.Nodup
 jC:ns.length<1000
 cl:Cls G.K (G.cm c)
 na:∀f∈ns,iU G.K (G.cm c) f
def i1.at(h:i1 G c ns)(x:af):i1 (G.at x) c ns:=⟨h.nm,h.nd,h.jC,h.cl,h.na⟩
section
variable{X:Cx}{G:Gx}{Ew:Nat->Hp->Prop}{e a b c:bp}{pos pos' p apos:cj}{Ea Eb:DL.Env->R D}{x f:ag}{k:Nat}{ns:List ag}
def aI(j:Nat)(h:i1 G k ns)(he:PE X e (ap G Ew Ea))(d: ~~~(ns[j]?=some f)) (g: ~~~(jl e f X.env (aP e X.env)=aP e X.env)) (i: ~~~(X.K=G.K)):PE X (.Attribute e f pos) (ap G Ew (ao k j Ea)):=WB k j (by rw[h.nm];exact h.nd) (by rw[h.nm];exact d) h.cl (h.na f (fY d)) he g i
def ib(i j:Nat)(h:i1 G k ns)(g: ~~~(ns[j]?=some f)) (o: ~~~(X.N[i]?=some x)) (q:fP X.env.scope x:=by first|exact cy rfl|exact bM (cy rfl)|exact bM (bM rfl)) (r:((x==("__debug__":ag))=false)⁻¹) (d:((x==("__classdict__":ag))=false)⁻¹) (s: ~~~(jl (.Name x p) f X.env (aP (.Name x p) X.env)=aP (.Name x p) X.env)) (u: ~~~(X.K=G.K)):PE X (.Attribute (.Name x p) f pos) (ap G Ew (dw i k j)):=WC i k j (by rw[h.nm];exact h.nd) (by rw[h.nm];exact g) h.cl (h.na f (fY g)) o q r d s u
def cQ(i j:Nat)(h:i1 G k ns)(he:PE X e (ap G Ew Ea))(g: ~~~(ns[j]?=some f)) (o: ~~~(X.N[i]?=some x)) (q:fP X.env.scope x:=by first|exact cy rfl|exact bM (cy rfl)|exact bM (bM rfl)) (r:((x==("__debug__":ag))=false)⁻¹) (d:((x==("__classdict__":ag))=false)⁻¹) (s: ~~~(fJ e (some (.Attribute (.Name x pos') f apos)) pos.line X.env=pure false)) (u: ~~~(X.K=G.K)):PS X (.Assign [.Attribute (.Name x pos') f apos] e pos) (sOf G Ew (cx i k j Ea)):=YH i k j (by rw[h.nm];exact h.nd) (by rw[h.nm];exact g) (by rw[h.nm];exact h.jC) h.cl (h.na f (fY g)) he o q r d s u
abbrev tS(g:List (Nat×Nat))(Ea:DL.Env->R D):DL.Env->R D:=λh=>(Ea h).bind λo=>match o with|.ins c fs=>(match g.lookup c with|some j=>(match fs[j]?with|some d=>.ok d|none=>.bad)|none=>.bad)|_=>.bad
def L9(i:List (Nat×Nat))(h:∀c j,i.lookup c=some j->∃ns,i1 G c ns/\ns[j]?=some f)(he:PE X e (ap G Ew Ea))(y: ~~~(jl e f X.env (aP e X.env)=aP e X.env)) (B: ~~~(X.K=G.K)):PE X (.Attribute e f pos) (ap G Ew (tS i Ea)):=cr (yF he y) λσ H Q s=>by
 rw[B];obtain⟨P,O,C,s⟩:=s;refine(step C s).imp λv S z1=>?_;obtain⟨o,T,E,I,g⟩:=z1;cases o with
 |ins c fs=>
  dsimp only at g;split at g
  ·rename_i j J;obtain⟨ns,r,hf⟩:=h c j J;obtain⟨a,dx,vs,e,q,z,U,l⟩:=E;split at g;·rename_i d L;obtain⟨u,M,N⟩:=l.get L;rw[r.nm]at q;exact⟨a,_,dx,_,u,e,q,r.cl,r.na f (fY hf),y0 r.nd hf M,g _ _ (aG.refl _) N⟩
   ·exact g.elim
  ·exact g.elim|_=>exact g.elim
end
section
variable{X:Cx}{G:Gx}{Ew:Nat->Hp->Prop}{P:bA}{w:bB}{mg:ag->Option aj}{base:aZ}{A:cG}{e a b:bp}{es:List bp}{pos p apos kp:cj}{Ea Eb:DL.Env->R D}{La Lb:DL.Env->R (List D)}{CX:hU}{t k l c n:Nat}{name m x:ag}{ps:List ag}{F:List D->R D}
def bb(B:bh P w mg base G CX t name k ps F)(i:bO l A)(j:Passes CX X (xk G Ew))(o:PA X (e::es) (cM G Ew La))(q:(k<=l)⁻¹) (r: ~~~(X.prog=P)) (s: ~~~(X.w=w)) (d: ~~~(X.mg=mg)) (g: ~~~(X.base=base)) (u: ~~~(X.A=A)) (v: ~~~(Gl X name)) (h:((name==("__debug__":ag))=false)⁻¹) (he: ~~~(aB (e::es) X.env=(false,aP e X.env)::aB es X.env)) (hpl: ~~~((bF pos (aB es X.env)).any (·.1)=false)) (y: ~~~(X.K=G.K)):PE X (.Call (.Name name p) (e::es) [] pos) (ap G Ew (az ps.length F La)):=by subst r s d g u;exact WG B (i.mono q) j o v h he hpl y
def Zq(B:bh P w mg base G CX t name k [] F)(i:bO l A)(j:Passes CX X (xk G Ew))(o:(k<=l)⁻¹) (q: ~~~(X.prog=P)) (r: ~~~(X.w=w)) (d: ~~~(X.mg=mg)) (g: ~~~(X.base=base)) (s: ~~~(X.A=A)) (u: ~~~(Gl X name)) (h:((name==("__debug__":ag))=false)⁻¹) (v: ~~~(X.K=G.K)):PE X (.Call (.Name name p) [] [] pos) (ap G Ew (az 0 F am)):=by subst q r d g s;exact WH B (i.mono o) j u h v
def i7(B:tE P w mg base G CX c t m k ps F)(o:bO l A)(q:Passes CX X (xk G Ew))(r:PE X a (ap G Ew Ea))(s:PA X (e::es) (cM G Ew La))(u:(k<=l)⁻¹) (v: ~~~(X.prog=P)) (y: ~~~(X.w=w)) (g: ~~~(X.mg=mg)) (h: ~~~(X.base=base)) (z: ~~~(X.A=A))
    (i: ~~~(aB (e::es) X.env=(false,aP e X.env)::aB es X.env)) (hpl: ~~~((bF pos (aB es X.env)).any (·.1)=false)) (C:aP (.Call (.Attribute a m apos) (e::es) [] pos) X.env=(do
     let j<-aP a X.env
     mN apos.atName let(f,d)<-jP [j] (pE j m H)
     pF pos f d (bF pos (aB (e::es) X.env)) (ii pos (ij [] X.env))):=by rfl) (E: ~~~(X.K=G.K)):PE X (.Call (.Attribute a m apos) (e::es) [] pos) (ap G Ew (dI c ps.length F Ea La)):=by subst v y g h z;exact WI B (o.mono u) q r s i hpl C E
def kL{F:List D->R (List D)}(B:gN P w mg base G aS c t name k ps n F)(i:bO l A)(j:PA X (e::es) (cM G Ew La))(o:(k+1<=l)⁻¹) (q: ~~~(X.prog=P)) (r: ~~~(X.w=w)) (d: ~~~(X.mg=mg)) (g: ~~~(X.base=base)) (s: ~~~(X.A=A)) (u: ~~~(Gl X name)) (h:((name==("__debug__":ag))=false)⁻¹) (he: ~~~(aB (e::es) X.env=(false,aP e X.env)::aB es X.env)) (hpl: ~~~((bF pos (aB es X.env)).any (·.1)=false)) (v: ~~~(X.K=G.K)):PE X (.Call (.Name name p) (e::es) [] pos) (ap G Ew (eI c n F La)):=by subst q r d g s;exact WJ B (i.mono o) j u h he hpl v
def Ma(i:mg "sorted"=none)(B:Ef P w mg base G c t m k ps F)(j:bO l A)(o:PE X e (cD G Ew La))(q:PE X a (ap G Ew Ea))(r:(k+2<=l)⁻¹) (s: ~~~(X.prog=P)) (u: ~~~(X.w=w)) (d: ~~~(X.mg=mg)) (g: ~~~(X.base=base)) (v: ~~~(X.A=A)) (y: ~~~(Gl X "sorted")) (h: ~~~(aB [e] X.env=(false,aP e X.env)::aB [] X.env)) (z: ~~~(jl a m X.env (aP a X.env)=aP a X.env)) (he: ~~~(bF pos (aB [e] X.env)=(false,aP e X.env)::bF pos (aB [] X.env))) (hpl: ~~~((bF pos (aB [e] X.env)).any (·.1)=false)) (C: ~~~(X.K=G.K)):PE X (.Call (.Name "sorted" p) [e] [⟨some "key",.Attribute a m apos,kp⟩] pos) (ap G Ew (qw c ps.length F La Ea)):=by subst s u d g v;exact Y9 i B (j.mono r) o q y h z he hpl C
def Zr(i:Nat)(B:Ed P w mg base G CX k n FV)(j:bO l A)(o:Passes CX X (xk G Ew))(q:PA X (e::es) (cM G Ew La))(r:(k<=l)⁻¹) (s: ~~~(X.prog=P)) (u: ~~~(X.w=w)) (d: ~~~(X.mg=mg)) (g: ~~~(X.base=base)) (v: ~~~(X.A=A)) (y: ~~~(X.N[i]?=some x)) (z:fP X.env.scope x:=by first|exact cy rfl|exact bM (cy rfl)|exact bM (bM rfl)) (C:((x==("__debug__":ag))=false)⁻¹) (h:((x==("__classdict__":ag))=false)⁻¹) (he: ~~~(aB (e::es) X.env=(false,aP e X.env)::aB es X.env)) (hpl: ~~~((bF pos (aB es X.env)).any (·.1)=false)) (E: ~~~(X.K=G.K)):PE X (.Call (.Name x p) (e::es) [] pos) (ap G Ew (oW i n FV La)):=by subst s u d g v;exact YY i B (j.mono r) o q y z C h he hpl E
end
def fF(h:Passes (bH P w) X E):Passes (bH P w) X (xk G (oY G E)):=λpins σ H s e d I ⟨a,cls,g,B,i,he,F,c,j,o⟩=>h pins σ H s e d I ⟨a,cls,g,B,i,he,F,by simp_all⟩
def Ek(h:ll N sc scope own=true)(i: ~~~(g=N)) (j: ~~~(d=sc)):ll g d scope own=true:=by simp_all
def Mb:∀(ns:List ag)(vs:List V){m:ag},m∉ns->(ns.zip vs).lookup m=none
 |[],_,_,_=>rfl|_::_,[],_,_=>rfl
 |n::ns,v::vs,m,h=>by
  have d:(m==n)=false:=by rw[xL];intro e;exact h (by rw[e];exact pG)
  rw[GI,mQ,d];exact Mb ns vs λz=>h (jk _ z)
def Zs(h:i1 G c ns)(d:m∉ns)(vs:List V):((G.eh c).zip vs).lookup m=none:=by rw[h.nm];exact Mb ns vs d
end DL
namespace FO
open PySem L2 DL
@[reducible]def lE:List (Nat×Nat):=[(0,5),(1,3),(3,4)]
abbrev El:DL.Env->R Out:=(aQ (f8 (ez (λi j=>decide (i<=j)) (λi j=>decide (i<=j)) (eC (.int 0)) (aa 0) (eC (.int (1114111)))) (ln (ez (λi j=>decide (i<=j)) (λi j=>decide (i<=j)) (eC (.int (55296))) (aa 0) (eC (.int (57343)))))))
abbrev jE:List D->R D:=aK 1 El
abbrev Mc:DL.Env->R Out:=(aQ (ez (λi j=>decide (i<=j)) (λi j=>decide (i<=j)) (eC (.int (44032))) (aa 0) (eC (.int (55203)))))
abbrev qy:List D->R D:=aK 1 Mc
abbrev Md:DL.Env->R Out:=(aQ (ez (λi j=>decide (i<=j)) (λi j=>decide (i<=j)) (eC (.int (4352))) (aa 0) (eC (.int (4370)))))
abbrev tU:List D->R D:=aK 1 Md
abbrev Me:DL.Env->R Out:=(aQ (ez (λi j=>decide (i<=j)) (λi j=>decide (i<=j)) (eC (.int (4449))) (aa 0) (eC (.int (4469)))))
abbrev qz:List D->R D:=aK 1 Me
abbrev Mf:DL.Env->R Out:=(aQ (ez (λi j=>decide (i<=j)) (λi j=>decide (i<=j)) (eC (.int (4520))) (aa 0) (eC (.int (4546)))))
abbrev vZ:List D->R D:=aK 1 Mf
abbrev Mg:DL.Env->R Out:=(au (bg 2 (dN (ac (dN (ac (eC (.int (44032))) (ac (eC (.int (55203))) am))) (ac (dN (ac (eC (.int (4352))) (ac (eC (.int (4370))) am))) (ac (dN (ac (eC (.int (4449))) (ac (eC (.int (4469))) am))) (ac (dN (ac (eC (.int (4520))) (ac (eC (.int (4546))) am))) am)))))) (aQ (eJ (λbs=>bs.any id) (eL (cw (kE (aa 2)) (jA 2 (e7 (a1 3) (e7 (a1 4) j0))) cZ (f8 (aM cT (λi j=>.bl (decide (i<=j))) (aa 0) (aa 4)) (aM cT (λi j=>.bl (decide (i<=j))) (aa 3) (aa 1))) [3,4])))))
abbrev v8:List D->R D:=aK 5 Mg
abbrev Mh:DL.Env->R Out:=(au (bg 1 (aM cT (λi j=>.int (i-j)) (aa 0) (eC (.int (44032))))) (au (bg 2 (aM kF (λi j=>.int (i/j)) (aM kF (λi j=>.int (i/j)) (aa 1) (eC (.int (28)))) (eC (.int (21))))) (au (bg 3 (aM (λi j=>decide (0<j)) (λi j=>.int (i%j)) (aM kF (λi j=>.int (i/j)) (aa 1) (eC (.int (28)))) (eC (.int (21))))) (au (bg 4 (aM (λi j=>decide (0<j)) (λi j=>.int (i%j)) (aa 1) (eC (.int (28))))) (au (gy 5 (ac (aM cT (λi j=>.int (i+j)) (eC (.int (4352))) (aa 2)) (ac (aM cT (λi j=>.int (i+j)) (eC (.int (4449))) (aa 3)) am))) (au (bf (cB (bC true (aa 4) (eC (.int 0)))) (eK 5 (aM cT (λi j=>.int (i+j)) (eC (.int (4519))) (aa 4))) bo) (gK 5)))))))
abbrev zF:List D->R D:=aK 6 Mh
abbrev Mi:DL.Env->R Out:=(au (bf (h8 (cB (az 1 tU (ac (aa 0) am))) (cB (az 1 qz (ac (aa 1) am)))) (aQ (aM cT (λi j=>.int (i+j)) (eC (.int (44032))) (aM nq (λi j=>.int (i*j)) (aM cT (λi j=>.int (i-j)) (aM cT (λi j=>.int (i+j)) (aM nq (λi j=>.int (i*j)) (aM cT (λi j=>.int (i-j)) (aa 0) (eC (.int (4352)))) (eC (.int (21)))) (aa 1)) (eC (.int (4449)))) (eC (.int (28)))))) bo) (au (bf (h8 (cB (az 1 qy (ac (aa 0) am))) (h8 (cB (bC false (aM (λi j=>decide (0<j)) (λi j=>.int (i%j)) (aM cT (λi j=>.int (i-j)) (aa 0) (eC (.int (44032)))) (eC (.int (28)))) (eC (.int 0)))) (cB (az 1 vZ (ac (aa 1) am))))) (aQ (aM cT (λi j=>.int (i-j)) (aM cT (λi j=>.int (i+j)) (aa 0) (aa 1)) (eC (.int (4519))))) bo) (aQ (eC .ah))))
abbrev v9:List D->R D:=aK 2 Mi
abbrev Mj:DL.Env->R Out:=(aQ (cw (qt (ac (eC (.int 0)) (ac (cE (aa 0)) (ac (aa 1) am)))) (a1 2) cZ (ei (eL (aa 0)) (cN (aa 2)) (cN (aM cT (λi j=>.int (i+j)) (aa 2) (aa 1)))) [2]))
abbrev kM:List D->R D:=aK 3 Mj
abbrev Zt:DL.Env->R Out:=(au (cx 0 0 0 (bc (aa 1) (eC (.int 0)))) (au (cx 0 0 1 (bc (aa 1) (eC (.int 1)))) (au (cx 0 0 2 (bc (aa 1) (eC (.int 2)))) (au (cx 0 0 3 (bc (aa 1) (eC (.int 3)))) (au (cx 0 0 4 (ei (eL (aa 2)) (cN (dw 0 0 2)) (cN (aM cT (λi j=>.int (i+j)) (dw 0 0 2) (dw 0 0 3))))) (cx 0 0 5 (de (ac (dw 0 0 0) (ac (dw 0 0 1) am)))))))))
abbrev zG:List D->R (List D):=iv 3 0 6 Zt
abbrev Zu:DL.Env->R Out:=(au (cx 0 1 0 (bc (aa 1) (eC (.int 0)))) (au (cx 0 1 1 (bc (aa 1) (eC (.int 1)))) (au (cx 0 1 2 (bc (aa 1) (eC (.int 2)))) (cx 0 1 3 (de (ac (dw 0 1 0) (ac (dw 0 1 1) am)))))))
abbrev zH:List D->R (List D):=iv 2 1 4 Zu
abbrev Zv:DL.Env->R Out:=(au (cx 0 2 0 (bc (aa 1) (eC (.int 0)))) (au (cx 0 2 1 (bc (aa 1) (eC (.int 1)))) (cx 0 2 2 (bc (aa 1) (eC (.int 2))))))
abbrev zI:List D->R (List D):=iv 2 2 3 Zv
abbrev Zw:DL.Env->R Out:=(au (cx 0 3 0 (bc (aa 1) (eC (.int 0)))) (au (cx 0 3 1 (bc (aa 1) (eC (.int 1)))) (au (cx 0 3 2 (bc (aa 1) (eC (.int 2)))) (au (cx 0 3 3 (ei (eL (aa 1)) (cN (eC (.int 3))) ir)) (cx 0 3 4 (dw 0 3 3))))))
abbrev zJ:List D->R (List D):=iv 2 3 5 Zw
abbrev Zx:DL.Env->R Out:=(au (cx 0 4 0 (bc (aa 1) (eC (.int 0)))) (au (cx 0 4 1 (bc (aa 1) (eC (.int 1)))) (cx 0 4 2 (bc (aa 1) (eC (.int 2))))))
abbrev qA:List D->R (List D):=iv 2 4 3 Zx
abbrev Ml:DL.Env->R Out:=(au (sU 2) (au (fq (eL (aa 0)) (a1 3) (bf (cB (bC false (ao 0 1 (aa 3)) (aa 1))) (qh 2 (ao 0 0 (aa 3)) (ao 0 4 (aa 3))) bo)) (gK 2)))
abbrev wb:List D->R D:=aK 4 Ml
abbrev Mm:DL.Env->R Out:=(au (sV 1) (au (fq (eL (aa 0)) (a1 2) (vz 1 (ac (ao 1 0 (aa 2)) (ac (ao 1 1 (aa 2)) am)) (ao 1 2 (aa 2)))) (gK 1)))
abbrev zK:List D->R D:=aK 3 Mm
abbrev Mn:DL.Env->R Out:=(au (sU 1) (au (fq (eL (aa 0)) (a1 2) (qh 1 (ao 1 1 (aa 2)) (eC (.bl true)))) (gK 1)))
abbrev zL:List D->R D:=aK 3 Mn
abbrev Mo:DL.Env->R Out:=(au (sV 2) (au (fq (eL (aa 0)) (a1 3) (vS 2 (qu (eL (ei (eL (ao 3 3 (aa 3))) ir (cN (ao 3 0 (aa 3)))))) (ei (eL (aa 1)) (cN (ao 3 1 (aa 3))) (cN (aM cT (λi j=>.int (i+j)) (ao 3 1 (aa 3)) (ao 3 2 (aa 3))))))) (gK 2)))
abbrev zM:List D->R D:=aK 4 Mo
abbrev Mp:DL.Env->R Out:=(au (cx 0 5 0 (zi (eL (bc (aa 1) (eC (.int 0)))))) (au (cx 0 5 1 (cw (eL (az 2 kM (ac (bc (aa 1) (eC (.int 1))) (ac (bc (eC (.tup (([1,4,3,3,6,3]:List Int).map .int))) (eC (.int 1))) am)))) (a1 2) cZ (eI 0 2 zG (ac (aa 2) (ac (dw 0 5 0) am))) [2])) (au (cx 0 5 2 (cw (eL (az 2 kM (ac (bc (aa 1) (eC (.int 2))) (ac (bc (eC (.tup (([1,4,3,3,6,3]:List Int).map .int))) (eC (.int 2))) am)))) (a1 2) cZ (eI 1 1 zH (ac (aa 2) am)) [2])) (au (cx 0 5 3 (cw (eL (az 2 kM (ac (bc (aa 1) (eC (.int 3))) (ac (bc (eC (.tup (([1,4,3,3,6,3]:List Int).map .int))) (eC (.int 3))) am)))) (a1 2) cZ (eI 2 1 zI (ac (aa 2) am)) [2])) (au (cx 0 5 4 (cw (eL (az 2 kM (ac (bc (aa 1) (eC (.int 4))) (ac (bc (eC (.tup (([1,4,3,3,6,3]:List Int).map .int))) (eC (.int 4))) am)))) (a1 2) cZ (eI 3 1 zJ (ac (aa 2) am)) [2])) (au (cx 0 5 5 (cw (eL (az 2 kM (ac (bc (aa 1) (eC (.int 5))) (ac (bc (eC (.tup (([1,4,3,3,6,3]:List Int).map .int))) (eC (.int 5))) am)))) (a1 2) cZ (eI 4 1 qA (ac (aa 2) am)) [2])) (au (cx 0 5 6 (az 2 wb (ac (dw 0 5 1) (ac (eC (.int (0))) am)))) (au (cx 0 5 7 (az 2 wb (ac (dw 0 5 1) (ac (eC (.int (1))) am)))) (au (cx 0 5 8 (az 1 zK (ac (dw 0 5 2) am))) (au (cx 0 5 9 (az 1 zL (ac (dw 0 5 2) am))) (cx 0 5 10 (az 2 zM (ac (dw 0 5 4) (ac (dw 0 5 5) am))))))))))))))
abbrev wc:List D->R (List D):=iv 3 5 11 Mp
abbrev Zy:DL.Env->R Out:=(aQ (eI 5 1 wc (ac (cw (kE (eC (.tup (([1,4,3,3,6,3]:List Int).map .int)))) (a1 0) cZ (de am) [0]) am)))
abbrev Em:List D->R D:=aK 1 Zy
abbrev Mq:DL.Env->R Out:=(bf (eZ (cB (ez (λi j=>decide (i<=j)) (λi j=>decide (i<=j)) (eC (.int 0)) (aa 0) (eC (.int 3))))) (ia 0) bo)
abbrev qB:List D->R D:=aK 1 Mq
abbrev Mr:DL.Env->R Out:=(bf (cB (ml true (aa 0) (dN (ac (eC (.int 0)) (ac (eC (.int 2)) am))))) (ia 0) bo)
abbrev En:List D->R D:=aK 1 Mr
abbrev Ms:DL.Env->R Out:=(bf (eZ (cB (ez (λi j=>decide (i<=j)) (λi j=>decide (i<=j)) (eC (.int 1)) (aa 0) (eC (.int 3))))) (ia 0) bo)
abbrev qC:List D->R D:=aK 1 Ms
abbrev Mt:DL.Env->R Out:=(bf (cB (ml true (aa 0) (dN (ac (eC (.int 0)) (ac (eC (.int 1)) am))))) (ia 0) bo)
abbrev wd:List D->R D:=aK 1 Mt
abbrev Mu:DL.Env->R Out:=(bf (cB (eJ (λbs=>bs.any id) (eL (cw (eL (aa 0)) (a1 1) cZ (aM cT (λi j=>.bl (decide (j<i))) (cE (aa 1)) (eC (.int (100)))) [1])))) (ia 0) bo)
abbrev zN:List D->R D:=aK 2 Mu
abbrev Zz:DL.Env->R Out:=(fq (eL (aa 0)) (a1 1) (bf (eZ (cB (eJ (λbs=>bs.all id) (eL (cw (eL (aa 1)) (a1 2) cZ (az 1 jE (ac (aa 2) am)) [2]))))) (ia 2) bo))
abbrev tV:List D->R D:=aK 3 Zz
abbrev Mv:DL.Env->R Out:=(au (eA (az 1 zN (ac (aa 0) am))) (eA (az 1 tV (ac (aa 0) am))))
abbrev kN:List D->R D:=aK 1 Mv
abbrev Mw:DL.Env->R Out:=(au (bf (iX (cB (aM cT (λi j=>.bl (decide (j<i))) (cE (aa 0)) (eC (.int (100))))) (cB (eJ (λbs=>bs.any id) (eL (cw (eL (aa 0)) (a1 2) cZ (aM cT (λi j=>.bl (decide (i<j))) (aa 2) (eC (.int 0))) [2]))))) (ia 0) bo) (bf (cB (bC true (D9 (eL (aa 0))) (cE (aa 1)))) (ia 0) bo))
abbrev Eo:List D->R D:=aK 3 Mw
abbrev Mx:DL.Env->R Out:=(bf (iX (cB (aM cT (λi j=>.bl (decide (j<i))) (cE (aa 0)) (eC (.int (30))))) (eZ (cB (ez (λi j=>decide (i<=j)) (λi j=>decide (i<=j)) (eC (.int 1)) (cE (aa 1)) (eC (.int (30))))))) (ia 0) bo)
abbrev zO:List D->R D:=aK 2 Mx
abbrev My:DL.Env->R Out:=(fq (vX (ac (aa 0) (ac (eC (.tup (([1,4,3,3,6,3]:List Int).map .int))) (ac (eC (.tup (([4294967295,4294967295,4294967295,4294967295,4294967295,65535]:List Int).map .int))) am)))) (jA 3 (e7 (a1 1) (e7 (a1 2) (e7 (a1 3) j0)))) (au (bf (iX (cB (bC true (aM (λi j=>decide (0<j)) (λi j=>.int (i%j)) (cE (aa 1)) (aa 2)) (eC (.int 0)))) (cB (aM cT (λi j=>.bl (decide (j<i))) (cE (aa 1)) (aM nq (λi j=>.int (i*j)) (eC (.int (128))) (aa 2))))) (ia 0) bo) (bf (eZ (cB (eJ (λbs=>bs.all id) (eL (cw (eL (aa 1)) (a1 4) cZ (ez (λi j=>decide (i<=j)) (λi j=>decide (i<=j)) (eC (.int 0)) (aa 4) (aa 3)) [4]))))) (ia 0) bo)))
abbrev Ep:List D->R D:=aK 5 My
abbrev Mz:DL.Env->R Out:=(aQ (aM cT (λi j=>.bl (decide (j<=i))) (aa 0) (eC (.int 2))))
abbrev oZ:List D->R D:=aK 1 Mz
abbrev MA:DL.Env->R Out:=(aQ (bC false (aM (λi j=>decide (0<j)) (λi j=>.int (i%j)) (aa 0) (eC (.int 2))) (eC (.int 1))))
abbrev we:List D->R D:=aK 1 MA
abbrev MB:DL.Env->R Out:=(au (bg 2 (eC (.int 0))) (au (bg 3 (cE (ao 5 3 (aa 0)))) (au (sY (λ_=>200) (cB (aM cT (λi j=>.bl (decide (i<j))) (aa 2) (aa 3))) (au (bg 4 (aM kF (λi j=>.int (i/j)) (aM cT (λi j=>.int (i+j)) (aa 2) (aa 3)) (eC (.int 2)))) (bf (cB (aM cT (λi j=>.bl (decide (i<j))) (ao 2 1 (bc (ao 5 3 (aa 0)) (aa 4))) (aa 1))) (bg 2 (aM cT (λi j=>.int (i+j)) (aa 4) (eC (.int 1)))) (bg 3 (aa 4))))) (au (bf (h8 (cB (aM cT (λi j=>.bl (decide (i<j))) (aa 2) (cE (ao 5 3 (aa 0))))) (cB (aM cT (λi j=>.bl (decide (i<=j))) (ao 2 0 (bc (ao 5 3 (aa 0)) (aa 2))) (aa 1)))) (aQ (ao 2 2 (bc (ao 5 3 (aa 0)) (aa 2)))) bo) (aQ (eC (.int 0)))))))
abbrev ek:List D->R D:=aK 5 MB
abbrev MC:DL.Env->R Out:=(au (gy 2 am) (au (gy 3 am) (au (fq (eL (aa 1)) (a1 4) (bf (cB (aM cT (λi j=>.bl (decide (j<i))) (dI 5 2 ek (aa 0) (ac (aa 4) am)) (eC (.int 0)))) (eK 3 (aa 4)) (au (gL 2 (eL (qw 5 2 ek (fC 3) (aa 0)))) (au (eK 2 (aa 4)) (gy 3 am))))) (aQ (sQ (fC 2) (eL (qw 5 2 ek (fC 3) (aa 0))))))))
abbrev lF:List D->R D:=aK 5 MC
abbrev MD:DL.Env->R Out:=(au (bf (h8 (cB (aa 2)) (cB (dY false (aa 1) (ao 5 7 (aa 0))))) (aQ (jZ (ao 5 7 (aa 0)) (aa 1))) bo) (au (bf (cB (dY false (aa 1) (ao 5 6 (aa 0)))) (aQ (jZ (ao 5 6 (aa 0)) (aa 1))) bo) (au (bf (cB (az 1 qy (ac (aa 1) am))) (aQ (az 1 zF (ac (aa 1) am))) bo) (aQ (de (ac (aa 1) am))))))
abbrev mB:List D->R D:=aK 3 MD
abbrev ME:DL.Env->R Out:=(au (gy 3 am) (au (fq (eL (aa 1)) (a1 4) (gL 3 (eL (az 3 mB (ac (aa 0) (ac (aa 4) (ac (aa 2) am))))))) (gK 3)))
abbrev lG:List D->R D:=aK 5 ME
abbrev MF:DL.Env->R Out:=(au (bf (cB (bC false (aa 2) (aM cT (λi j=>.int (i-j)) (cE (aa 1)) (eC (.int 1))))) (aQ (eC (.bl true))) bo) (aQ (ez (λi j=>decide (i<j)) (λi j=>decide (i<j)) (eC (.int 0)) (dI 5 2 ek (aa 0) (ac (bc (aa 1) (lD (eC (.int 1)))) am)) (dI 5 2 ek (aa 0) (ac (aa 3) am)))))
abbrev tW:List D->R D:=aK 4 MF
abbrev MG:DL.Env->R Out:=(au (bf (cB (vu (ac (aa 1) (ac (aa 2) am)) (ao 5 8 (aa 0)))) (aQ (vv (ao 5 8 (aa 0)) (ac (aa 1) (ac (aa 2) am)))) bo) (aQ (az 2 v9 (ac (aa 1) (ac (aa 2) am)))))
abbrev tX:List D->R D:=aK 3 MG
abbrev MH:DL.Env->R Out:=(au (gy 2 am) (au (bg 3 (eC .ah)) (au (fq (eL (aa 1)) (a1 4) (au (bg 5 (eC .ah)) (au (bf (h8 (cB (jY true (aa 3))) (cB (qv 2 (az 4 tW (ac (aa 0) (ac (aa 2) (ac (aa 3) (ac (aa 4) am)))))))) (bg 5 (az 3 tX (ac (aa 0) (ac (lp (fC 2) (aa 3)) (ac (aa 4) am))))) bo) (bf (cB (jY true (aa 5))) (sX 2 (aa 3) (aa 5)) (au (bf (cB (bC false (dI 5 2 ek (aa 0) (ac (aa 4) am)) (eC (.int 0)))) (bg 3 (sS (fC 2))) bo) (eK 2 (aa 4))))))) (gK 2))))
abbrev zP:List D->R D:=aK 6 MH
abbrev MI:DL.Env->R Out:=(au (bg 3 (az 2 lF (ac (aa 0) (ac (az 3 lG (ac (aa 0) (ac (aa 2) (ac (az 1 oZ (ac (aa 1) am)) am)))) am)))) (au (bf (cB (az 1 we (ac (aa 1) am))) (aQ (az 2 zP (ac (aa 0) (ac (aa 3) am)))) bo) (aQ (aa 3))))
abbrev iM:List D->R D:=aK 4 MI
abbrev MJ:DL.Env->R Out:=(aQ (bc (az 3 mB (ac (aa 0) (ac (aa 1) (ac (aa 2) am)))) (eC (.int 0))))
abbrev nz:List D->R D:=aK 3 MJ
abbrev MK:DL.Env->R Out:=(au (bg 3 (az 3 nz (ac (aa 0) (ac (aa 2) (ac (az 1 oZ (ac (aa 1) am)) am))))) (au (bf (cB (bC true (dI 5 2 ek (aa 0) (ac (aa 3) am)) (eC (.int 0)))) (aQ (eC (.bl false))) bo) (au (bf (eZ (cB (az 1 we (ac (aa 1) am)))) (aQ (eC (.bl true))) bo) (aQ (f8 (dY true (aa 3) (ao 5 9 (aa 0))) (f8 (ln (az 1 qz (ac (aa 3) am))) (ln (az 1 vZ (ac (aa 3) am)))))))))
abbrev Er:List D->R D:=aK 4 MK
abbrev ML:DL.Env->R Out:=(au (bg 2 (bc (ao 5 5 (aa 0)) (aa 1))) (au (bf (cB (ml false (eC (.int 1)) (dN (ac (ao 4 0 (aa 2)) (ac (ao 4 1 (aa 2)) (ac (ao 4 2 (aa 2)) am)))))) (aQ (eC (.bl false))) bo) (au (bf (h8 (cB (bC true (ao 4 0 (aa 2)) (eC (.int 0)))) (cB (bC false (ao 4 1 (aa 2)) (eC (.int 0))))) (aQ (eC (.bl false))) bo) (aQ (oJ (bC false (ao 4 1 (aa 2)) (eC (.int 0))) (bC true (ao 4 2 (aa 2)) (eC (.int 0))))))))
abbrev wf:List D->R D:=aK 3 ML
abbrev MM:DL.Env->R Out:=(aQ (oJ (bC false (aa 1) (eC (.int 0))) (h7 HT.lexLt (eL (tS lE (bc (aa 0) (aM cT (λi j=>.int (i-j)) (aa 1) (eC (.int 1)))))) (eL (tS lE (bc (aa 0) (aa 1)))))))
abbrev o7:List D->R D:=aK 2 MM
abbrev MN:DL.Env->R Out:=(aQ (f8 (az 1 jE (ac (aa 0) am)) (ln (az 1 qy (ac (aa 0) am)))))
abbrev lH:List D->R D:=aK 1 MN
abbrev MO:DL.Env->R Out:=(au (bg 2 (bc (ao 5 4 (aa 0)) (aa 1))) (au (bf (iX (eZ (cB (ez (λi j=>decide (i<=j)) (λi j=>decide (i<=j)) (eC (.int 1)) (ao 3 0 (aa 2)) (eC (.int 3))))) (eZ (cB (az 2 o7 (ac (ao 5 4 (aa 0)) (ac (aa 1) am)))))) (aQ (eC (.bl false))) bo) (au (bf (eZ (cB (eJ (λbs=>bs.all id) (eL (cw (eL (ei (eL (ao 3 3 (aa 2))) ir (cN (ao 3 0 (aa 2))))) (a1 3) cZ (f8 (az 1 lH (ac (aa 3) am)) (dY true (aa 3) (ao 5 6 (aa 0)))) [3]))))) (aQ (eC (.bl false))) bo) (au (bf (cB (eJ (λbs=>bs.any id) (eL (cw (eL (ei (eL (ao 3 3 (aa 2))) (cN (ao 3 0 (aa 2))) ir)) (a1 3) cZ (bC true (aa 3) (eC (.int 0))) [3])))) (aQ (eC (.bl false))) bo) (aQ (f8 (aM cT (λi j=>.bl (decide (i<=j))) (ao 3 2 (aa 2)) (eC (.int 4))) (aM cT (λi j=>.bl (decide (i<=j))) (aM cT (λi j=>.int (i+j)) (ao 3 1 (aa 2)) (ao 3 2 (aa 2))) (cE (ao 5 5 (aa 0))))))))))
abbrev wg:List D->R D:=aK 4 MO
abbrev MP:DL.Env->R Out:=(au (bg 2 (bc (ao 5 2 (aa 0)) (aa 1))) (au (bf (eZ (cB (eJ (λbs=>bs.all id) (eL (cw (kE (dN (ac (ao 1 0 (aa 2)) (ac (ao 1 1 (aa 2)) (ac (ao 1 2 (aa 2)) am))))) (a1 3) cZ (az 1 lH (ac (aa 3) am)) [3]))))) (aQ (eC (.bl false))) bo) (au (bf (iX (eZ (cB (az 2 o7 (ac (ao 5 2 (aa 0)) (ac (aa 1) am))))) (h8 (cB (az 1 tU (ac (ao 1 0 (aa 2)) am))) (cB (az 1 qz (ac (ao 1 1 (aa 2)) am))))) (aQ (eC (.bl false))) bo) (au (bf (iX (cB (bC true (dI 5 2 ek (aa 0) (ac (ao 1 0 (aa 2)) am)) (eC (.int 0)))) (cB (bC true (dI 5 2 ek (aa 0) (ac (ao 1 2 (aa 2)) am)) (eC (.int 0))))) (aQ (eC (.bl false))) bo) (au (bf (cB (bC true (dI 5 2 ek (aa 0) (ac (az 3 nz (ac (aa 0) (ac (ao 1 0 (aa 2)) (ac (eC (.bl false)) am)))) am)) (eC (.int 0)))) (aQ (eC (.bl false))) bo) (au (bf (cB (dY true (ao 1 2 (aa 2)) (ao 5 6 (aa 0)))) (aQ (eC (.bl false))) bo) (aQ (h7 (λns a=>decide (ns=a)) (eL (jZ (ao 5 6 (aa 0)) (ao 1 2 (aa 2)))) (eL (az 2 lF (ac (aa 0) (ac (az 3 lG (ac (aa 0) (ac (de (ac (ao 1 0 (aa 2)) (ac (ao 1 1 (aa 2)) am))) (ac (eC (.bl false)) am)))) am))))))))))))
abbrev wh:List D->R D:=aK 4 MP
abbrev MQ:DL.Env->R Out:=(au (bf (cB (eJ (λbs=>bs.any id) (eL (cw (eL (ao 0 4 (aa 1))) (a1 3) cZ (dY false (aa 3) (ao 5 6 (aa 0))) [3])))) (aQ (eC (.bl false))) bo) (au (bg 2 (eJ (λbs=>bs.any id) (eL (cw (eL (ao 0 4 (aa 1))) (a1 3) cZ (dY false (aa 3) (ao 5 7 (aa 0))) [3])))) (aQ (bC false (aa 2) (dY false (ao 0 0 (aa 1)) (ao 5 7 (aa 0)))))))
abbrev zQ:List D->R D:=aK 4 MQ
abbrev MR:DL.Env->R Out:=(au (bf (cB (eJ (λbs=>bs.any id) (eL (cw (eL (ao 0 4 (aa 1))) (a1 2) cZ (oJ (dY false (aa 2) (ao 5 6 (aa 0))) (dY false (aa 2) (ao 5 7 (aa 0)))) [2])))) (aQ (eC (.bl false))) bo) (au (bf (cB (dY true (ao 0 0 (aa 1)) (ao 5 6 (aa 0)))) (aQ (eC (.bl true))) bo) (aQ (h7 (λns a=>decide (ns=a)) (eL (ao 0 4 (aa 1))) (eL (az 2 lF (ac (aa 0) (ac (az 3 lG (ac (aa 0) (ac (jZ (ao 5 6 (aa 0)) (ao 0 0 (aa 1))) (ac (eC (.bl true)) am)))) am))))))))
abbrev zR:List D->R D:=aK 3 MR
abbrev MS:DL.Env->R Out:=(au (bg 2 (dI 5 2 ek (aa 0) (ac (ao 0 0 (aa 1)) am))) (aQ (oJ (bC false (aa 2) (eC (.int 0))) (eJ (λbs=>bs.all id) (eL (cw (eL (ao 0 4 (aa 1))) (a1 3) cZ (bC false (dI 5 2 ek (aa 0) (ac (aa 3) am)) (aa 2)) [3]))))))
abbrev wj:List D->R D:=aK 4 MS
abbrev MT:DL.Env->R Out:=(au (bg 2 (cw (eL (aa 1)) (a1 3) cZ (dI 5 2 ek (aa 0) (ac (aa 3) am)) [3])) (aQ (ln (eJ (λbs=>bs.any id) (eL (cw (jz (ac (aM cT (λi j=>.int (i-j)) (cE (aa 1)) (eC (.int 1))) am)) (a1 4) cZ (ez (λi j=>decide (j<i)) (λi j=>decide (j<i)) (bc (aa 2) (aa 4)) (bc (aa 2) (aM cT (λi j=>.int (i+j)) (aa 4) (eC (.int 1)))) (eC (.int 0))) [4]))))))
abbrev wk:List D->R D:=aK 5 MT
abbrev MU:DL.Env->R Out:=(au (bg 2 (bc (ao 5 1 (aa 0)) (aa 1))) (au (bf (h8 (cB (bC false (ao 0 1 (aa 2)) (eC (.int (0))))) (eZ (cB (az 2 zQ (ac (aa 0) (ac (aa 2) am)))))) (aQ (eC (.bl false))) bo) (au (bf (h8 (cB (bC false (ao 0 1 (aa 2)) (eC (.int (1))))) (eZ (cB (az 2 zR (ac (aa 0) (ac (aa 2) am)))))) (aQ (eC (.bl false))) bo) (aQ (f8 (az 2 wj (ac (aa 0) (ac (aa 2) am))) (az 2 wk (ac (aa 0) (ac (ao 0 4 (aa 2)) am))))))))
abbrev wl:List D->R D:=aK 3 MU
abbrev MV:DL.Env->R Out:=(au (bg 2 (bc (ao 5 1 (aa 0)) (aa 1))) (au (bf (iX (eZ (cB (az 1 jE (ac (ao 0 0 (aa 2)) am)))) (cB (az 2 v8 (ac (ao 0 0 (aa 2)) (ac (ao 0 0 (aa 2)) am))))) (aQ (eC (.bl false))) bo) (au (bf (iX (cB (ml true (ao 0 1 (aa 2)) (dN (ac (eC (.int (0))) (ac (eC (.int (1))) am))))) (eZ (cB (az 2 o7 (ac (ao 5 1 (aa 0)) (ac (aa 1) am)))))) (aQ (eC (.bl false))) bo) (aQ (f8 (ez (λi j=>decide (i<=j)) (λi j=>decide (i<=j)) (eC (.int 1)) (ao 0 3 (aa 2)) (eC (.int 4))) (aM cT (λi j=>.bl (decide (i<=j))) (aM cT (λi j=>.int (i+j)) (ao 0 2 (aa 2)) (ao 0 3 (aa 2))) (cE (ao 5 0 (aa 0)))))))))
abbrev wm:List D->R D:=aK 3 MV
abbrev MW:DL.Env->R Out:=(au (bg 2 (bc (ao 5 3 (aa 0)) (aa 1))) (au (bf (iX (eZ (cB (az 1 jE (ac (ao 2 0 (aa 2)) am)))) (iX (eZ (cB (az 1 jE (ac (ao 2 1 (aa 2)) am)))) (cB (aM cT (λi j=>.bl (decide (j<i))) (ao 2 0 (aa 2)) (ao 2 1 (aa 2)))))) (aQ (eC (.bl false))) bo) (au (bf (eZ (cB (ez (λi j=>decide (i<=j)) (λi j=>decide (i<=j)) (eC (.int 1)) (ao 2 2 (aa 2)) (eC (.int 254))))) (aQ (eC (.bl false))) bo) (au (bf (h8 (cB (aM cT (λi j=>.bl (decide (j<i))) (aa 1) (eC (.int 0)))) (cB (aM cT (λi j=>.bl (decide (i<=j))) (ao 2 0 (aa 2)) (ao 2 1 (bc (ao 5 3 (aa 0)) (aM cT (λi j=>.int (i-j)) (aa 1) (eC (.int 1)))))))) (aQ (eC (.bl false))) bo) (aQ (ln (az 2 v8 (ac (ao 2 0 (aa 2)) (ac (ao 2 1 (aa 2)) am)))))))))
abbrev wn:List D->R D:=aK 3 MW
abbrev MX:DL.Env->R Out:=(aQ (az 1 lH (ac (bc (ao 5 0 (aa 0)) (aa 1)) am)))
abbrev wo:List D->R D:=aK 2 MX
abbrev FV(t:Nat):Option (List D->R D):=if t=44 then some wo else if t=45 then some wn else if t=46 then some wm else if t=47 then some wl else if t=52 then some wh else if t=53 then some wg else if t=54 then some wf else none
abbrev MY:DL.Env->R Out:=(au (fq (jz (ac (cE (aa 1)) am)) (a1 3) (bf (eZ (cB (oW 2 2 FV (ac (aa 0) (ac (aa 3) am))))) (aQ (aa 3)) bo)) (aQ (eC .ah)))
abbrev qD:List D->R D:=aK 4 MY
abbrev MZ:DL.Env->R Out:=(au (bg 1 (dN (ac (dN (ac (ao 5 0 (aa 0)) (ac (eC (.fn 44)) am))) (ac (dN (ac (ao 5 3 (aa 0)) (ac (eC (.fn 45)) am))) (ac (dN (ac (ao 5 1 (aa 0)) (ac (eC (.fn 46)) am))) (ac (dN (ac (ao 5 1 (aa 0)) (ac (eC (.fn 47)) am))) (ac (dN (ac (ao 5 2 (aa 0)) (ac (eC (.fn 52)) am))) (ac (dN (ac (ao 5 4 (aa 0)) (ac (eC (.fn 53)) am))) (ac (dN (ac (ao 5 5 (aa 0)) (ac (eC (.fn 54)) am))) am))))))))) (au (fq (vW (kE (aa 1))) (jA 2 (e7 (a1 2) (e7 (a1 3) j0))) (au (bg 4 (az 3 qD (ac (aa 0) (ac (bc (aa 3) (eC (.int 0))) (ac (bc (aa 3) (eC (.int 1))) am))))) (bf (cB (jY true (aa 4))) (aQ (de (ac (aa 2) (ac (aa 4) am)))) bo))) (aQ (de (ac (eC (.int 0)) (ac (eC (.int 0)) am))))))
abbrev Et:List D->R D:=aK 5 MZ
abbrev ZA:DL.Env->R Out:=(au (cx 0 10 0 (aa 1)) (cx 0 10 1 (aa 2)))
abbrev tY:List D->R (List D):=iv 3 10 2 ZA
abbrev ZB:DL.Env->R Out:=(au (bg 1 (aM cT (λi j=>.int (i+j)) (eC (.int (64320))) (aM kF (λi j=>.int (i/j)) (aa 0) (eC (.int (32768)))))) (au (bg 2 (aM cT (λi j=>.int (i+j)) (aM (λi j=>decide (0<j)) (λi j=>.int (i%j)) (aa 0) (eC (.int (32768)))) (eC (.int (32768))))) (aQ (de (ac (eI 4 1 qA (ac (de (ac (aa 1) (ac (eC (.int (32))) (ac (eC (.int (2))) am)))) am)) (ac (eI 4 1 qA (ac (de (ac (aa 2) (ac (eC (.int 0)) (ac (eC (.int 0)) am)))) am)) am))))))
abbrev wq:List D->R D:=aK 3 ZB
abbrev M0:DL.Env->R Out:=(au (fq (qt (ac (vO (eC (.int (3))) (aM cT (λi j=>.int (i-j)) (aa 3) (aa 2))) (ac (eC (.int 0)) (ac (lD (eC (.int 1))) am)))) (a1 4) (au (bg 5 (qu (eL (ei (eL (aa 1)) (cN (aa 2)) (cN (aM cT (λi j=>.int (i+j)) (aa 2) (aa 4))))))) (bf (cB (vP (aa 5) (ao 5 10 (aa 0)))) (aQ (eI 10 2 tY (ac (aa 4) (ac (vR (ao 5 10 (aa 0)) (aa 5)) am)))) bo))) (aQ (eI 10 2 tY (ac (eC (.int 1)) (ac (az 1 wq (ac (bc (aa 1) (aa 2)) am)) am)))))
abbrev qE:List D->R D:=aK 6 M0
abbrev ZC:DL.Env->R Out:=(au (cx 0 11 0 (aa 1)) (au (cx 0 11 1 (az 3 iM (ac (aa 1) (ac (eC (.int 0)) (ac (aa 2) am))))) (cx 0 11 2 (cw (jz (ac (cE (dw 0 11 1)) am)) (a1 3) cZ (az 4 qE (ac (aa 1) (ac (dw 0 11 1) (ac (aa 3) (ac (cE (dw 0 11 1)) am))))) [3]))))
abbrev tZ:List D->R (List D):=iv 4 11 3 ZC
abbrev M3:DL.Env->R Out:=(au (vU 3 (eL (aa 2)) (a1 5) (cB (bC true (ao 4 0 (aa 5)) (eC (.int 0)))) (ao 4 0 (aa 5)) [5]) (au (bf (cB (aM cT (λi j=>.bl (decide (j<=i))) (aa 0) (eC (.int 2)))) (au (bg 4 (cw (eL (aa 2)) (a1 5) (cB (bC true (ao 4 1 (aa 5)) (eC (.int 0)))) (ao 4 1 (aa 5)) [5])) (au (eK 3 (eC (.int (1)))) (gL 3 (eL (kD (cB (bC false (aa 1) (eC (.int 1)))) (qx (eL (aa 4))) (aa 4)))))) bo) (au (bf (cB (bC false (aa 0) (eC (.int 3)))) (au (eK 3 (eC (.int (1)))) (gL 3 (eL (cw (eL (aa 2)) (a1 5) (cB (bC true (ao 4 2 (aa 5)) (eC (.int 0)))) (ao 4 2 (aa 5)) [5])))) bo) (gK 3))))
abbrev qF:List D->R D:=aK 6 M3
abbrev M4:DL.Env->R Out:=(au (bg 3 (bc (ao 11 2 (aa 0)) (aa 1))) (au (bf (cB (aM cT (λi j=>.bl (decide (i<=j))) (aM cT (λi j=>.int (i+j)) (aa 1) (ao 10 0 (aa 3))) (aa 2))) (aQ (aa 3)) bo) (aQ (az 4 qE (ac (ao 11 0 (aa 0)) (ac (ao 11 1 (aa 0)) (ac (aa 1) (ac (aa 2) am))))))))
abbrev t0:List D->R D:=aK 4 M4
abbrev M5:DL.Env->R Out:=(au (gy 3 am) (au (bg 4 (aa 1)) (au (sY (λa=>2000) (cB (aM cT (λi j=>.bl (decide (i<j))) (aa 4) (aa 2))) (au (bg 5 (dI 11 3 t0 (aa 0) (ac (aa 4) (ac (aa 2) am)))) (au (gL 3 (eL (ao 10 1 (aa 5)))) (nj 4 (λi j=>i+j) (ao 10 0 (aa 5)))))) (gK 3))))
abbrev o8:List D->R D:=aK 6 M5
abbrev M6:DL.Env->R Out:=(au (bg 4 (eI 11 2 tZ (ac (aa 0) (ac (aa 3) am)))) (aQ (az 3 qF (ac (aa 1) (ac (aa 2) (ac (dI 11 3 o8 (aa 4) (ac (eC (.int 0)) (ac (cE (ao 11 1 (aa 4))) am))) am))))))
abbrev jF:List D->R D:=aK 5 M6
abbrev M7:DL.Env->R Out:=(aQ (eJ (λbs=>bs.all id) (eL (cw (eL (aa 0)) (a1 1) cZ (bC false (aa 1) (eC (.int (1)))) [1]))))
abbrev zS:List D->R D:=aK 2 M7
abbrev M8:DL.Env->R Out:=(au (gy 2 (ac (eC (.int 0)) am)) (au (fq (eL (aa 1)) (a1 3) (eK 2 (aM cT (λi j=>.int (i+j)) (lp (fC 2) (lD (eC (.int 1)))) (cE (az 3 mB (ac (aa 0) (ac (aa 3) (ac (eC (.bl false)) am)))))))) (gK 2)))
abbrev wr:List D->R D:=aK 4 M8
abbrev M9:DL.Env->R Out:=(au (bf (iX (cB (bC false (aa 2) (eC (.int 0)))) (cB (bC false (aa 2) (cE (aa 1))))) (aQ (eC (.bl true))) bo) (aQ (bC false (dI 5 2 ek (aa 0) (ac (az 3 nz (ac (aa 0) (ac (bc (aa 1) (aa 2)) (ac (eC (.bl false)) am)))) am)) (eC (.int 0)))))
abbrev t3:List D->R D:=aK 3 M9
abbrev Na:DL.Env->R Out:=(au (bg 4 (az 4 jF (ac (aa 0) (ac (aa 1) (ac (eC (.int 0)) (ac (aa 3) am)))))) (au (bf (cB (az 1 zS (ac (aa 4) am))) (ia 4) bo) (au (bg 5 (eI 11 2 tZ (ac (aa 0) (ac (aa 2) am)))) (au (bg 6 (az 2 wr (ac (aa 0) (ac (aa 2) am)))) (au (bg 7 (cw (jz (ac (aM cT (λi j=>.int (i+j)) (cE (aa 2)) (eC (.int 1))) am)) (a1 12) (cB (az 3 t3 (ac (aa 0) (ac (aa 2) (ac (aa 12) am))))) (aa 12) [12])) (au (fq (vV (eL (aa 7))) (jA 2 (e7 (a1 8) (e7 (a1 9) j0))) (fq (eL (ei (eL (aa 7)) (cN (aM cT (λi j=>.int (i+j)) (aa 8) (eC (.int 1)))) ir)) (a1 10) (au (bg 11 (dI 11 3 o8 (aa 5) (ac (bc (aa 6) (aa 9)) (ac (bc (aa 6) (aa 10)) am)))) (bf (cB (h7 (λns a=>decide (ns=a)) (eL (az 3 qF (ac (aa 1) (ac (eC (.int 0)) (ac (aa 11) am))))) (eL (aa 4)))) (aQ (de (ac (eC (.int 1)) (ac (aa 9) (ac (aM cT (λi j=>.int (i-j)) (aa 10) (aa 9)) am))))) bo)))) (aQ (de (ac (eC (.int 0)) am)))))))))
abbrev zT:List D->R D:=aK 13 Na
abbrev Nb:DL.Env->R Out:=(au (bg 5 (az 4 jF (ac (aa 0) (ac (aa 1) (ac (aa 2) (ac (aa 3) am)))))) (au (bg 6 (az 4 jF (ac (aa 0) (ac (aa 1) (ac (aa 2) (ac (aa 4) am)))))) (au (bf (cB (h7 HT.lexLt (eL (aa 5)) (eL (aa 6)))) (aQ (eC (.int (1)))) bo) (aQ (kD (cB (h7 (λns a=>decide (ns=a)) (eL (aa 5)) (eL (aa 6)))) (eC (.int (2))) (eC (.int (3))))))))
abbrev zU:List D->R D:=aK 7 Nb
abbrev Nc:DL.Env->R Out:=(au (gy 2 am) (au (bg 3 (eC (.int 0))) (au (fq (eL (aa 0)) (a1 4) (au (eK 2 (ei (eL (aa 1)) (cN (aa 3)) (cN (aM cT (λi j=>.int (i+j)) (aa 3) (aa 4))))) (nj 3 (λi j=>i+j) (aa 4)))) (gK 2))))
abbrev Eu:List D->R D:=aK 5 Nc
abbrev ZD:DL.Env->R Out:=(au (eA (az 1 qB (ac (aa 1) am))) (au (eA (az 1 kN (ac (de (ac (aa 2) am)) am))) (aQ (az 3 iM (ac (ao 9 0 (aa 0)) (ac (aa 1) (ac (aa 2) am)))))))
abbrev zV:List D->R D:=aK 3 ZD
abbrev ZE:DL.Env->R Out:=(au (eA (az 1 qB (ac (aa 1) am))) (au (eA (az 1 kN (ac (de (ac (aa 2) am)) am))) (aQ (de (ac (kD (cB (h7 (λns a=>decide (ns=a)) (eL (az 3 iM (ac (ao 9 0 (aa 0)) (ac (aa 1) (ac (aa 2) am))))) (eL (aa 2)))) (eC (.int 1)) (eC (.int 0))) am)))))
abbrev zW:List D->R D:=aK 3 ZE
abbrev ZF:DL.Env->R Out:=(au (eA (az 1 En (ac (aa 1) am))) (au (eA (az 1 kN (ac (de (ac (aa 2) (ac (aa 3) am))) am))) (aQ (de (ac (kD (cB (h7 (λns a=>decide (ns=a)) (eL (az 3 iM (ac (ao 9 0 (aa 0)) (ac (aa 1) (ac (aa 2) am))))) (eL (az 3 iM (ac (ao 9 0 (aa 0)) (ac (aa 1) (ac (aa 3) am))))))) (eC (.int 1)) (eC (.int 0))) am)))))
abbrev wu:List D->R D:=aK 4 ZF
abbrev ZG:DL.Env->R Out:=(au (eA (az 1 qB (ac (aa 1) am))) (au (eA (az 1 kN (ac (de (ac (aa 2) (ac (aa 3) am))) am))) (aQ (az 3 iM (ac (ao 9 0 (aa 0)) (ac (aa 1) (ac (sQ (eL (aa 2)) (eL (aa 3))) am)))))))
abbrev wx:List D->R D:=aK 4 ZG
abbrev Nf:DL.Env->R Out:=(au (bg 2 (bc (ao 7 1 (aa 1)) (eC (.int 0)))) (au (bf (cB (bC false (ao 7 0 (aa 1)) (eC (.int (2))))) (aQ (az 3 zV (ac (aa 0) (ac (aa 2) (ac (bc (ao 7 2 (aa 1)) (eC (.int 0))) am))))) bo) (au (bf (cB (bC false (ao 7 0 (aa 1)) (eC (.int (3))))) (aQ (az 3 zW (ac (aa 0) (ac (aa 2) (ac (bc (ao 7 2 (aa 1)) (eC (.int 0))) am))))) bo) (au (bf (cB (bC false (ao 7 0 (aa 1)) (eC (.int (4))))) (aQ (az 4 wu (ac (aa 0) (ac (aa 2) (ac (bc (ao 7 2 (aa 1)) (eC (.int 0))) (ac (bc (ao 7 2 (aa 1)) (eC (.int 1))) am)))))) bo) (aQ (az 4 wx (ac (aa 0) (ac (aa 2) (ac (bc (ao 7 2 (aa 1)) (eC (.int 0))) (ac (bc (ao 7 2 (aa 1)) (eC (.int 1))) am))))))))))
abbrev Ev:List D->R D:=aK 3 Nf
abbrev ZH:DL.Env->R Out:=(au (eA (az 1 qC (ac (aa 1) am))) (au (eA (az 1 wd (ac (aa 2) am))) (au (eA (az 1 kN (ac (de (ac (aa 3) am)) am))) (aQ (az 4 jF (ac (ao 9 0 (aa 0)) (ac (aa 1) (ac (aa 2) (ac (aa 3) am)))))))))
abbrev Ex:List D->R D:=aK 4 ZH
abbrev ZI:DL.Env->R Out:=(au (eA (az 1 qC (ac (aa 1) am))) (au (eA (az 1 wd (ac (aa 2) am))) (au (eA (az 1 kN (ac (de (ac (aa 3) (ac (aa 4) am))) am))) (aQ (de (ac (az 5 zU (ac (ao 9 0 (aa 0)) (ac (aa 1) (ac (aa 2) (ac (aa 3) (ac (aa 4) am)))))) am))))))
abbrev Ey:List D->R D:=aK 5 ZI
abbrev Ng:DL.Env->R Out:=(au (eA (az 1 qC (ac (aa 1) am))) (au (eA (az 2 zO (ac (aa 2) (ac (aa 3) am)))) (au (eA (az 1 tV (ac (de (ac (aa 2) (ac (aa 3) am))) am))) (aQ (az 4 zT (ac (ao 9 0 (aa 0)) (ac (aa 1) (ac (aa 2) (ac (aa 3) am)))))))))
abbrev Ez:List D->R D:=aK 4 Ng
abbrev ZJ:DL.Env->R Out:=(au (cx 0 7 0 (aa 1)) (au (cx 0 7 1 (aa 2)) (cx 0 7 2 (aa 3))))
abbrev EA:List D->R (List D):=iv 4 7 3 ZJ
abbrev ZK:DL.Env->R Out:=(au (cx 0 9 0 (az 0 Em am)) (cx 0 9 1 (eC .ah)))
abbrev EB:List D->R (List D):=iv 1 9 2 ZK
end FO
namespace FO
open PySem PySem.Spec PyProof.Rows L2 DL
open PySem.W(Frag)
structure Txt(mg:ag->Option aj)(base:aZ)(G:Gx):Prop where
 b':∀x∈BC,mg x=none
 c':∀e∈BD,∃t,mg e.1=some (.int e.2 t)
 t':∀e∈BE,∃a,mg e.1=some (.ref a)/\∀H,cS G.K H a (e.2.2.map V.int)
 k':∀c ns,oh[c]?=some ns->i1 G c ns
 x':∀c x,yb[c]?=some x->∃C,G.xv c=.ref C/\OwnCls x C [.type "Exception",.type "BaseException",.type "object"] "Exception.__new__" mg base
structure Wd(mg:ag->Option aj)(base:aZ)(G:Gx):Prop extends Txt mg base G where
 lk:∀t e,fT[t]?=some e->G.K.lookup (G.fm t)=some (Hb G.K (G.fm t) e)/\BF G.K (G.fm t) e.2.1=true
 ns:∀t e,pN[t]?=some e->mg e.1=some (.ref (G.fm t))
 cn:∀c x,oa[c]?=some x->mg x=some (.ref (G.cm c))/\yd G.K (G.cm c)=true
 mt:∀i e,mU[i]?=some e->BG G.K (G.cm e.1) e.2.1 (G.fm (i+84))=true
 bm:Qu G.K (.ref (G.fm 90)) "__get__"=some (some (.builtin "function.__get__"))/\Qv G.K (.ref (G.fm 90))=some false
 fi:∀t t' F F',FV t=some F->FV t'=some F'->G.fm t=G.fm t'->F'=F
def Txt.b(C:Txt mg base G)(i:Nat)(h: ~~~(BC[i]?=some x)):mg x=none:=C.b' x (fY h)
def Txt.c(C:Txt mg base G)(i:Nat){n:Int}(h: ~~~(BD[i]?=some (x,n))):∃t,mg x=some (.int n t):=C.c' _ (fY h)
def Txt.t(C:Txt mg base G)(i:Nat){a:Nat}{l:List Int}(h: ~~~(BE[i]?=some (x,a,l))):∃a,mg x=some (.ref a)/\∀H,cS G.K H a (l.map V.int):=C.t' _ (fY h)
def Txt.k(C:Txt mg base G)(c:Nat){ns:List ag}(h: ~~~(oh[c]?=some ns)):i1 G c ns:=C.k' c ns h
def Txt.x{z:ag}(C:Txt mg base G)(c:Nat)(h: ~~~(yb[c]?=some z)):∃C,G.xv c=.ref C/\OwnCls z C [.type "Exception",.type "BaseException",.type "object"] "Exception.__new__" mg base:=C.x' c z h
def Txt.at(C:Txt mg base G)(x:af):Txt mg base (G.at x):={C with k':=λc ns h=>(C.k' c ns h).at x}
def Txt.rank(C:Txt mg base G):∀c j,lE.lookup c=some j->∃ns,i1 G c ns/\ns[j]?=some "rank"|0,_,h=>by cases h;exact⟨_,C.k 0,rfl⟩|1,_,h=>by cases h;exact⟨_,C.k 1,rfl⟩|2,_,h=>by cases h|3,_,h=>by cases h;exact⟨_,C.k 3,rfl⟩|n+4,_,h=>by cases h
def Wd.n(W:Wd mg base G)(t:Nat){i:Nat}(h: ~~~(pN[t]?=some (x,i))):mg x=some (.ref (G.fm t)):=W.ns t _ h
section
variable{P:bA}{w:bB}{mg:ag->Option aj}{base:aZ}{G:Gx}{x q:ag}{st:dm}{ps:List ag}{k:Nat}{S:DL.Env->R Out}{CX:hU}{sp:Sp}
def zX{K:Frag}{C:af}(h:yd K C=true):Cls K C/\Gf K C=true/\jJ K (.ref C)=true:=by delta yd at h;simp only[d0,eE]at h;exact⟨⟨h.1,h.2.1,h.2.2.1,h.2.2.2.1⟩,h.2.2.2.2⟩
abbrev qG(x q:ag)(st:dm)(ps:List ag)(us:List aj):Prop:=∀(kV d f:aj) (g:Option af) (e ct:aj),Ba (rp x q (r9 st) (g7 st) (bx st) .none kV d f g e ct) ⟨us,[]⟩=pure (ps.zip us)
abbrev iN(x q:ag)(st:dm)(ps:List ag):Prop:=∀us:List aj,us.length=ps.length->qG x q st ps us
abbrev VQ(Q:List aj->Prop):Nat->Prop|0=>Q []|n+1=>∀a,VQ (λl=>Q (a::l)) n
def vQ{Q:List aj->Prop}:∀{us:List aj}(n:Nat),VQ Q n->us.length=n->Q us:=by intro us;induction us generalizing Q with|nil=>intro n f e;subst e;exact f|cons a us d=>intro n f e;subst e;exact d _ (f a) rfl
def v0(h:ps.length=0)(f:qG x q st ps []):iN x q st ps:=λus e=>vQ 0 f (e.trans h)
def v1(h:ps.length=1)(f:∀a:aj,qG x q st ps [a]):iN x q st ps:=λus e=>vQ 1 f (e.trans h)
def v2(h:ps.length=2)(f:∀a b:aj,qG x q st ps [a,b]):iN x q st ps:=λus e=>vQ 2 f (e.trans h)
def v3(h:ps.length=3)(f:∀a b c:aj,qG x q st ps [a,b,c]):iN x q st ps:=λus e=>vQ 3 f (e.trans h)
def v4(h:ps.length=4)(f:∀a b c d:aj,qG x q st ps [a,b,c,d]):iN x q st ps:=λus e=>vQ 4 f (e.trans h)
def v5(h:ps.length=5)(f:∀a b c d e:aj,qG x q st ps [a,b,c,d,e]):iN x q st ps:=λus e=>vQ 5 f (e.trans h)
def Wd.f(W:Wd mg base G){t:Nat}(h:fT[t]?=some (x,q,st))(b:iN x q st ps):(∃e,cU G.K x q st (G.fm t) e/\Binds G.K e ps [])/\jJ G.K (.ref (G.fm t))=true/\xp G.K (.ref (G.fm t))=true:=by obtain⟨l,c⟩:=W.lk t _ h;unfold BF at c;simp only[d0]at c;haveI F:=Ve (st:=st) l c.1 c.2.1;exact⟨⟨_,F,F.binds λk d p a c t us h=>b us h k d p a c t⟩,c.2⟩
abbrev Nd(N:List ag)(_:fe):Prop:=N.Nodup
def bk{N e:List ag}{sc d scope:fe}{own:List (ag×Nat)}(_:Nd N sc)(h:ll N sc scope own=true:=by decide+kernel) (f: ~~~(e=N)) (g: ~~~(d=sc)):ll e d scope own=true:=by subst f g;exact h
def e9{X:Cx}{e:cj}{scope:fe}(i:Nat)(f:X.N.Nodup)(h: ~~~(X.N[i]?=some x)) (j:∀s H C cl d,Loc (X.db s H scope (ec scope cl C X.env) d).env.scope x:=by intros;first|exact cy rfl|exact bM rfl) (hf:∀s H C cl d,(X.db s H scope (ec scope cl C X.env) d).fn x=true\/(X.db s H scope (ec scope cl C X.env) d).env.scope.names.lookup x=some .local:=by intros;first|exact .inl rfl|exact .inr rfl):∃g,lq G g (a1 i) [i]/\∀(s:ar) (H:Hp) (C:af) (cl:List (ag×af)) (d:List af),PG (X.db s H scope (ec scope cl C X.env) d) (.Name x e) g:=⟨_,y8 i,λs H C cl d=>oy f h (j s H C cl d) (hf s H C cl d)⟩
def fR{X:Cx}{scope:fe}{Ew:Nat->Hp->Prop}(s:ar)(H:Hp)(C:af)(cl:List (ag×af))(d:List af):lj (X.db s H scope (ec scope cl C X.env) d) [] (tT G Ew cZ):=WL
def kO{X:Cx}{E:XK}{f d pos:cj}(C:Txt mg base G)(c:Nat)(R:Raises X E)(h: ~~~(yb[c]?=some x)) (g: ~~~(X.mg=mg)) (i: ~~~(X.base=base)) (j: ~~~(Gl X x)) (l: ~~~(X.calm=true)) (m:((x==("__debug__":ag))=false)⁻¹):PS X (.Raise (some (.Call (.Name x f) [] [] d)) none pos) (sOf G (oY G E) (ia c)):=by obtain⟨a,e,O⟩:=C.x c h;subst g i;exact Y5 c R O e (λH h=>by rw[<-e];exact h) j l m
def fD(W:Wd mg base G)(t:Nat){i:Nat}(h:fT[t]?=some (x,x,st))(L:List ag)(e:∀{d:aj}{A:cG}{outer:List n6}{s:ar}{H:Hp}{E:XK},bO k (A.deeper (gY x (bx st) s.heap.objs.size (G.fm t) d))->Nd (ps++L) (bx st)->df (hV aS P w G.K mg base (ps++L) x (bx st) (G.fm t) d A outer s H E).kB (g7 st) (sOf G (oY G E) S))(g:du (ps++L) ps (bx st):=by exact⟨rfl,rfl,rfl,by decide+kernel,rfl,by decide+kernel,by decide+kernel⟩) (j:iN x x st ps:=by(first|refine v0 rfl ?_|refine v1 rfl ?_|refine v2 rfl ?_|refine v3 rfl ?_|refine v4 rfl ?_|refine v5 rfl ?_|refine v6 rfl ?_|refine v7 rfl ?_);intros;intro _ _ _ _ _ _;kernel_rfl) (l: ~~~(pN[t]?=some (x,i))):bh P w mg base G aS t x (k+1) ps (aK (ps++L).length S):=by obtain⟨⟨m,f,b⟩,p,_⟩:=W.f h j;exact⟨⟨m,L8 f g λ_ _ _ _ _ _ r=>e r g.nd,b⟩,W.n t l,p⟩
def fX(W:Wd mg base G)(t:Nat){i:Nat}(h:fT[t]?=some (x,x,st))(L:List ag)(e:∀{d:aj}{A:cG}{outer:List n6}{s:ar}{H:Hp}{E:XK},bO k (A.deeper (gY x (bx st) s.heap.objs.size (G.fm t) d))->Nd (ps++L) (bx st)->Raises (hV (bH P w) P w G.K mg base (ps++L) x (bx st) (G.fm t) d A outer s H E) E->df (hV (bH P w) P w G.K mg base (ps++L) x (bx st) (G.fm t) d A outer s H E) (g7 st) (sOf G (oY G E) S))(g:du (ps++L) ps (bx st):=by exact⟨rfl,rfl,rfl,by decide+kernel,rfl,by decide+kernel,by decide+kernel⟩) (j:iN x x st ps:=by(first|refine v0 rfl ?_|refine v1 rfl ?_|refine v2 rfl ?_|refine v3 rfl ?_|refine v4 rfl ?_|refine v5 rfl ?_|refine v6 rfl ?_|refine v7 rfl ?_);intros;intro _ _ _ _ _ _;kernel_rfl) (l: ~~~(pN[t]?=some (x,i))):bh P w mg base G (bH P w) t x (k+1) ps (aK (ps++L).length S):=by obtain⟨⟨m,f,b⟩,p,_⟩:=W.f h j;exact⟨⟨m,Zm f g λ_ _ _ _ _ _ r=>e r g.nd kH,b⟩,W.n t l,p⟩
def EC(W:Wd mg base G){c t i j:Nat}(h:fT[t]?=some (x,q,st))(b:iN x q st ps)(d:mU[t-84]?=some (c,x,q,i,j))(e:t-84+84=t):Meth G.K (G.cm c) x (G.fm t):=by obtain⟨_,k1,k2⟩:=W.f h b;haveI z:=W.mt _ _ d;rw[e]at z;delta BG at z;exact⟨eE.mp z,k2,k1⟩
def fM(W:Wd mg base G)(t:Nat){c i j:Nat}{nx:ag}{ns:List ag}(h:fT[t]?=some (x,q,st))(L:List ag)(e:∀{d:aj}{A:cG}{outer:List n6}{s:ar}{H:Hp}{E:XK},bO k (A.deeper (gY q (bx st) s.heap.objs.size (G.fm t) d))->Nd (ps++L) (bx st)->df (hV aS P w G.K mg base (ps++L) q (bx st) (G.fm t) d A outer s H E).kB (g7 st) (sOf G (oY G E) S))(g:du (ps++L) ps (bx st):=by exact⟨rfl,rfl,rfl,by decide+kernel,rfl,by decide+kernel,by decide+kernel⟩) (l:iN x q st ps:=by(first|refine v0 rfl ?_|refine v1 rfl ?_|refine v2 rfl ?_|refine v3 rfl ?_|refine v4 rfl ?_|refine v5 rfl ?_|refine v6 rfl ?_|refine v7 rfl ?_);intros;intro _ _ _ _ _ _;kernel_rfl) (m: ~~~(mU[t-84]?=some (c,x,q,i,j))) (n: ~~~(t-84+84=t)) (p: ~~~(oa[c]?=some nx)) (r: ~~~(oh[c]?=some ns)) (u:(x∉ns)⁻¹):tE P w mg base G aS c t x (k+1) ps (aK (ps++L).length S):=by obtain⟨⟨v,f,b⟩,z,_⟩:=W.f h l;exact⟨⟨v,L8 f g λ_ _ _ _ _ _ y=>e y g.nd,b⟩,EC W h l m n,(zX (W.cn c _ p).2).1,Zs (W.k c r) u⟩
def Nh(W:Wd mg base G){c t i j:Nat}{nx:ag}(h:fT[t]?=some (("__init__":ag),q,st))(b:iN "__init__" q st ps)(d:mU[t-84]?=some (c,("__init__":ag),q,i,j))(e:t-84+84=t)(f:oa[c]?=some nx):Mk G.K (G.cm c) (G.fm t):=by haveI z:=EC W h b d e;haveI y:=(zX (W.cn c _ f).2).2;exact⟨y.1,z.at_,z.fn,y.2⟩
def fI(W:Wd mg base G)(t:Nat){c i j m:Nat}{nx:ag}{ns:List ag}(h:fT[t]?=some (("__init__":ag),q,st))(L:List ag)(e:∀{y:af}{d:aj}{A:cG}{outer:List n6}{s:ar}{H:Hp}{E:XK},bO k (A.deeper (gY q (bx st) s.heap.objs.size (G.fm t) d))->Nd (ps++L) (bx st)->Txt mg base (G.at y)->df (hV aS P w G.K mg base (ps++L) q (bx st) (G.fm t) d A outer s H E).kB (g7 st) (sOf (G.at y) (λ_ _=>False) S))(g:du (ps++L) ps (bx st):=by exact⟨rfl,rfl,rfl,by decide+kernel,rfl,by decide+kernel,by decide+kernel⟩) (l:iN "__init__" q st ps:=by(first|refine v0 rfl ?_|refine v1 rfl ?_|refine v2 rfl ?_|refine v3 rfl ?_|refine v4 rfl ?_|refine v5 rfl ?_|refine v6 rfl ?_|refine v7 rfl ?_);intros;intro _ _ _ _ _ _;kernel_rfl) (p: ~~~(mU[t-84]?=some (c,("__init__":ag),q,i,j))) (r: ~~~(t-84+84=t)) (n: ~~~(oa[c]?=some nx)) (u: ~~~(oh[c]?=some ns)) (v: ~~~(ns.length=m)) (z:(0<ps.length)⁻¹):gN P w mg base G aS c t nx (k+1) ps (ps.length-1) (iv (ps++L).length c m S):=by obtain⟨⟨B,f,b⟩,F,_⟩:=W.f h l;exact⟨⟨B,Zp f g (by rw[(W.k c u).nm];exact v) z λy _ _ _ _ _ _ C=>e C g.nd (W.toTxt.at y),b⟩,Nh W h l p r n,(W.cn c _ n).1⟩
end
section
variable{X:Cx}{G:Gx}{Ew:Nat->Hp->Prop}{a b c:bp}{es:List bp}{pos:cj}{Ea Eb Ec:DL.Env->R D}
def o9(d:PE X a (ap G Ew Ea))(e:PE X b (ap G Ew Eb))(f:PE X c (ap G Ew Ec))(g:xJ [.LtE,.LtE] [b,c]=false:=by with_unfolding_all rfl):PE X (.Compare a [.LtE,.LtE] [b,c] pos) (ap G Ew (ez (λi j=>decide (i<=j)) (λi j=>decide (i<=j)) Ea Eb Ec)):=DE sC sC d e f g
def wy(d:PE X a (ap G Ew Ea))(e:PE X b (ap G Ew Eb))(f:PE X c (ap G Ew Ec))(g:xJ [.LtE,.LtE] [b,c]=false:=by with_unfolding_all rfl):PT X (.Compare a [.LtE,.LtE] [b,c] pos) (tT G Ew (cB (ez (λi j=>decide (i<=j)) (λi j=>decide (i<=j)) Ea Eb Ec))):=Wy sC sC d e f g
end
end FO
namespace FO
open PySem L2 DL
@[reducible]def nD(n:Nat):D:=.int n
@[reducible]def al(l:List Nat):D:=.lst (l.map nD)
def qH(p q:Int->Int->Bool)(a b c:Int)(e f g:DL.Env->R D)(d:DL.Env)(h:e d=.ok (.int a))(i:f d=.ok (.int b))(j:g d=.ok (.int c)):ez p q e f g d=.ok (.bl (p a b&&q b c)):=by delta ez;simp only[h,i,ai,ai,sP];cases p a b<;>simp[j]
def wz(n:Nat):jE [nD n]=.ok (.bl (jr n)):=by
 delta jE aK El aQ f8 ln;rw[qH _ _ 0 n 1114111 _ _ _ _ rfl rfl rfl,qH _ _ 55296 n 57343 _ _ _ _ rfl rfl rfl];delta jr em;by_cases h:n<=1114111
 ·haveI a:(decide ((0)<=n)&&decide ((n:Int)<=1114111))=true:=by simp;lia
  haveI b:decide ((55296:Int)<=n)=decide (55296<=n):=jq.mpr (by lia);haveI c:decide ((n:Int)<=57343)=decide (n<=57343):=jq.mpr (by lia);simp_all
 ·haveI a:(decide ((0:Int)<=n)&&decide ((n:Int)<=1114111))=false:=by simp;lia
  rw[a];simp[h]
def ZL(n:Int)(h:n<0):jE [.int n]=.ok (.bl false):=by
 delta jE aK El aQ f8 ln;rw[qH _ _ 0 n 1114111 _ _ _ _ rfl rfl rfl];haveI a:(decide ((0)<=n)&&decide (n<=1114111))=false:=by simp;lia
 rw[a];rfl
def ED(n:Nat):qy [nD n]=.ok (.bl (fW n)):=by delta qy aK Mc aQ;rw[qH _ _ 44032 n 55203 _ _ _ _ rfl rfl rfl];simp only[ai,em];congr 3<;>simp<;>omega
def Ni(n:Nat):tU [nD n]=.ok (.bl (rA n)):=by delta tU aK Md aQ;rw[qH _ _ 4352 n 4370 _ _ _ _ rfl rfl rfl];simp only[ai,rA];congr 3<;>simp<;>omega
def EE(n:Nat):qz [nD n]=.ok (.bl (rB n)):=by delta qz aK Me aQ;rw[qH _ _ 4449 n 4469 _ _ _ _ rfl rfl rfl];simp only[ai,rB];congr 3<;>simp<;>omega
def Nj(n:Nat):vZ [nD n]=.ok (.bl (xD n)):=by delta vZ aK Mf aQ;rw[qH _ _ 4520 n 4546 _ _ _ _ rfl rfl rfl];simp only[ai,xD];congr 3<;>simp<;>omega
abbrev outD:R Out->R D|.ok (.rt d)=>.ok d|.ok (.nx _)=>.ok .ah|.exc c=>.exc c|_=>.bad
def cb(n:Nat)(S:DL.Env->R Out)(ds:List D):aK n S ds=outD (S (be n ds)):=by rfl
@[simp]theorem lI(d:D):outD (.ok (.rt d))=.ok d:=id rfl
@[simp]theorem acX(a:DL.Env):outD (.ok (.nx a))=.ok .ah:=id rfl
@[simp]theorem acY(c:Nat):outD (.exc c)=.exc c:=id rfl
@[simp]theorem acZ[Decidable c](a b:R Out):outD (if c then a else b)=if c then outD a else outD b:=by split<;>rfl
@[simp]theorem ac0{d e:Type}[Decidable c](a b:R d)(k:d->R e):R.bind (if c then a else b) k=if c then R.bind a k else R.bind b k:=by split<;>rfl
abbrev j3(T:DL.Env->R Out):Out->R Out|.nx a=>T a|o=>.ok o
@[simp]theorem dP(T:DL.Env->R Out)(a:DL.Env):j3 T (.nx a)=T a:=id rfl
@[simp]theorem ac1(T:DL.Env->R Out)(d:D):j3 T (.rt d)=.ok (.rt d):=id rfl
@[simp]theorem c7(S T:DL.Env->R Out)(a:DL.Env):au S T a=(S a).bind (j3 T):=by rfl
@[simp]theorem gc(a:DL.Env):bo a=.ok (.nx a):=id rfl
@[simp]theorem gQ(E:DL.Env->R D)(a:DL.Env):aQ E a=(E a).bind λd=>.ok (.rt d):=id rfl
@[simp]theorem i8(i:Nat)(E:DL.Env->R D)(a:DL.Env):bg i E a=(E a).bind λd=>.ok (.nx (a.set i (.val d))):=id rfl
@[simp]theorem nA(E:DL.Env->R D)(a:DL.Env):eA E a=(E a).bind λ_=>.ok (.nx a):=id rfl
@[simp]theorem dQ(C:DL.Env->R Bool)(S T:DL.Env->R Out)(a:DL.Env):bf C S T a=(C a).bind λb=>if b=true then S a else T a:=id rfl
@[simp]theorem x_raise(c:Nat)(a:DL.Env):ia c a=.exc c:=id rfl
@[simp]theorem mC(d:D)(a:DL.Env):eC d a=.ok d:=id rfl
@[simp]theorem ac2(d:D)(a:DL.Env):aa 0 (.val d::a)=.ok d:=id rfl
@[simp]theorem ac3(n:Nat)(s:Slot)(a:DL.Env):aa (n+1) (s::a)=aa n a:=id rfl
@[simp]theorem ac4(ds:List D)(a:DL.Env):fC 0 (.aL ds::a)=.ok ds:=id rfl
@[simp]theorem ac5(n:Nat)(s:Slot)(a:DL.Env):fC (n+1) (s::a)=fC n a:=id rfl
@[simp]theorem t4(C:Int->Int->Bool)(f:Int->Int->D)(b c:DL.Env->R D)(a:DL.Env):aM C f b c a=(b a).bind λx=>(c a).bind λy=>mh x y λi j=>if C i j=true then .ok (f i j)else .bad:=id rfl
@[simp]theorem ac6(p q:Int->Int->Bool)(b c d:DL.Env->R D)(a:DL.Env):ez p q b c d a=(b a).bind λx=>(c a).bind λy=>mh x y λi j=>if p i j=true then(d a).bind λz=>mh (.int j) z λj k=>.ok (.bl (q j k))else .ok (.bl false):=rfl
abbrev wA{a:Type}(d:D)(k:Bool->R a):R a:=match d with|.bl c=>k c|_=>.bad
@[simp]theorem dz{a:Type}(c:Bool)(k:Bool->R a):wA (.bl c) k=k c:=id rfl
@[simp]theorem EF(b d:DL.Env->R D)(a:DL.Env):f8 b d a=(b a).bind λx=>wA x λc=>if c=true then d a else .ok (.bl false):=id rfl
@[simp]theorem ZM(b d:DL.Env->R D)(a:DL.Env):oJ b d a=(b a).bind λx=>wA x λc=>if c=true then .ok (.bl true)else d a:=id rfl
@[simp]theorem ac7(a:DL.Env->R D)(b:DL.Env):ln a b=(a b).bind λx=>wA x λc=>.ok (.bl (!c)):=id rfl
@[simp]theorem dh(E:DL.Env->R D)(a:DL.Env):cB E a=(E a).bind λd=>wA d λb=>.ok b:=id rfl
@[simp]theorem zY(C c:DL.Env->R Bool)(a:DL.Env):h8 C c a=(C a).bind λb=>if b=true then c a else .ok false:=id rfl
@[simp]theorem t5(C c:DL.Env->R Bool)(a:DL.Env):iX C c a=(C a).bind λb=>if b=true then .ok true else c a:=id rfl
@[simp]theorem mD(C:DL.Env->R Bool)(a:DL.Env):eZ C a=(C a).bind λb=>.ok (!b):=id rfl
@[simp]theorem ac8(a:DL.Env):cZ a=.ok true:=id rfl
@[simp]theorem Nk(C:DL.Env->R Bool)(c d:DL.Env->R D)(a:DL.Env):kD C c d a=(C a).bind λb=>if b=true then c a else d a:=id rfl
@[simp]theorem i9(a:DL.Env):am a=.ok []:=id rfl
@[simp]theorem eM(E:DL.Env->R D)(b:DL.Env->R (List D))(a:DL.Env):ac E b a=(E a).bind λd=>(b a).bind λds=>.ok (d::ds):=id rfl
@[simp]theorem x_call(n:Nat)(F:List D->R D)(a:DL.Env->R (List D))(b:DL.Env):az n F a b=(a b).bind λds=>if ds.length=n then F ds else .bad:=id rfl
@[simp]theorem gG:bj=16777216:=by decide
@[simp]theorem ac9(a:DL.Env->R (List D))(b:DL.Env):dN a b=(a b).bind λds=>if ds.length<=bj then .ok (.tup ds)else .bad:=id rfl
@[simp]theorem zZ(a:DL.Env->R (List D))(b:DL.Env):de a b=(a b).bind λds=>if ds.length<=bj then .ok (.lst ds)else .bad:=id rfl
abbrev Nl{a:Type}(d:D)(k:List D->R a):R a:=match d with|.lst ds=>k ds|_=>.bad
@[simp]theorem j5{a:Type}(ds:List D)(k:List D->R a):Nl (.lst ds) k=k ds:=id rfl
@[simp]theorem j7(E:DL.Env->R D)(a:DL.Env):eL E a=(E a).bind λd=>Nl d λds=>.ok ds:=id rfl
abbrev Nm{a:Type}(d:D)(k:List D->R a):R a:=match d with|.tup ds=>k ds|_=>.bad
@[simp]theorem ada{a:Type}(ds:List D)(k:List D->R a):Nm (.tup ds) k=k ds:=id rfl
@[simp]theorem adb(E:DL.Env->R D)(a:DL.Env):kE E a=(E a).bind λd=>Nm d λds=>.ok ds:=id rfl
abbrev dC{b c:Type}(o:Option b)(k:b->R c):R c:=match o with|some a=>k a|none=>.bad
@[simp]theorem cW{b c:Type}(a:b)(k:b->R c):dC (some a) k=k a:=id rfl
abbrev pa{a:Type}(c:Nat)(d:D)(k:List D->R a):R a:=match d with|.ins c' fs=>if c'=c then k fs else .bad|_=>.bad
@[simp]theorem adc{d:Type}(c:Nat)(fs:List D)(k:List D->R d):pa c (.ins c fs) k=k fs:=by simp[pa]
@[simp]theorem t6 (c j:Nat) (a:DL.Env->R D) (b:DL.Env):ao c j a b=(a b).bind λo=>pa c o λfs=>dC fs[j]? .ok:=by
  delta ao pa dC;congr 1;funext o;cases o with
  |ins c' fs=>
   dsimp only;split;·cases fs[j]?<;>rfl
   ·rfl|_=>rfl
@[simp]theorem Nn(c n:Nat)(F:List D->R D)(b:DL.Env->R D)(d:DL.Env->R (List D))(a:DL.Env):dI c n F b d a=(b a).bind λo=>pa c o λfs=>(d a).bind λds=>if(D.ins c fs::ds).length=n then F (.ins c fs::ds)else .bad:=by
  delta dI pa;congr 1;funext o;cases o with
  |ins c' fs=>
   dsimp only;split;·rename_i h;subst h;rfl
   ·rfl|_=>rfl
abbrev lJ{a:Type}(d:D)(k:Int->R a):R a:=match d with|.int c=>k c|_=>.bad
@[simp]theorem EG{a:Type}(c:Int)(k:Int->R a):lJ (.int c) k=k c:=id rfl
@[simp]theorem qI(ds:List D)(i:Int):mj (.lst ds) (.int i)=dC (ew ds i) .ok:=by delta mj dC;dsimp only;cases ew ds i<;>rfl
@[simp]theorem ade(ds:List D)(i:Int):mj (.tup ds) (.int i)=dC (ew ds i) .ok:=by delta mj dC;dsimp only;cases ew ds i<;>rfl
@[simp]theorem qJ(b c:DL.Env->R D)(a:DL.Env):bc b c a=(b a).bind λx=>(c a).bind λy=>mj x y:=id rfl
@[simp]theorem ZN(b:DL.Env->R (List D))(c:DL.Env->R D)(a:DL.Env):lp b c a=(b a).bind λds=>(c a).bind λy=>mj (.lst ds) y:=id rfl
@[simp]theorem ZO(a:DL.Env):ir a=.ok none:=id rfl
@[simp]theorem ZQ(E:DL.Env->R D)(a:DL.Env):cN E a=(E a).bind λd=>lJ d λi=>.ok (some i):=id rfl
@[simp]theorem No(b:DL.Env->R (List D))(c d:DL.Env->R (Option Int))(a:DL.Env):ei b c d a=(b a).bind λds=>(c a).bind λlo=>(d a).bind λe=>.ok (.lst (cutD ds lo e)):=id rfl
abbrev Np(d:D):R D:=match d with|.lst ds=>.ok (.int ds.length)|.tup ds=>.ok (.int ds.length)|_=>.bad
@[simp]theorem z0(ds:List D):Np (.lst ds)=.ok (.int ds.length):=id rfl
@[simp]theorem z7(a:DL.Env->R D)(b:DL.Env):cE a b=(a b).bind Np:=id rfl
@[simp]theorem adf(a:DL.Env->R (List D))(b:DL.Env):sS a b=(a b).bind λds=>.ok (.int ds.length):=id rfl
@[simp]theorem EH(f:List Bool->Bool)(a:DL.Env->R (List D))(b:DL.Env):eJ f a b=(a b).bind λds=>dC (f9 ds) λbs=>.ok (.bl (f bs)):=by delta eJ dC;congr 1;funext ds;cases f9 ds<;>rfl
@[simp]theorem t7(a:Bool)(d e:DL.Env->R D)(c:DL.Env):bC a d e c=(d c).bind λx=>(e c).bind λy=>dC (sR x y) λb=>.ok (.bl (if a=true then !b else b)):=by delta bC dC;congr 1;funext x;congr 1;funext y;cases sR x y<;>rfl
@[simp]theorem wB(i j:Int):sR (.int i) (.int j)=some (decide (i=j)):=id rfl
@[simp]theorem ZR(i j:Bool):sR (.bl i) (.bl j)=some (decide (i=j)):=id rfl
@[simp]theorem adg(a:DL.Env->R D)(b:DL.Env):lD a b=(a b).bind λx=>lJ x λi=>.ok (.int (-i)):=id rfl
abbrev z8:D->Bool|.ah=>true|_=>false
@[simp]theorem adh:z8 .ah=true:=id rfl
@[simp]theorem adi(i:Int):z8 (.int i)=false:=id rfl
@[simp]theorem adj(a:Bool)(b:DL.Env->R D)(c:DL.Env):jY a b c=(b c).bind λx=>.ok (.bl (if z8 x=true then !a else a)):=by delta jY z8;congr 1;funext x;cases x<;>rfl
@[simp]theorem t8(b:DL.Env->R (List D))(T:D->DL.Env->R DL.Env)(S:DL.Env->R Out)(a:DL.Env):fq b T S a=(b a).bind λds=>forL T S ds a:=id rfl
@[simp]theorem ZS(i:Nat)(d:D)(a:DL.Env):a1 i d a=.ok (a.set i (.val d)):=id rfl
@[simp]theorem z9(T:D->DL.Env->R DL.Env)(S:DL.Env->R Out)(a:DL.Env):forL T S [] a=.ok (.nx a):=id rfl
abbrev wC(k:DL.Env->R Out):Out->R Out|.nx a=>k a|.ct a=>k a|.bk a=>.ok (.nx a)|.rt d=>.ok (.rt d)
@[simp]theorem lK(k:DL.Env->R Out)(a:DL.Env):wC k (.nx a)=k a:=id rfl
@[simp]theorem adk(k:DL.Env->R Out)(d:D):wC k (.rt d)=.ok (.rt d):=id rfl
def kP(i:Nat)(S:DL.Env->R Out)(d:D)(r:List D)(a:DL.Env):forL (a1 i) S (d::r) a=(S (a.set i (.val d))).bind (wC (forL (a1 i) S r)):=by rfl
abbrev EI(r:R (List D)):R D:=match r with|.ok xs=>if xs.length<=bj then .ok (.lst xs)else .bad|_=>.bad
@[simp]theorem nB(xs:List D):EI (.ok xs)=if xs.length<=bj then .ok (.lst xs)else .bad:=id rfl
@[simp]theorem nE(b:DL.Env->R (List D))(T:D->DL.Env->R DL.Env)(C:DL.Env->R Bool)(E:DL.Env->R D)(vs:List Nat)(a:DL.Env):cw b T C E vs a=(b a).bind λds=>EI (e8 T C E (fo a vs) ds):=by rfl
def pb{c:Type}(i:Nat)(E:DL.Env->R D)(b:DL.Env)(f g:c->D)(h:∀a,E (b.set i (.val (f a)))=.ok (g a)):∀l:List c,e8 (a1 i) cZ E b (l.map f)=.ok (l.map g)|[]=>rfl|a::l=>by simp[e8,h,pb i E b f g h l]
def wE{d:Type}(i:Nat)(E:DL.Env->R D)(c:DL.Env)(f g:d->D):∀l:List d,(∀a∈l,E (c.set i (.val (f a)))=.ok (g a))->e8 (a1 i) cZ E c (l.map f)=.ok (l.map g)|[],_=>rfl|a::l,h=>by simp[e8,h a (by simp),wE i E c f g l λb e=>h b (by simp[e])]
def Nq{c:Type}(i:Nat)(C:DL.Env->R Bool)(E:DL.Env->R D)(b:DL.Env)(f g:c->D)(p:c->Bool)(d:∀a,C (b.set i (.val (f a)))=.ok (p a))(h:∀a,E (b.set i (.val (f a)))=.ok (g a)):∀l:List c,e8 (a1 i) C E b (l.map f)=.ok ((l.filter p).map g)|[]=>rfl|a::l=>by cases e:p a<;>simp[e8,h,d,e,Nq i C E b f g p d h l]
@[simp]theorem EJ{b:Type}(f:b->Bool)(l:List b):f9 (l.map λa=>D.bl (f a))=some (l.map f):=by rw[show(l.map λa=>D.bl (f a))=(l.map f).map D.bl by simp];exact VN _
@[simp]theorem Nr{b:Type}(f:b->Int)(l:List b):ints? (l.map λa=>D.int (f a))=some (l.map f):=by rw[show(l.map λa=>D.int (f a))=(l.map f).map D.int by simp];exact ints_map _
@[simp]theorem jG(l:List Nat):ints? (l.map nD)=some (l.map λn:Nat=>(n:Int)):=Nr (λn:Nat=>n) l
@[simp]theorem ZT(a:DL.Env):fo a []=a:=id rfl
@[simp]theorem ZU(a:DL.Env)(v:Nat)(vs:List Nat):fo a (v::vs)=(fo a vs).set v .ah:=id rfl
@[simp]theorem adl(n:Nat)(a:List D->DL.Env->R DL.Env)(ds:List D)(b:DL.Env):jA n a (.tup ds) b=if ds.length=n then a ds b else .bad:=id rfl
@[simp]theorem adm(a:DL.Env):j0 [] a=.ok a:=id rfl
@[simp]theorem adn(T:D->DL.Env->R DL.Env)(a:List D->DL.Env->R DL.Env)(d:D)(r:List D)(b:DL.Env):e7 T a (d::r) b=(T d b).bind (a r):=id rfl
@[simp]theorem ado(T:D->DL.Env->R DL.Env)(C:DL.Env->R Bool)(E:DL.Env->R D)(a:DL.Env):e8 T C E a []=.ok []:=id rfl
@[simp]theorem ZV(T:D->DL.Env->R DL.Env)(C:DL.Env->R Bool)(E:DL.Env->R D)(c:DL.Env)(d:D)(r:List D):e8 T C E c (d::r)=(T d c).bind λa=>(C a).bind λb=>if b=true then(E a).bind λx=>(e8 T C E c r).bind λxs=>.ok (x::xs)else e8 T C E c r:=id rfl
@[simp]theorem adp(b:Bool)(r:List D):f9 (.bl b::r)=(f9 r).map (b::·):=id rfl
@[simp]theorem adq:f9 []=some []:=id rfl
@[simp]theorem ads[Decidable p](b:Bool):(if p then(R.ok (D.bl b):R D)else R.ok (D.bl false))=R.ok (D.bl (decide p&&b)):=by by_cases h:p<;>simp[h]@[simp]theorem adt {p:Prop} [Decidable p] (b:Bool):(if p then(R.ok (D.bl true))else R.ok (D.bl b))=R.ok (D.bl (decide p||b)):=by by_cases h:p<;>simp[h]@[simp]theorem adu {p:Prop} [Decidable p] (b:Bool):(if p then(R.ok b)else R.ok false)=R.ok (decide p&&b):=by by_cases h:p<;>simp[h]@[simp]theorem adv {p:Prop} [Decidable p] (b:Bool):(if p then(R.ok true)else R.ok b)=R.ok (decide p||b):=by by_cases h:p<;>simp[h]abbrev wF {a:Type} (o:Option Slot) (k:List D->R a):R a:=match o with|some (.aL ds)=>k ds|_=>.bad
@[simp]theorem adw{a:Type}(ds:List D)(k:List D->R a):wF (some (.aL ds)) k=k ds:=id rfl
@[simp]theorem adx(i:Nat)(b:DL.Env->R (List D))(a:DL.Env):gy i b a=(b a).bind λds=>if ds.length<=bj/\i<a.length then .ok (.nx (a.set i (.aL ds)))else .bad:=id rfl
@[simp]theorem ady(i:Nat)(E:DL.Env->R D)(a:DL.Env):eK i E a=wF a[i]? λds=>(E a).bind λd=>if ds.length<bj then .ok (.nx (a.set i (.aL (ds++[d]))))else .bad:=by rfl
@[simp]theorem adz(i:Nat)(E:DL.Env->R (List D))(a:DL.Env):gL i E a=wF a[i]? λds=>(E a).bind λb=>if ds.length+b.length<=bj then .ok (.nx (a.set i (.aL (ds++b))))else .bad:=by rfl
abbrev Aa(o:Option Slot):R Out:=match o with|some (.aL ds)=>.ok (.rt (.lst ds))|some (.f7 ks ds)=>.ok (.rt (.dk ks ds))|some (.eH ks ds)=>.ok (.rt (.dt ks ds))|_=>.bad
@[simp]theorem adA(ds:List D):Aa (some (.aL ds))=.ok (.rt (.lst ds)):=id rfl
@[simp]theorem adB(ks:List Int)(ds:List D):Aa (some (.f7 ks ds))=.ok (.rt (.dk ks ds)):=id rfl
@[simp]theorem adC(ks:List (List Int))(ds:List D):Aa (some (.eH ks ds))=.ok (.rt (.dt ks ds)):=id rfl
@[simp]theorem adD(i:Nat)(a:DL.Env):gK i a=Aa a[i]?:=id rfl
abbrev Nt{a:Type}(o:Option Slot)(k:Int->R a):R a:=match o with|some (.val (.int m))=>k m|_=>.bad
@[simp]theorem adE{a:Type}(m:Int)(k:Int->R a):Nt (some (.val (.int m))) k=k m:=id rfl
def fS{a b:Type}{m:R a}{f g:a->R b}(h:∀x,f x=g x):m.bind f=m.bind g:=by rw[funext h]
@[simp]theorem adF(i:Nat)(f:Int->Int->Int)(E:DL.Env->R D)(a:DL.Env):nj i f E a=Nt a[i]? λm=>(E a).bind λd=>lJ d λn=>.ok (.nx (a.set i (.val (.int (f m n))))):=by rfl
@[simp]theorem adG(i:Nat)(b c:DL.Env->R D)(a:DL.Env):sX i b c a=(c a).bind λd=>wF a[i]? λds=>(b a).bind λk=>lJ k λk=>dC (h0 ds.length k) λj=>.ok (.nx (a.set i (.aL (ds.set j d)))):=fS λd=>by cases a[i]?with|none=>rfl|some s=>cases s<;>first|rfl|exact fS λk=>by cases k<;>first|rfl|(delta lJ dC;dsimp only;cases h0 _ _<;>rfl)
@[simp]theorem adH(i:Nat)(a:DL.Env):sU i a=if i<a.length then .ok (.nx (a.set i (.f7 [] [])))else .bad:=id rfl
@[simp]theorem adI(i:Nat)(a:DL.Env):sV i a=if i<a.length then .ok (.nx (a.set i (.eH [] [])))else .bad:=id rfl
abbrev Nu{a:Type}(o:Option Slot)(k:List Int->List D->R a):R a:=match o with|some (.f7 ks ds)=>k ks ds|_=>.bad
@[simp]theorem adJ{a:Type}(ks:List Int)(ds:List D)(k:List Int->List D->R a):Nu (some (.f7 ks ds)) k=k ks ds:=id rfl
abbrev EK{a:Type}(o:Option Slot)(k:List (List Int)->List D->R a):R a:=match o with|some (.eH ks ds)=>k ks ds|_=>.bad
@[simp]theorem adK{a:Type}(ks:List (List Int))(ds:List D)(k:List (List Int)->List D->R a):EK (some (.eH ks ds)) k=k ks ds:=id rfl
@[simp]theorem adL(i:Nat)(b c:DL.Env->R D)(a:DL.Env):qh i b c a=(c a).bind λd=>Nu a[i]? λks ds=>(b a).bind λk=>lJ k λk=>if ks.Nodup/\ks.length<bj then .ok (.nx (a.set i (.f7 (cV ks ds k d).1 (cV ks ds k d).2)))else .bad:=by rfl
@[simp]theorem adM(i:Nat)(b:DL.Env->R (List D))(c:DL.Env->R D)(a:DL.Env):vz i b c a=(c a).bind λd=>EK a[i]? λks ds=>(b a).bind λxs=>dC (ints? xs) λk=>if xs.length<=bj/\ks.Nodup/\ks.length<bj then .ok (.nx (a.set i (.eH (cV ks ds k d).1 (cV ks ds k d).2)))else .bad:=fS λd=>by cases a[i]?with|none=>rfl|some s=>cases s<;>first|rfl|exact fS λxs=>by cases ints? xs<;>rfl
abbrev mv{a:Type}(d:D)(k:List Int->R a):R a:=match d with|.tk ks=>k ks|_=>.bad
@[simp]theorem Nv{a:Type}(ks:List Int)(k:List Int->R a):mv (.tk ks) k=k ks:=id rfl
@[simp]theorem adN(i:Nat)(b c:DL.Env->R D)(a:DL.Env):vS i b c a=(c a).bind λd=>EK a[i]? λks ds=>(b a).bind λk=>mv k λk=>if ks.Nodup/\ks.length<bj then .ok (.nx (a.set i (.eH (cV ks ds k d).1 (cV ks ds k d).2)))else .bad:=by rfl
@[simp]theorem adO(a:DL.Env->R (List D))(b:DL.Env):qu a b=(a b).bind λds=>dC (ints? ds) λns=>.ok (.tk ns):=fS λds=>by delta dC;cases ints? ds<;>rfl
abbrev pd{a:Type}(c:Nat)(o:Option Slot)(k:List D->R a):R a:=match o with|some (.dv c' ds)=>if c'=c then k ds else .bad|_=>.bad
@[simp]theorem wG{a:Type}(c:Nat)(ds:List D)(k:List D->R a):pd c (some (.dv c ds)) k=k ds:=ax rfl
@[simp]theorem ZW(i c j:Nat)(E:DL.Env->R D)(a:DL.Env):cx i c j E a=(E a).bind λd=>pd c a[i]? λds=>if ds.length=j then .ok (.nx (a.set i (.dv c (ds++[d]))))else .bad:=fS λd=>by cases a[i]?with|none=>rfl|some s=>cases s<;>first|rfl|(delta pd;dsimp only;split<;>simp_all)
@[simp]theorem wH(i c j:Nat)(a:DL.Env):dw i c j a=pd c a[i]? λds=>dC ds[j]? .ok:=by delta dw;cases a[i]?with|none=>rfl|some s=>cases s<;>first|rfl|(delta pd dC;dsimp only;congr 1;split<;>simp_all)
@[simp]theorem Ab(c n:Nat)(F:List D->R (List D))(a:DL.Env->R (List D))(b:DL.Env):eI c n F a b=(a b).bind λds=>if ds.length=n then(match F ds with|.ok fs=>.ok (.ins c fs)|_=>.bad)else .bad:=id rfl
abbrev outI(c m:Nat)(r:R Out):R (List D):=match r with|.ok (.nx a)=>pd c a[0]? λfs=>if fs.length=m then .ok fs else .bad|_=>.bad
def Nw(n c m:Nat)(S:DL.Env->R Out)(ds:List D):iv n c m S ds=outI c m (S (tQ n c ds)):=by delta iv outI pd;cases S _ with|bad=>rfl|exc _=>rfl|ok o=>cases o with|nx a=>dsimp only;split<;>(try simp_all);all_goals(try(split<;>simp_all))|_=>rfl
@[simp]theorem ZX(c m:Nat)(a:DL.Env):outI c m (.ok (.nx a))=pd c a[0]? λfs=>if fs.length=m then .ok fs else .bad:=id rfl
@[simp]theorem ZY(a:DL.Env->R (List D))(b:DL.Env):zi a b=(a b).bind λds=>.ok (.lst ds):=id rfl
@[simp]theorem adP(a:DL.Env->R (List D))(b:DL.Env):D9 a b=(a b).bind λds=>dC (ints? ds) λns=>.ok (.int ns.sum):=fS λds=>by delta dC;cases ints? ds<;>rfl
@[simp]theorem adQ(b c:DL.Env->R D)(a:DL.Env):vO b c a=(b a).bind λx=>(c a).bind λy=>mh x y λi j=>.ok (.int (if j<i then j else i)):=id rfl
@[simp]theorem EL(a:DL.Env->R (List D))(b:DL.Env):jz a b=(a b).bind qg:=id rfl
@[simp]theorem ZZ(a:DL.Env->R (List D))(b:DL.Env):qt a b=(a b).bind tM:=id rfl
@[simp]theorem adR(a:DL.Env->R (List D))(b:DL.Env):vX a b=(a b).bind Eh:=id rfl
@[simp]theorem Z0(a:DL.Env->R (List D))(b:DL.Env):vV a b=(a b).bind λds=>.ok (kK 0 ds):=id rfl
@[simp]theorem adS(a:DL.Env->R (List D))(b:DL.Env):vW a b=(a b).bind λds=>.ok (kK 1 ds):=id rfl
@[simp]theorem adT(a:DL.Env->R (List D))(b:DL.Env):qx a b=(a b).bind λds=>.ok (.lst ds.reverse):=id rfl
@[simp]theorem Z1(b c:DL.Env->R (List D))(a:DL.Env):sQ b c a=(b a).bind λx=>(c a).bind λy=>if x.length+y.length<=bj then .ok (.lst (x++y))else .bad:=id rfl
@[simp]theorem qK(f:List Int->List Int->Bool)(b c:DL.Env->R (List D))(a:DL.Env):h7 f b c a=(b a).bind λx=>(c a).bind λy=>dC (ints? x) λns=>dC (ints? y) λd=>.ok (.bl (f ns d)):=fS λx=>fS λy=>by cases ints? x<;>cases ints? y<;>rfl
abbrev Ac{a:Type}(d:D)(k:List Int->List D->R a):R a:=match d with|.dk ks ds=>k ks ds|_=>.bad
@[simp]theorem adU{a:Type}(ks:List Int)(ds:List D)(k:List Int->List D->R a):Ac (.dk ks ds) k=k ks ds:=id rfl
abbrev pf{a:Type}(d:D)(k:List (List Int)->List D->R a):R a:=match d with|.dt ks ds=>k ks ds|_=>.bad
@[simp]theorem adV{a:Type}(ks:List (List Int))(ds:List D)(k:List (List Int)->List D->R a):pf (.dt ks ds) k=k ks ds:=id rfl
@[simp]theorem Z2(a:Bool)(c e:DL.Env->R D)(b:DL.Env):dY a c e b=(c b).bind λk=>(e b).bind λd=>lJ k λk=>Ac d λks ds=>.ok (.bl (if a=true then !(cF ks ds k).isSome else(cF ks ds k).isSome)):=fS λk=>fS λd=>by cases k<;>first|rfl|(cases d<;>rfl)
@[simp]theorem Z4(b c:DL.Env->R D)(a:DL.Env):jZ b c a=(b a).bind λd=>(c a).bind λk=>Ac d λks ds=>lJ k λk=>dC (cF ks ds k) .ok:=fS λd=>fS λk=>by cases d<;>first|rfl|(cases k<;>first|rfl|(rename_i ks ds k;show(match cF ks ds k with|_=>_)=dC (cF ks ds k) _;cases cF ks ds k<;>rfl))
@[simp]theorem adW(b:DL.Env->R (List D))(c:DL.Env->R D)(a:DL.Env):vu b c a=(b a).bind λxs=>if xs.length<=bj then(c a).bind λd=>dC (ints? xs) λk=>pf d λks ds=>.ok (.bl (cF ks ds k).isSome)else .bad:=fS λxs=>by congr 1;exact fS λd=>by cases ints? xs<;>first|rfl|(cases d<;>rfl)
@[simp]theorem adX(b:DL.Env->R D)(c:DL.Env->R (List D))(a:DL.Env):vv b c a=(b a).bind λd=>(c a).bind λxs=>if xs.length<=bj then dC (ints? xs) λk=>pf d λks ds=>dC (cF ks ds k) .ok else .bad:=fS λd=>fS λxs=>by congr 1;cases ints? xs<;>first|rfl|(rename_i k;cases d<;>first|rfl|(rename_i ks ds;unfold dC pf;dsimp only;cases cF ks ds k<;>rfl))
@[simp]theorem Z5(b c:DL.Env->R D)(a:DL.Env):vP b c a=(b a).bind λk=>(c a).bind λd=>mv k λk=>pf d λks ds=>.ok (.bl (cF ks ds k).isSome):=fS λk=>fS λd=>by cases k<;>first|rfl|(cases d<;>rfl)
@[simp]theorem Z6(b c:DL.Env->R D)(a:DL.Env):vR b c a=(b a).bind λd=>(c a).bind λk=>pf d λks ds=>mv k λk=>dC (cF ks ds k) .ok:=fS λd=>fS λk=>by cases d<;>first|rfl|(cases k<;>first|rfl|(rename_i ks ds k;delta pf mv dC;dsimp only;cases cF ks ds k<;>rfl))
abbrev in1(a:Bool)(i:Int)(d:D):R D:=match d with|.tup ds=>dC (ints? ds) λns=>.ok (.bl (if a=true then !(ns.any λn=>n==i)else ns.any λn=>n==i))|.lst ds=>dC (ints? ds) λns=>.ok (.bl (if a=true then !(ns.any λn=>n==i)else ns.any λn=>n==i))|_=>.bad
@[simp]theorem adY(a:Bool)(i:Int)(ds:List D):in1 a i (.tup ds)=dC (ints? ds) λns=>.ok (.bl (if a=true then !(ns.any λn=>n==i)else ns.any λn=>n==i)):=id rfl
@[simp]theorem adZ(a:Bool)(c d:DL.Env->R D)(b:DL.Env):ml a c d b=(c b).bind λx=>(d b).bind λy=>lJ x λi=>in1 a i y:=fS λx=>fS λy=>by cases x<;>first|rfl|(cases y<;>first|rfl|(rename_i i ds;delta lJ in1 dC;dsimp only;cases ints? ds<;>rfl))
@[simp]theorem Z7(i:Nat)(b:DL.Env->R (List D))(T:D->DL.Env->R DL.Env)(C:DL.Env->R Bool)(E:DL.Env->R D)(vs:List Nat)(a:DL.Env):vU i b T C E vs a=(b a).bind λds=>match e8 T C E (fo a vs) ds with|.ok xs=>if xs.length<=bj/\i<a.length then .ok (.nx (a.set i (.aL xs)))else .bad|_=>.bad:=rfl
@[simp]theorem ad0(i:Nat)(E:DL.Env->R D)(a:DL.Env):qv i E a=wF a[i]? λds=>(E ((tN a).set i (.val (.lst ds)))).bind λd=>if vT d=true then .ok d else .bad:=by rfl
@[simp]theorem ad1(i:Int)(r:List D):ints? (.int i::r)=(ints? r).map (i::·):=id rfl
@[simp]theorem ad2:ints? []=some []:=id rfl
def tc(a b lo c:Nat):(decide ((a:Int)<=(c:Int))&&decide ((lo:Int)<=b))=rW ⟨a,b,0⟩ lo c:=by simp only[Int.ofNat_le];rfl
def Ny(a b:Nat):v8 [nD a,nD b]=.ok (.bl (rW ⟨a,b,0⟩ 0xAC00 0xD7A3||rW ⟨a,b,0⟩ 0x1100 0x1112||rW ⟨a,b,0⟩ 0x1161 0x1175||rW ⟨a,b,0⟩ 0x11A8 0x11C2)):=by rw[<-tc,<-tc,<-tc,<-tc,G0,G0];show aK 5 _ _=_;rw[cb];delta Mg;simp[be,jn]
def Z8(c:Nat)(h:fW c=true):zF [nD c]=.ok (al (xC c)):=by
 show aK 6 _ _=_;rw[cb];delta Mh;haveI b:44032<=c/\c<=55203:=by simpa[fW,em]using h
 obtain⟨s,rfl⟩:∃s,c=44032+s:=⟨c-44032,by lia⟩;haveI a:(44032+s-44032)=s:=by lia
 simp[be,kF,a];delta xC;grind
def Z9(a b:Nat):v9 [nD a,nD b]=.ok (if rA a=true/\rB b=true then nD (0xAC00+((a-0x1100)*21+(b-0x1161))*28)
 else if fW a=true/\(a-0xAC00)%28=0/\xD b=true then nD (a+(b-0x11A7))else .ah):=by
 show aK 2 _ _=_;rw[cb];delta Mi;simp[be,Ni,EE,ED,Nj,nq];split
 ·rename_i h;have c:4352<=a:=by have:=h.1;simp[rA,em]at this;lia
  have d:4449<=b:=by have:=h.2;simp[rB,em]at this;lia
  grind
 ·by_cases e:fW a=true
  ·haveI c:44032<=a:=by simp[fW,em]at e;lia
   by_cases f:xD b=true
   ·have d:4519<=b:=by simp[xD,em]at f;lia
    grind
   simp_all
  simp_all
def EM{c:Type}(f:c->D)(l:List c)(a b:Nat):cutD (l.map f) (some (a:Int)) (some (b:Int))=((l.drop a).take (b-a)).map f:=by
 delta cutD;rw[HT.oC,HT.oC,bZ,G1,Bq];by_cases d:a<=l.length
 ·rw[rD d];by_cases e:b<=l.length;·simp_all
  ·rw[acz (by lia)];rw[mJ (by simp),mJ (by simp;lia)]
 ·rw[l4 (by simp;lia),l4 (by simp;lia)];simp
def Nz{a:Type}(f:a->D)(l:List a)(b:Nat):cutD (l.map f) none (some (b:Int))=(l.take b).map f:=by delta cutD;rw[HT.oC,HT.yI];simp
def NA{b:Type}(f:b->D)(l:List b)(a:Nat):cutD (l.map f) (some (a:Int)) none=(l.drop a).map f:=by
 delta cutD;rw[HT.oC,HT.yI,bZ,Bq];by_cases c:a<=l.length;·rw[rD c,mJ (by simp)]
 ·rw[l4 (by simp;lia),l4 (by simp;lia)];simp
abbrev fb(k:Nat):Nat->List Nat->List (List Nat)|0,_=>[]|n+1,l=>l.take k::fb k n (l.drop k)
def NB(k:Nat):∀(n:Nat)(l:List Nat),fb k n l=(bU n).map λi=>(l.drop (i*k)).take k|0,_=>rfl|n+1,l=>by rw[fb,NB k n,GA];simp[acA,G2,Nat.add_comm]
def NC(k:Nat)(a:0<k):∀(n f:Nat)(l:List Nat),l.length=n*k->n<=f->pK k f l=fb k n l
 |0,f,l,h,_=>by have:l=[]:=QG.mp (by lia);subst this;cases f<;>simp[pK,fb]|n+1,0,l,h,hf=>by lia
 |n+1,f+1,l,h,hf=>by
  have b:l≠[]:=by rintro rfl;simp[G2]at h;lia
  haveI c:(l.drop k).length=n*k:=by rw[RH,h,G2];lia
  simp[pK,fb,b,NC k a n f (l.drop k) (by simpa using c) (by lia)]
def wI(k n:Nat)(l:List Nat)(b:k=3\/k=4\/k=6)(d:l.length=n*k)(o:n<=1000):kM [al l,.int k]=.ok (.lst ((fb k n l).map al)):=by
 show aK 3 _ _=_;rw[cb];delta Mj;have c:rM 0 l.length k=n:=by delta rM;rcases b with rfl|rfl|rfl<;>grind<;>split<;>lia
 haveI f:Bf 0 l.length k=true:=by delta Bf;rw[c,d];simp only[Builtin.Range.rangeFitsLong];rcases b with rfl|rfl|rfl<;>simp<;>lia
 haveI g:tM [.int 0,.int l.length,.int k]=.ok (jy 0 k n):=by delta tM;dsimp only;rw[ax ⟨by lia,by lia,f,by lia⟩,c];rfl
 haveI e:=wE 2 (ei (eL (aa 0)) (cN (aa 2)) (cN (aM cT (λi j=>.int (i+j)) (aa 2) (aa 1)))) [Slot.val (al l),.val (.int k),.ah] (λi:Nat=>.int (0+i*k)) (λi=>al _) (bU n) (λi _=>by
  haveI h:(0+i*k)=((i*k:Nat):Int):=by simp
  haveI m:(((i*k:Nat):Int)+k)=((i*k+k:Nat):Int):=by rfl
  show R.ok _=_;rw[h,m,EM]);simp[be,g];delta jy;rw[e,NB];haveI a:n<=16777216:=by lia
 simp[a]
@[simp]theorem ad3(a b:Nat):((a:Int)=(b:Int))=(a=b):=propext Int.ofNat_inj
@[simp]theorem ad4(a b:Nat):((a:Int)<=(b:Int))=(a<=b):=propext Int.ofNat_le
@[simp]theorem ad5(a b:Nat):((a:Int)<(b:Int))=(a<b):=propext Int.ofNat_lt
section
variable{α:Type}[DecidableEq α]
def ND:∀(ks:List α)(ds:List D)(k:α)(d:D)(k':α),ks.length=ds.length->cF (cV ks ds k d).1 (cV ks ds k d).2 k'=if k=k' then some d else cF ks ds k'
 |[],[],k,d,k',_=>by by_cases h:k=k'<;>simp[cV,cF,h]|[],_::_,k,d,k',h=>by simp at h|_::_,[],k,d,k',h=>by simp at h
 |a::ks,x::ds,k,d,k',h=>by
  have e:=ND ks ds k d k' (by simpa using h);unfold cV;by_cases c:a=k;·subst c;by_cases b:a=k'<;>simp[cF,b]
  ·simp only[c,if_false];by_cases b:a=k';·subst b;have:¬k=a:=λz=>c z.symm;simp[cF,this]
   ·simp only[cF,GI,um,b,decide_false]at e⊢
    exact e
def NE:∀(ks:List α)(ds:List D)(k:α)(d:D),ks.length=ds.length->(cV ks ds k d).1.length=(cV ks ds k d).2.length/\(cV ks ds k d).1.length<=ks.length+1
 |[],[],k,d,_=>by simp[cV]|[],_::_,k,d,h=>by simp at h|_::_,[],k,d,h=>by simp at h
 |a::ks,x::ds,k,d,h=>by
  haveI b:=NE ks ds k d (by simpa using h);unfold cV;split;·simp at h⊢;exact h
  ·simp[b.1,b.2];haveI:=b.2;rw[b.1]at this;exact this
def NF:∀(ks:List α)(ds:List D)(k:α)(d:D)(a:α),a∈(cV ks ds k d).1->a∈ks\/a=k
 |[],ds,k,d,a,h=>by simp[cV]at h;exact .inr h|_::_,[],k,d,a,h=>by simp[cV]at h;exact .inr h
 |b::ks,x::ds,k,d,a,h=>by
  unfold cV at h;split at h;·exact .inl h
  ·rw[ff]at h;rcases h with h|h;·exact .inl (by simp[h])
   ·rcases NF ks ds k d a h with h|h;·exact .inl (by simp[h])
    ·exact .inr h
def NG:∀(ks:List α)(ds:List D)(k:α)(d:D),ks.Nodup->(cV ks ds k d).1.Nodup
 |[],ds,k,d,h=>by simp[cV]|_::_,[],k,d,h=>by simp[cV]
 |b::ks,x::ds,k,d,h=>by
  have a:=kW.mp h;unfold cV;split;·exact h
  ·rename_i c;refine kW.mpr ⟨λz=>?_,NG ks ds k d a.2⟩;rcases NF ks ds k d b z with z|z;·exact a.1 z
   ·exact c z
abbrev putAll(l:List (α×D)):List α×List D:=l.foldl (λp e=>cV p.1 p.2 e.1 e.2) ([],[])
def putAll_snoc(l:List (α×D))(e:α×D):putAll (l++[e])=cV (putAll l).1 (putAll l).2 e.1 e.2:=by simp[putAll]
def snoc_ind{b:Type}{P:List b->Prop}(c:P [])(d:∀l a,P l->P (l++[a]))(l:List b):P l:=by rw[<-List.reverse_reverse l];induction l.reverse with|nil=>exact c|cons a l e=>simp_all
def wJ(l:List (α×D)):(putAll l).1.length=(putAll l).2.length/\(putAll l).1.length<=l.length/\(putAll l).1.Nodup:=by refine snoc_ind (P:=λ(l:List (α×D))=>(putAll l).1.length=(putAll l).2.length/\(putAll l).1.length<=l.length/\(putAll l).1.Nodup) ⟨rfl,bR _,abZ⟩ (λl e a=>?_) l;rw[putAll_snoc];haveI:=NE _ _ e.1 e.2 a.1;refine⟨this.1,?_,NG _ _ _ _ a.2.2⟩;grind
def Ad(l:List (α×D))(k:α):cF (putAll l).1 (putAll l).2 k=(l.reverse.find? λe=>decide (e.1=k)).map (·.2):=by refine snoc_ind (P:=λl=>cF (putAll l).1 (putAll l).2 k=(l.reverse.find? λe=>decide (e.1=k)).map (·.2)) rfl (λl e a=>?_) l;rw[putAll_snoc,ND _ _ _ _ _ (wJ l).1,a,abA,List.reverse_singleton];by_cases h:e.1=k<;>simp[h]
end
abbrev pairD(p:kT):D:=.ins 1 [nD p.a,nD p.b,nD p.c,.lst [nD p.a,nD p.b]]
abbrev eN(r:rq):D:=.ins 2 [nD r.first,nD r.last,nD r.cls]
abbrev eO(k:jh):D:=.ins 3 [nD k.n,nD k.at_,nD k.count,al k.code,al k.code]
abbrev wD(e:Nat×Nat×Nat):D:=.ins 4 [nD e.1,nD e.2.1,nD e.2.2]
abbrev bT(t:aN)(d:jg):D:=.ins 0 [nD d.code,nD d.kind,nD d.at_,nD d.n,al (cH t d),.lst [nD d.code,nD d.kind]]
abbrev fU(t:aN)(k:Nat)(l:List jg):List (Int×D):=(l.filter λd=>d.kind==k).map λd=>((d.code:Int),al (cH t d))
abbrev iO(l:List kT):List (List Int×D):=l.map λp=>([(p.a:Int),(p.b:Int)],nD p.c)
abbrev ic(l:List kT):List (Int×D):=l.map λp=>((p.b:Int),D.bl true)
abbrev iP(l:List Nat):D:=.lst (l.map λw=>wD (ke w))
abbrev iy(t:aN)(l:List jh):List (List Int×D):=l.map λk=>((kf k).map (λn:Nat=>(n:Int)),iP ((t.weight.drop k.at_).take k.count))
abbrev lL(l:List (Int×D)):D:=.dk (putAll l).1 (putAll l).2
abbrev ph(l:List (List Int×D)):D:=.dt (putAll l).1 (putAll l).2
abbrev iz(t:aN):List D:=[al t.pool,.lst (t.dec.map (bT t)),.lst (t.pair.map pairD),.lst (t.cls.map eN),.lst (t.key.map eO),iP t.weight,lL (fU t 0 t.dec),lL (fU t 1 t.dec),ph (iO t.pair),lL (ic t.pair),ph (iy t t.key)]
abbrev aq(t:aN):D:=.ins 5 (iz t)
abbrev j8{α:Type}(c:Slot)(b:α->D)(l:List α):Slot:=match l.getLast? with|some a=>.val (b a)|none=>c
@[simp]theorem ad6{α:Type}(b:Slot)(a:α->D):j8 b a []=b:=id rfl
@[simp]theorem a_{α:Type}(d:Slot)(c:α->D)(l:List α)(a:α):j8 d c (l++[a])=.val (c a):=by simp[j8]def pi {α:Type} (v:Nat) (S:DL.Env->R Out) (c:α->D) (st:List α->DL.Env):∀(l p:List α),(∀q a r,p++l=q++a::r->S ((st q).set v (.val (c a)))=.ok (.nx (st (q++[a]))))->forL (a1 v) S (l.map c) (st p)=.ok (.nx (st (p++l)))|[],p,h=>by simp|a::l,p,h=>by rw[gv,kP,h p a l rfl,ai,lK,pi v S c st l (p++[a]) (λq b r e=>h q b r (by simp_all))];simp
def a'(t:aN)(k:Nat)(l:List jg)(g:l.length<=1000):wb [.lst (l.map (bT t)),nD k]=.ok (lL (fU t k l)):=by
 show aK 4 _ _=_;rw[cb];delta Ml;haveI h:=pi 3 (bf (cB (bC false (ao 0 1 (aa 3)) (aa 1))) (qh 2 (ao 0 0 (aa 3)) (ao 0 4 (aa 3))) bo) (bT t)
  (λp=>[.val (.lst (l.map (bT t))),.val (nD k),.f7 (putAll (fU t k p)).1 (putAll (fU t k p)).2,j8 .ah (bT t) p]) l [] (λq a r e=>by
   haveI i:q.length<1000:=by haveI:=bz ki e;simp at this;lia
   haveI d:=wJ (fU t k q);haveI j:(fU t k q).length<=q.length:=by delta fU;rw[bZ];exact acB _ _
   haveI f:(putAll (fU t k q)).1.length<16777216:=by lia
   by_cases b:a.kind=k
   ·haveI c:fU t k (q++[a])=fU t k q++[((a.code:Int),al (cH t a))]:=by simp[fU,b]
    rw[c,putAll_snoc];simp[bT,b,d.2.2,f]
   ·haveI c:fU t k (q++[a])=fU t k q:=by simp[fU,b]
    rw[c];simp[bT,b]);simp[be];simp[fU,putAll]at h;rw[h];rfl
def a?(l:List kT)(i:l.length<=1000):zK [.lst (l.map pairD)]=.ok (ph (iO l)):=by
 show aK 3 _ _=_;rw[cb];delta Mm;haveI h:=pi 2 (vz 1 (ac (ao 1 0 (aa 2)) (ac (ao 1 1 (aa 2)) am)) (ao 1 2 (aa 2))) pairD
  (λp=>[.val (.lst (l.map pairD)),.eH (putAll (iO p)).1 (putAll (iO p)).2,j8 .ah pairD p]) l [] (λq a r e=>by
   haveI j:q.length<1000:=by haveI:=bz ki e;simp at this;lia
   haveI d:=wJ (iO q);haveI k:(iO q).length=q.length:=by simp[iO]
   haveI f:(putAll (iO q)).1.length<16777216:=by lia
   haveI g:iO (q++[a])=iO q++[([(a.a:Int),a.b],nD a.c)]:=by simp[iO]
   rw[g,putAll_snoc];simp[pairD,d.2.2,f]);simp[be];simp[iO,putAll]at h;rw[h];rfl
def a!(l:List kT)(g:l.length<=1000):zL [.lst (l.map pairD)]=.ok (lL (ic l)):=by
 show aK 3 _ _=_;rw[cb];delta Mn;haveI h:=pi 2 (qh 1 (ao 1 1 (aa 2)) (eC (.bl true))) pairD
  (λp=>[.val (.lst (l.map pairD)),.f7 (putAll (ic p)).1 (putAll (ic p)).2,j8 .ah pairD p]) l [] (λq a r e=>by
   haveI i:q.length<1000:=by haveI:=bz ki e;simp at this;lia
   haveI c:=wJ (ic q);haveI j:(ic q).length=q.length:=by simp[ic]
   haveI d:(putAll (ic q)).1.length<16777216:=by lia
   haveI f:ic (q++[a])=ic q++[((a.b:Int),D.bl true)]:=by simp[ic]
   rw[f,putAll_snoc];simp[pairD,c.2.2,d]);simp[be];simp[ic,putAll]at h;rw[h];rfl
def b_(t:aN)(l:List jh)(g:l.length<=1000):zM [.lst (l.map eO),iP t.weight]=.ok (ph (iy t l)):=by
 show aK 4 _ _=_;rw[cb];delta Mo;haveI h:=pi 3 (vS 2 (qu (eL (ei (eL (ao 3 3 (aa 3))) ir (cN (ao 3 0 (aa 3)))))) (ei (eL (aa 1)) (cN (ao 3 1 (aa 3))) (cN (aM cT (λi j=>.int (i+j)) (ao 3 1 (aa 3)) (ao 3 2 (aa 3)))))) eO
  (λp=>[.val (.lst (l.map eO)),.val (iP t.weight),.eH (putAll (iy t p)).1 (putAll (iy t p)).2,j8 .ah eO p]) l [] (λq a r e=>by
   haveI k:q.length<1000:=by haveI:=bz ki e;simp at this;lia
   haveI b:=wJ (iy t q);haveI m:(iy t q).length=q.length:=by simp[iy]
   haveI c:(putAll (iy t q)).1.length<16777216:=by lia
   haveI d:iy t (q++[a])=iy t q++[((kf a).map (λn:Nat=>(n:Int)),iP ((t.weight.drop a.at_).take a.count))]:=by simp[iy]
   rw[d,putAll_snoc];haveI f:cutD (t.weight.map λw=>wD (ke w)) (some a.at_) (some (a.at_+a.count))=((t.weight.drop a.at_).take a.count).map λw=>wD (ke w):=by haveI:=EM (λw=>wD (ke w)) t.weight a.at_ (a.at_+a.count);rw[Nat.add_sub_cancel_left]at this;rw[<-this];rfl
   simp[eO,b.2.2,c,iP,Nz,f,kf,-G1]);simp[be];simp[iy,putAll]at h;rw[h];rfl
def EN{b:Type}(f:b->D)(l:List b)(a n:Nat):cutD (l.map f) (some (a:Int)) (some ((a:Int)+(n:Int)))=((l.drop a).take n).map f:=by haveI:=EM f l a (a+n);simp_all
def b?(a b c d:Nat)(e:List Nat):zG [al [a,b,c,d],al e]=.ok [nD a,nD b,nD c,nD d,al ((e.drop c).take d),.lst [nD a,nD b]]:=by delta al;rw[<-EN];kernel_rfl
def ad7(a b c:Nat):zH [al [a,b,c]]=.ok [nD a,nD b,nD c,.lst [nD a,nD b]]:=by rfl
def ad8(a b c:Nat):zI [al [a,b,c]]=.ok [nD a,nD b,nD c]:=by rfl
def ad9(a b c:Nat):qA [al [a,b,c]]=.ok [nD a,nD b,nD c]:=by rfl
def aea(a b c d e f:Nat):zJ [al [a,b,c,d,e,f]]=.ok [nD a,nD b,nD c,al [d,e,f],al [d,e,f]]:=by rfl
def Ae{r:List Nat}(h:r.length=3):∃a b c,r=[a,b,c]:=by match r,h with|[a,b,c],_=>exact⟨a,b,c,rfl⟩
def b!{r:List Nat}(h:r.length=4):∃a b c d,r=[a,b,c,d]:=by match r,h with|[a,b,c,d],_=>exact⟨a,b,c,d,rfl⟩
def c_{r:List Nat}(h:r.length=6):∃a b c d e f,r=[a,b,c,d,e,f]:=by match r,h with|[a,b,c,d,e,f],_=>exact⟨a,b,c,d,e,f,rfl⟩
def lM(k:Nat):∀(n:Nat)(l:List Nat),(fb k n l).length=n|0,_=>rfl|n+1,l=>by rw[fb,jj,lM k n]
def pj(k:Nat):∀(n:Nat)(l:List Nat),l.length=n*k->∀r∈fb k n l,r.length=k/\∀a∈r,a∈l
 |0,_,_,r,b=>by trivial
 |n+1,l,h,r,b=>by
  rw[G2]at h;rcases ff.mp b with rfl|b;·grind
  ·haveI:=pj k n _ (by simp_all) r b;grind
def wL(F:List D->R D)(d:DL.Env->R (List D))(E:DL.Env->R D)(c:DL.Env)(a k:D)(b:List (List Nat))(g:List Nat->D)(e:d c=.ok [a,k])(f:F [a,k]=.ok (.lst (b.map al)))(h:∀r∈b,E ((fo c [2]).set 2 (.val (al r)))=.ok (g r))(i:b.length<=1000):cw (eL (az 2 F d)) (a1 2) cZ E [2] c=.ok (.lst (b.map g)):=by rw[nE,j7,x_call,e,ai,ax (show[a,k].length=2 from rfl),f,ai,j5,ai,wE 2 E _ al g b h,nB,ax (by rw[bZ,gG];lia)]
abbrev iA(fs:List D)(a:D):DL.Env:=[.dv 5 fs,.val a,.ah]
def bN(S T:DL.Env->R Out)(b a:DL.Env)(h:S b=.ok (.nx a)):au S T b=T a:=by simp_all
def lN(j:Nat)(E:DL.Env->R D)(fs:List D)(a d:D)(h:E (iA fs a)=.ok d)(b:fs.length=j):cx 0 5 j E (iA fs a)=.ok (.nx (iA (fs++[d]) a)):=by rw[ZW,h];simp[iA,b]
def NH(j:Nat)(a:Int)(c:a=j)(fs b:List D)(d:D)(h:b[j]?=some d):bc (aa 1) (eC (.int a)) (iA fs (.lst b))=.ok d:=by haveI e:=jt h;simp[iA,ew,h0];simp_all
def c?(j:Nat)(a:Int)(b:a=j)(c:DL.Env)(d:Int)(h:([1,4,3,3,6,3]:List Int)[j]?=some d):bc (eC (.tup (([1,4,3,3,6,3]:List Int).map .int))) (eC (.int a)) c=.ok (.int d):=by
 have g:=jt h;have:ew (([1,4,3,3,6,3]).map D.int) j=some (.int d):=by
  delta ew h0;have e:(0:Int)<=j:=by lia
  have f:(j:Int)<(([1,4,3,3,6,3]).map D.int).length:=by rw[bZ];lia
  rw[ax e,ax f,Option.bind_some,rT,jp,h];rfl
 simp_all
def wM(j:Nat)(a:Int)(b:a=j)(fs c:List D)(d:D)(k:Int)(h:c[j]?=some d)(e:([1,4,3,3,6,3]:List Int)[j]?=some k):ac (bc (aa 1) (eC (.int a))) (ac (bc (eC (.tup (([1,4,3,3,6,3]:List Int).map .int))) (eC (.int a))) am) (iA fs (.lst c))=.ok [d,.int k]:=by simp only[eM,NH j a b fs c d h,ai,eM,c? j a b _ k e,ai,i9,ai,ai]
def aeb(c:Nat)(a:List D->R (List D))(b:DL.Env)(d:D)(fs:List D)(h:a [d]=.ok fs)(e:aa 2 b=.ok d):eI c 1 a (ac (aa 2) am) b=.ok (.ins c fs):=by simp_all
abbrev mE(p d q z k w:List Nat):aN:=⟨p,(pK 4 d.length d).map xZ,(pK 3 q.length q).map Bs,(pK 3 z.length z).map Bt,(pK 6 k.length k).map Bu,(pK 3 w.length w).map rX⟩
def mF(k:Nat)(a:0<k)(l:List Nat)(h:l.length%k=0):pK k l.length l=fb k (l.length/k) l:=by refine NC k a _ _ _ ?_ (Nat.div_le_self _ _);have:=RI l.length k;grind
def NI(a b c:Nat)(d:a<=65535)(f:b<=65535)(g:c<=65535):ke (rX [a,b,c])=(a,b,c):=by haveI e:rX [a,b,c]=a*4294967296+b*65536+c:=rfl;delta ke rC Fo.sOf Fo.uOf;grind
def c!(p d q z k w:List Nat)(hp:p.length<=128)(J:d.length%4=0/\d.length<=512)(L:q.length%3=0/\q.length<=384)(M:z.length%3=0/\z.length<=384)(B:k.length%6=0/\k.length<=768)(N:w.length%3=0/\w.length<=384)(v:∀a∈w,a<=65535):wc [.lst [al p,al d,al q,al z,al k,al w]]=.ok (iz (mE p d q z k w)):=by
 haveI cl:∀(m:Nat) (l:List Nat),0<m->l.length%m=0->l.length=l.length/m*m:=λm l I h=>by haveI:=RI l.length m;grind
 haveI Y:=wI 4 (d.length/4) d (by simp) (cl 4 d (by simp) J.1) (by lia);haveI Z:=wI 3 (q.length/3) q (by simp) (cl 3 q (by simp) L.1) (by lia);haveI rz:=wI 3 (z.length/3) z (by simp) (cl 3 z (by simp) M.1) (by lia);haveI rk:=wI 6 (k.length/6) k (by simp) (cl 6 k (by simp) B.1) (by lia);haveI O:=wI 3 (w.length/3) w (by simp) (cl 3 w (by simp) N.1) (by lia);haveI cd:=pj 4 (d.length/4) d (cl 4 d (by simp) J.1);haveI cq:=pj 3 (q.length/3) q (cl 3 q (by simp) L.1);haveI cz:=pj 3 (z.length/3) z (cl 3 z (by simp) M.1);haveI ck:=pj 6 (k.length/6) k (cl 6 k (by simp) B.1);haveI T:=pj 3 (w.length/3) w (cl 3 w (by simp) N.1);haveI s:mE p d q z k w=⟨p,(fb 4 (d.length/4) d).map xZ,(fb 3 (q.length/3) q).map Bs,(fb 3 (z.length/3) z).map Bt,(fb 6 (k.length/6) k).map Bu,(fb 3 (w.length/3) w).map rX⟩:=by delta mE;rw[mF 4 (by simp) d J.1,mF 3 (by simp) q L.1,mF 3 (by simp) z M.1,mF 6 (by simp) k B.1,mF 3 (by simp) w N.1]
 haveI ld:(mE p d q z k w).dec.length<=1000:=by rw[s];dsimp only;rw[bZ,lM];lia
 haveI U:(mE p d q z k w).pair.length<=1000:=by rw[s];dsimp only;rw[bZ,lM];lia
 haveI lk:(mE p d q z k w).key.length<=1000:=by rw[s];dsimp only;rw[bZ,lM];lia
 generalize C:[al p,al d,al q,al z,al k,al w]=n;haveI g0:n[0]?=some (al p):=by rw[<-C];rfl
 haveI g1:n[1]?=some (al d):=by rw[<-C];rfl
 haveI g2:n[2]?=some (al q):=by rw[<-C];rfl
 haveI g3:n[3]?=some (al z):=by rw[<-C];rfl
 haveI g4:n[4]?=some (al k):=by rw[<-C];rfl
 haveI g5:n[5]?=some (al w):=by rw[<-C];rfl
 show iv 3 5 11 _ _=_;rw[Nw];haveI hi:tQ 3 5 [.lst n]=iA [] (.lst n):=rfl;rw[hi];delta Mp;generalize hTT:mE p d q z k w=t at*
 haveI W:t.pool=p:=by rw[s]
 haveI td:t.dec=(fb 4 (d.length/4) d).map xZ:=by rw[s]
 haveI tq:t.pair=(fb 3 (q.length/3) q).map Bs:=by rw[s]
 haveI tz:t.cls=(fb 3 (z.length/3) z).map Bt:=by rw[s]
 haveI tk:t.key=(fb 6 (k.length/6) k).map Bu:=by rw[s]
 haveI tw:t.weight=(fb 3 (w.length/3) w).map rX:=by rw[s]
 haveI s0:=lN 0 (zi (eL (bc (aa 1) (eC (.int 0))))) [] (.lst n) (al p) (by rw[ZY,j7,NH 0 0 rfl _ _ _ g0,ai,j5,ai]) rfl;rw[bN _ _ _ _ s0];haveI s1:=lN 1 _ ([]++[al p]) (.lst n) _ (wL kM _ (eI 0 2 zG (ac (aa 2) (ac (dw 0 5 0) am))) _ _ _ _ (λr=>bT t (xZ r)) (wM 1 1 rfl _ _ _ _ g1 rfl) Y (λr o=>by obtain⟨a,b,c,e,rfl⟩:=b! (cd r o).1;haveI:=b? a b c e p;simp only[iA,ZU,ZT,Ab,eM,i9,wH,Qy];simp[this,bT,xZ,cH,W]) (by grind)) rfl;rw[bN _ _ _ _ s1];haveI s2:=λ(A:D)=>lN 2 _ ([]++[al p]++[A]) (.lst n) _ (wL kM _ (eI 1 1 zH (ac (aa 2) am)) _ _ _ _ (λr=>pairD (Bs r)) (wM 2 2 rfl _ _ _ _ g2 rfl) Z (λr o=>by obtain⟨a,b,c,rfl⟩:=Ae (cq r o).1;rfl) (by grind)) rfl;rw[bN _ _ _ _ (s2 _)];haveI s3:=λ(A:D) (E:D)=>lN 3 _ ([]++[al p]++[A]++[E]) (.lst n) _ (wL kM _ (eI 2 1 zI (ac (aa 2) am)) _ _ _ _ (λr=>eN (Bt r)) (wM 3 3 rfl _ _ _ _ g3 rfl) rz (λr o=>by obtain⟨a,b,c,rfl⟩:=Ae (cz r o).1;rfl) (by rw[lM];lia)) rfl;rw[bN _ _ _ _ (s3 _ _)];haveI s4:=λ(A:D) (E:D) (P:D)=>lN 4 _ ([]++[al p]++[A]++[E]++[P]) (.lst n) _ (wL kM _ (eI 3 1 zJ (ac (aa 2) am)) _ _ _ _ (λr=>eO (Bu r)) (wM 4 4 rfl _ _ _ _ g4 rfl) rk (λr o=>by obtain⟨a,b,c,e,f,g,rfl⟩:=c_ (ck r o).1;rfl) (by grind)) rfl;rw[bN _ _ _ _ (s4 _ _ _)];haveI s5:=λ(A:D) (E:D) (P:D) (x4:D)=>lN 5 _ ([]++[al p]++[A]++[E]++[P]++[x4]) (.lst n) _ (wL kM _ (eI 4 1 qA (ac (aa 2) am)) _ _ _ _ (λr=>wD (ke (rX r))) (wM 5 5 rfl _ _ _ _ g5 rfl) O (λr o=>by obtain⟨a,b,c,rfl⟩:=Ae (T r o).1;haveI I:=(T _ o).2;rw[NI a b c (v a (I a (by simp))) (v b (I b (by simp))) (v c (I c (by simp)))];rfl) (by rw[lM];lia)) rfl;rw[bN _ _ _ _ (s5 _ _ _ _)];haveI m1:(fb 4 (d.length/4) d).map (λr=>bT t (xZ r))=t.dec.map (bT t):=by rw[td,fZ];rfl
 haveI m2:(fb 3 (q.length/3) q).map (λr=>pairD (Bs r))=t.pair.map pairD:=by rw[tq,fZ];rfl
 haveI m3:(fb 3 (z.length/3) z).map (λr=>eN (Bt r))=t.cls.map eN:=by rw[tz,fZ];rfl
 haveI m4:(fb 6 (k.length/6) k).map (λr=>eO (Bu r))=t.key.map eO:=by rw[tk,fZ];rfl
 haveI m5:(fb 3 (w.length/3) w).map (λr=>wD (ke (rX r)))=t.weight.map (λw=>wD (ke w)):=by rw[tw,fZ];rfl
 rw[m1,m2,m3,m4,m5];haveI kind:∀(kk:Nat) (Q:Int) (B:Q=kk) (fs:List D) (u:fs[1]?=some (.lst (t.dec.map (bT t)))),az 2 wb (ac (dw 0 5 1) (ac (eC (.int Q)) am)) (iA fs (.lst n))=.ok (lL (fU t kk t.dec)):=by intro kk Q B fs u;subst B;rw[x_call,eM,wH,show(iA fs (.lst n))[0]?=some (.dv 5 fs) from rfl,wG,u,cW,ai,eM,mC,ai,i9,ai,ai,ai,ax (by rfl)];exact a' t kk t.dec ld
 rw[bN _ _ _ _ (lN 6 _ _ (.lst n) _ (kind 0 0 rfl _ rfl) rfl),bN _ _ _ _ (lN 7 _ _ (.lst n) _ (kind 1 1 rfl _ rfl) rfl)];haveI G:∀(F:List D->R D) (j:Nat) (fs:List D) (x y:D) (u:fs[j]?=some x) (H:F [x]=.ok y),az 1 F (ac (dw 0 5 j) am) (iA fs (.lst n))=.ok y:=by intro F j fs x y u H;rw[x_call,eM,wH,show(iA fs (.lst n))[0]?=some (.dv 5 fs) from rfl,wG,u,cW,ai,i9,ai,ai,ax (by rfl)];exact H
 rw[bN _ _ _ _ (lN 8 _ _ (.lst n) _ (G zK 2 _ _ _ rfl (a? t.pair U)) rfl),bN _ _ _ _ (lN 9 _ _ (.lst n) _ (G zL 2 _ _ _ rfl (a! t.pair U)) rfl)];haveI S:∀(F:List D->R D) (i j:Nat) (fs:List D) (x x' y:D) (u:fs[i]?=some x) (X:fs[j]?=some x') (H:F [x,x']=.ok y),az 2 F (ac (dw 0 5 i) (ac (dw 0 5 j) am)) (iA fs (.lst n))=.ok y:=by intro F i j fs x x' y u X H;rw[x_call,eM,wH,show(iA fs (.lst n))[0]?=some (.dv 5 fs) from rfl,wG,u,cW,ai,eM,wH,show(iA fs (.lst n))[0]?=some (.dv 5 fs) from rfl,wG,X,cW,ai,i9,ai,ai,ai,ax (by rfl)];exact H
 rw[lN 10 _ _ (.lst n) _ (S zM 4 5 _ _ _ _ rfl rfl (b_ t t.key lk)) rfl,ZX,show∀fs,(iA fs (.lst n))[0]?=some (.dv 5 fs) fromλ_=>rfl,wG];rw[<-W];rfl
abbrev Af:aN:=⟨[],[],[],[],[],[]⟩
def aec:Em []=.ok (aq Af):=by rfl
def d_:EB []=.ok [aq Af,.ah]:=by rfl
@[reducible]def aO(l:List Int):D:=.lst (l.map D.int)
abbrev c8(b:Bool)(c:Nat):R D:=if b=true then .ok .ah else .exc c
def Ag(f:Int):qB [.int f]=c8 (dF 0 3 f) 0:=by show aK 1 _ _=_;rw[cb];delta Mq c8 dF;by_cases a:0<=f<;>by_cases b:f<=3<;>simp[be,a,b]
def d?(f:Int):En [.int f]=c8 (f==0||f==2) 0:=by
 show aK 1 _ _=_;rw[cb];delta Mr c8;by_cases a:f=0;·subst a;kernel_rfl
 ·by_cases b:f=2;·subst b;kernel_rfl
  ·have c:¬0=f:=λz=>a z.symm;have d:¬2=f:=λz=>b z.symm;simp[be,a,b,c,d]
def Ah(f:Int):qC [.int f]=c8 (dF 1 3 f) 0:=by show aK 1 _ _=_;rw[cb];delta Ms c8 dF;by_cases a:1<=f<;>by_cases b:f<=3<;>simp[be,a,b]
def EO(f:Int):wd [.int f]=c8 (dF 0 1 f) 0:=by
 show aK 1 _ _=_;rw[cb];delta Mt c8 dF;by_cases a:f=0;·subst a;kernel_rfl
 ·by_cases b:f=1;·subst b;kernel_rfl
  ·have c:¬0=f:=λz=>a z.symm;have d:¬1=f:=λz=>b z.symm;have e:(decide (0<=f)&&decide (f<=1))=false:=by simp;lia
   simp[be,c,d,e]
def EQ{c:Type}[Decidable P][Decidable Q]{a b:c}(h:P↔¬Q):(if P then a else b)=if Q then b else a:=by simp_all
@[simp]theorem aed(l:List Int):ints? (l.map D.int)=some l:=by have:=Nr (λn:Int=>n) l;simpa using this
abbrev pt(n:Int):Bool:=decide (0<=n)&&jr n.toNat
def d!(n:Int):jE [.int n]=.ok (.bl (pt n)):=by
 delta pt;by_cases h:0<=n;·have:=wz n.toNat;grind
 ·rw[ZL n (by lia)];simp[h]
def NJ(xs:List (List Int))(b:xs.length<=1000):zN [.lst (xs.map aO)]=c8 (!xs.any (ko iE)) 0:=by
 show aK 2 _ _=_;rw[cb];delta Mu c8;haveI e:=pb 1 (aM cT (λi j=>.bl (decide (j<i))) (cE (aa 1)) (eC (.int (100)))) [.val (.lst (xs.map aO)),.ah] aO (λx=>.bl (ko iE x)) (λx=>by simp[ko,iE];lia) xs;haveI a:xs.length<=16777216:=by lia
 simp[be,e,a];exact EQ (by simp)
def NK(S:DL.Env->R Out):∀(xs:List (List Int))(a b c:Slot)(d:∀(a c:Slot)(x:List Int),x∈xs->S [a,.val (aO x),c]=if gZ x=true then .ok (.nx [a,.val (aO x),c])else .exc 2),outD (forL (a1 1) S (xs.map aO) [a,b,c])=c8 (xs.all gZ) 2|[],a,b,c,_=>by kernel_rfl|x::xs,a,b,c,d=>by rw[gv,kP];haveI:=d a c x (by simp);simp only[List.set_cons_succ,List.set_cons_zero];rw[this];cases h:gZ x with|true=>simp[h,-ji,NK S xs _ _ _ λa c y e=>d a c y (by simp[e])]|false=>simp[h,c8]
def e_(x:List Int):gZ x=x.all pt:=rfl
def ER(xs:List (List Int))(d:∀x∈xs,x.length<=20000):tV [.lst (xs.map aO)]=c8 (xs.all gZ) 2:=by
 haveI f:∀(a c:Slot) (x:List Int),x∈xs->(bf (eZ (cB (eJ (λbs=>bs.all id) (eL (cw (eL (aa 1)) (a1 2) cZ (az 1 jE (ac (aa 2) am)) [2]))))) (ia 2) bo) [a,.val (aO x),c]=if gZ x=true then .ok (.nx [a,.val (aO x),c])else .exc 2:=by
  intro a c x g;haveI e:=pb 2 (az 1 jE (ac (aa 2) am)) [a,.val (aO x),.ah] D.int (λn=>.bl (pt n)) (λn=>by simp[d!]) x;haveI h:=d x g;haveI b:x.length<=16777216:=by lia
  simp[e,b,e_];exact EQ (by simp)
 exact NK _ xs _ _ _ f
def e?(n:List Int):Bv n=n.sum:=by
 delta Bv;have:∀(l:List Int) (a:Int),l.foldl (λ(a x)=>a+x) a=a+l.sum:=by intro l;induction l with|nil=>simp|cons x l b=>grind
 simp_all
def e!(n x:List Int)(b:n.length<=20000):Eo [aO n,aO x]=c8 (n.all (λ(k:Int)=>decide (0<=k))&&Bv n==(x.length:Int)&&decide (n.length<=iE)) 0:=by
 show aK 3 _ _=_;rw[cb];delta Mw c8;haveI e:=pb 2 (aM cT (λi j=>.bl (decide (i<j))) (aa 2) (eC (.int 0))) [.val (aO n),.val (aO x),.ah] D.int (λk=>.bl (decide (k<0))) (λk=>by rfl) n;haveI a:n.length<=16777216:=by lia
 simp[be,e,a,e?,iE];grind
def f_(x y:List Int):zO [aO x,aO y]=c8 (decide (x.length<=pL)&&(decide (1<=y.length)&&decide (y.length<=pL))) 0:=by show aK 2 _ _=_;rw[cb];delta Mx c8;simp[be];refine EQ ?_;delta pL;omega
def NL(xs:List (List Int))(b:xs.length<=1000)(c:∀x∈xs,x.length<=20000):kN [.lst (xs.map aO)]=if xs.any (ko iE)=true then .exc 0 else c8 (xs.all gZ) 2:=by
 show aK 1 _ _=_;rw[cb];delta Mv;have a:∀F:List D->R D,az 1 F (ac (aa 0) am) (be 1 [.lst (xs.map aO)])=F [.lst (xs.map aO)]:=λF=>by kernel_rfl
 rw[c7,nA,a,NJ xs b];cases h:xs.any _ with|true=>kernel_rfl|false=>simp only[c8,RJ,if_true,ai,dP,nA,a,ER xs c];simp
abbrev gd(r:List Int×Int×Int):Bool:=decide ((r.1.length:Int)%r.2.1=0)&&(decide ((r.1.length:Int)<=128*r.2.1)&&r.1.all (dF 0 r.2.2))
abbrev ES:DL.Env->R Out:=(au (bf (iX (cB (bC true (aM (λi j=>decide (0<j)) (λi j=>.int (i%j)) (cE (aa 1)) (aa 2)) (eC (.int 0)))) (cB (aM cT (λi j=>.bl (decide (j<i))) (cE (aa 1)) (aM nq (λi j=>.int (i*j)) (eC (.int (128))) (aa 2))))) (ia 0) bo) (bf (eZ (cB (eJ (λbs=>bs.all id) (eL (cw (eL (aa 1)) (a1 4) cZ (ez (λi j=>decide (i<=j)) (λi j=>decide (i<=j)) (eC (.int 0)) (aa 4) (aa 3)) [4]))))) (ia 0) bo))
def f?(a e:Slot)(r:List Int)(m g:Int)(b:0<m)(c:m<=6)(k:r.length<=20000):ES [a,.val (aO r),.val (.int m),.val (.int g),e]=if gd (r,m,g)=true then .ok (.nx [a,.val (aO r),.val (.int m),.val (.int g),e])else .exc 0:=by
 delta ES gd;haveI d:=pb 4 (ez (λi j=>decide (i<=j)) (λi j=>decide (i<=j)) (eC (.int 0)) (aa 4) (aa 3)) [a,.val (aO r),.val (.int m),.val (.int g),.ah] D.int (λn=>.bl (dF 0 g n)) (λn=>by simp[dF]) r;haveI f:r.length<=16777216:=by lia
 haveI h:nq 128 m=true:=by kernel_rfl
 simp[b,d,f,h,-List.all_eq_false];grind
abbrev NM(r:List Int×Int×Int):D:=.tup [aO r.1,.int r.2.1,.int r.2.2]
def ET(T:D->DL.Env->R DL.Env)(S:DL.Env->R Out)(d:D)(r:List D)(b a:DL.Env)(h:T d b=.ok a):forL T S (d::r) b=(S a).bind (wC (forL T S r)):=by
 conv=>lhs;unfold forL
 rw[h];rfl
def NN:∀(l:List (List Int×Int×Int))(a b c d e:Slot),(∀r∈l,0<r.2.1/\r.2.1<=6/\r.1.length<=20000)->outD (forL (jA 3 (e7 (a1 1) (e7 (a1 2) (e7 (a1 3) j0)))) ES (l.map NM) [a,b,c,d,e])=c8 (l.all gd) 0|[],a,b,c,d,e,_=>by kernel_rfl|(r,m,g)::l,a,b,c,d,e,h=>by haveI f:=h (r,m,g) (by simp);rw[gv,ET _ _ _ _ _ [a,.val (aO r),.val _,.val _,e] (by rfl),f? a e r m g f.1 f.2.1 f.2.2];cases i:gd _ with|true=>simp[i,NN l _ _ _ _ _ λx j=>h x (by simp[j])]|false=>simp[i,c8]
abbrev rowsOf(p d q z k w:List Int):List (List Int×Int×Int):=[(p,1,4294967295),(d,4,4294967295),(q,3,4294967295),(z,3,4294967295),(k,6,4294967295),(w,3,65535)]
def g_(p d q z k w:List Int)(h:∀r∈[p,d,q,z,k,w],r.length<=20000):Ep [.lst ([p,d,q,z,k,w].map aO)]=c8 ((rowsOf p d q z k w).all gd) 0:=by
 show aK 5 _ _=_;rw[cb];unfold My;rw[t8];have b:vX (ac (aa 0) (ac (eC (.tup (([1,4,3,3,6,3]:List Int).map .int))) (ac (eC (.tup (([4294967295,4294967295,4294967295,4294967295,4294967295,65535]:List Int).map .int))) am))) (be 5 [.lst ([p,d,q,z,k,w].map aO)])=.ok ((rowsOf p d q z k w).map NM):=by kernel_rfl
 rw[b,ai];refine NN _ _ _ _ _ _ ?_;intro r a;simp[rowsOf]at a;simp at h;rcases a with rfl|rfl|rfl|rfl|rfl|rfl<;>simp_all
def t9(k:Nat)(a:0<k)(l:List Int):gd (l,(k:Int),4294967295)=jS k l:=by delta gd jS FoFormSeed.RECORDS;lia
def g?(p d q z k w:List Int):(jS 1 p=false\/jS 4 d=false\/jS 3 q=false\/jS 3 z=false\/jS 6 k=false\/jS 3 w=false\/w.all (dF 0 65535)=false)↔(rowsOf p d q z k w).all gd=false:=by
 have a:gd (w,3,65535)=(jS 3 w&&w.all (dF 0 65535)):=by
  rw[<-t9 3 (by lia)];delta gd;dsimp only;have:w.all (dF 0 65535)=(w.all (dF 0 4294967295)&&w.all (dF 0 65535)):=by
   cases h:w.all (dF 0 65535)with
   |false=>simp
   |true=>
    rw[RL];symm;rw[ji]at h⊢
    intro x b;have:=h x b;unfold dF at this⊢
    simp at this⊢
    lia
  conv=>lhs;rw[this]
  simp only[abB];rfl
 have c:=t9 1 (by lia) p;have e:=t9 4 (by lia) d;have f:=t9 3 (by lia) q;have g:=t9 3 (by lia) z;have i:=t9 6 (by lia) k;delta rowsOf;simp only[nZ,G3,a,show gd (p,1,4294967295)=_ from c,show gd (d,4,4294967295)=_ from e,show gd (q,3,4294967295)=_ from f,show gd (z,3,4294967295)=_ from g,show gd (k,6,4294967295)=_ from i,Bool.and_eq_false_iff];simp
@[simp]theorem Ai{a:Type}(t:aN)(k:List D->R a):pa 5 (aq t) k=k (iz t):=by rfl
@[simp]theorem NO(t:aN):D.ins 5 (iz t)=aq t:=id rfl
@[simp]theorem aee(t:aN):(iz t)[0]?=some (al t.pool):=id rfl
@[simp]theorem aef(t:aN):(iz t)[1]?=some (.lst (t.dec.map (bT t))):=id rfl
@[simp]theorem aeg(t:aN):(iz t)[2]?=some (.lst (t.pair.map pairD)):=id rfl
@[simp]theorem aeh(t:aN):(iz t)[3]?=some (.lst (t.cls.map eN)):=id rfl
@[simp]theorem aei(t:aN):(iz t)[4]?=some (.lst (t.key.map eO)):=id rfl
@[simp]theorem aej(t:aN):(iz t)[5]?=some (iP t.weight):=id rfl
@[simp]theorem g!(t:aN):(iz t)[6]?=some (lL (fU t 0 t.dec)):=id rfl
@[simp]theorem aek(t:aN):(iz t)[7]?=some (lL (fU t 1 t.dec)):=id rfl
@[simp]theorem ael(t:aN):(iz t)[8]?=some (ph (iO t.pair)):=id rfl
@[simp]theorem aem(t:aN):(iz t)[9]?=some (lL (ic t.pair)):=id rfl
@[simp]theorem aen(t:aN):(iz t)[10]?=some (ph (iy t t.key)):=id rfl
def NP(C:DL.Env->R Bool)(S:DL.Env->R Out)(n:Nat)(a:DL.Env):nk C S (n+1) a=(C a).bind λb=>if b=true then(S a).bind (wC (nk C S n))else .ok (.nx a):=by rfl
def gs{b:Type}(f:b->D)(l:List b)(j:Nat)(a:b)(h:l[j]?=some a):ew (l.map f) (j:Int)=some (f a):=by haveI c:=jt h;delta ew h0;simp_all
def NQ(l:List rq)(f:pP l)(i j:Nat)(a b:rq)(h:i<=j)(c:l[i]?=some a)(d:l[j]?=some b):a.last<=b.last:=by
 rcases Gi i j with g|g;·have k:=jt c;have e:=jt d;have:=acg.mp f.1 i j k e g;rw[cI k]at c;rw[cI e]at d;cases c;cases d;have m:=(f.2 l[j] (acf e)).1;lia
 grind
abbrev EU:DL.Env->R Bool:=cB (aM cT (λi j=>.bl (decide (i<j))) (aa 2) (aa 3))
abbrev EV:DL.Env->R Out:=(au (bg 4 (aM kF (λi j=>.int (i/j)) (aM cT (λi j=>.int (i+j)) (aa 2) (aa 3)) (eC (.int 2)))) (bf (cB (aM cT (λi j=>.bl (decide (i<j))) (ao 2 1 (bc (ao 5 3 (aa 0)) (aa 4))) (aa 1))) (bg 2 (aM cT (λi j=>.int (i+j)) (aa 4) (eC (.int 1)))) (bg 3 (aa 4))))
def EW(t:aN)(c:Nat)(f:pP t.cls):∀(n lo a:Nat)(m:Slot),lo<=a->a<=t.cls.length->a-lo<n->(∀j r,j<lo->t.cls[j]?=some r->r.last<c)->(∀j r,a<=j->t.cls[j]?=some r->c<=r.last)->∃(b:Nat)(s:Slot),nk EU EV n [.val (aq t),.val (nD c),.val (nD lo),.val (nD a),m]=.ok (.nx [.val (aq t),.val (nD c),.val (nD b),.val (nD b),s])/\(∀j r,j<b->t.cls[j]?=some r->r.last<c)/\(∀j r,b<=j->t.cls[j]?=some r->c<=r.last)
 |0,lo,a,m,_,_,h,_,_=>by lia
 |n+1,lo,a,m,z,u,A,k,l=>by
  rw[NP];have v:EU [.val (aq t),.val (nD c),.val (nD lo),.val (nD a),m]=.ok (decide (lo<a)):=by delta EU;simp
  rw[v,ai];by_cases i:lo<a
  ·rw[ax (gT i)];have w:(lo+a)/2<t.cls.length:=by lia
   have g:=cI w;generalize B:t.cls[(lo+a)/2]=r at g;have o:=gs eN t.cls ((lo+a)/2) r g;have p:((lo:Int)+(a:Int))/2=(((lo+a)/2:Nat):Int):=by lia
   have x:EV [.val (aq t),.val (nD c),.val (nD lo),.val (nD a),m]=.ok (.nx (if r.last<c then[.val (aq t),.val (nD c),.val (nD ((lo+a)/2+1)),.val (nD a),.val (nD ((lo+a)/2))]else[.val (aq t),.val (nD c),.val (nD lo),.val (nD ((lo+a)/2)),.val (nD ((lo+a)/2))])):=by
    delta EV;by_cases d:r.last<c;·simp[kF,p,o,eN,d,-acC]
    ·simp[kF,p,o,eN,d,-acC]
   rw[x,ai,lK];by_cases d:r.last<c;·rw[ax d];refine EW t c f n _ _ _ (by lia) u (by lia) (λj q y e=>?_) l;have:=NQ t.cls f j _ q r (by lia) e g;lia
   ·rw[ay d];refine EW t c f n _ _ _ (by lia) (by lia) (by lia) k (λj q y e=>?_);have:=NQ t.cls f _ j r q (by lia) g e;lia
  ·rw[ay (by simp;lia)];have:a=lo:=by lia
   subst this;exact⟨a,m,rfl,k,l⟩
def h_(t:aN)(c:Nat)(b:pP t.cls)(o:t.cls.length<=128):ek [aq t,nD c]=.ok (nD (aY t c)):=by
 show aK 5 _ _=_;rw[cb];delta MB;obtain⟨lo,m,e,g,i⟩:=EW t c b 200 0 t.cls.length .ah (by lia) (bR _) (by lia) (λj r h=>by lia) (λj r h e=>by simp_all);haveI k:sY (λ_=>200) (cB _) (au _ _) _=.ok _:=e;haveI l:bg 2 (eC (.int 0)) (be 5 [aq t,nD c])=.ok (.nx [.val (aq t),.val (nD c),.val (nD 0),.ah,.ah]):=by kernel_rfl
 haveI n:bg 3 (cE (ao 5 3 (aa 0))) [.val (aq t),.val (nD c),.val (nD 0),.ah,.ah]=.ok (.nx [.val (aq t),.val (nD c),.val (nD 0),.val (nD t.cls.length),.ah]):=by simp
 rw[bN _ _ _ _ l,bN _ _ _ _ n,bN _ _ _ _ k,R4,He t.cls c lo b g (λr e=>i lo r (bR _) e)];cases d:t.cls[lo]?with
 |none=>
  haveI:¬lo<t.cls.length:=λz=>by simp_all
  simp[this]
 |some r=>
  haveI a:=jt d;haveI f:=gs eN t.cls lo r d;by_cases hf:r.first<=c;·simp[a,f,eN,hf]
  ·simp[a,f,eN,hf]
section
structure C2(t:aN):Prop where
 cls:pP t.cls
 len:t.cls.length<=128
def C2.v(h:C2 t)(c:Nat):ek [aq t,nD c]=.ok (nD (aY t c)):=h_ t c h.cls h.len
open gC(sortI insI kJ)
def NR(t:aN)(n:Nat)(rk:Nat->Int)(g:Nat->Nat)(h:∀i,i<n->rk i=(aY t (g i):Nat))(i:Nat)(a:i<n):∀L:List Nat,(∀j∈L,j<n)->(insI rk i L).map g=eS t (g i) (L.map g)
 |[],_=>rfl
 |j::L,b=>by
  have d:=b j (by simp);unfold insI;rw[gv,eS];rw[h i a,h j d];by_cases c:aY t (g i)<=aY t (g j);·rw[ay (by lia),ax c];rfl
  ·rw[ax (by lia),ay c,gv,NR t n rk g h i a L λk e=>b k (by simp[e])]
def NS(t:aN)(n:Nat)(rk:Nat->Int)(g:Nat->Nat)(h:∀i,i<n->rk i=(aY t (g i):Nat)):∀L:List Nat,(∀j∈L,j<n)->(sortI rk L).map g=fN t (L.map g)|[],_=>rfl|i::L,a=>by show(insI rk i (sortI rk L)).map g=eS t (g i) (fN t (L.map g));rw[NR t n rk g h i (a i (by simp)) _ (λj b=>a j (by haveI:=(gC.sortI_perm rk L).mem_iff.mp b;simp[this])),NS t n rk g h L λk c=>a k (by simp[c])]
def range_getD(l:List Nat):(bU l.length).map (λi=>l.getD i 0)=l:=by refine List.ext_getElem (by simp) λi a b=>?_;simp_all
def h?(t:aN)(l:List Nat):tP (l.map λc=>((aY t c:Nat):Int)) (l.map nD)=(fN t l).map nD:=by delta tP;rw[bZ];haveI e:=NS t l.length (λi=>(l.map λc=>((aY t c):Int)).getD i 0) (λi=>l.getD i 0) (λi a=>by simp_all) _ (λj b=>lQ.mp b);rw[range_getD]at e;rw[<-e,fZ];refine uA λi a=>?_;haveI a:=kJ i a;simp_all
def NT(t:aN)(h:C2 t):∀l:List Nat,my ek (aq t) (l.map nD)=some (l.map λc=>((aY t c:Nat):Int))|[]=>rfl|c::l=>by rw[gv,my,h.v c];dsimp only;rw[NT t h l];rfl
def NU(t:aN)(h:C2 t)(s:List Nat)(b:DL.Env->R (List D))(c:DL.Env->R D)(a:DL.Env)(d:b a=.ok (s.map nD))(e:c a=.ok (aq t)):qw 5 2 ek b c a=.ok (al (fN t s)):=by delta qw;rw[d,ai,e,ai];show(if 5=5/\2=2 then _ else _)=_;rw[ax ⟨rfl,rfl⟩];haveI:=NT t h s;unfold aq at this;rw[this];dsimp only;rw[h?]
abbrev qL(t:aN)(p:List Nat×List Nat)(c:Nat):List Nat×List Nat:=if 0<aY t c then(p.1,p.2++[c])else(p.1++fN t p.2++[c],[])
abbrev fG(t:aN)(x:List Nat):List Nat×List Nat:=x.foldl (qL t) ([],[])
def NV(t:aN)(x:List Nat)(c:Nat):fG t (x++[c])=qL t (fG t x) c:=by simp[fG]
def EX(t:aN):∀(x d s:List Nat),gl t d s x=(x.foldl (qL t) (d,s)).1++fN t (x.foldl (qL t) (d,s)).2
 |[],d,s=>rfl
 |c::x,d,s=>by
  unfold gl;rw[QB];delta qL;split;·exact EX t x d (s++[c])
  ·exact EX t x _ _
def NW(t:aN)(x:List Nat):(fG t x).1.length+(fG t x).2.length=x.length:=by
 refine snoc_ind (P:=λx=>(fG t x).1.length+(fG t x).2.length=x.length) rfl (λx c a=>?_) x;rw[NV];delta qL;split;·simp;lia
 ·simp[sg];lia
abbrev Aj:DL.Env->R Out:=(bf (cB (aM cT (λi j=>.bl (decide (j<i))) (dI 5 2 ek (aa 0) (ac (aa 4) am)) (eC (.int 0)))) (eK 3 (aa 4)) (au (gL 2 (eL (qw 5 2 ek (fC 3) (aa 0)))) (au (eK 2 (aa 4)) (gy 3 am))))
def EY(t:aN)(h:C2 t)(x:List Nat)(n:x.length<=100000):lF [aq t,al x]=.ok (al (nN t x)):=by
 show aK 5 _ _=_;rw[cb];delta MC;haveI f:=pi 4 Aj nD (λp=>[.val (aq t),.val (al x),.aL ((fG t p).1.map nD),.aL ((fG t p).2.map nD),j8 .ah nD p]) x [] (λq c r e=>by
  have o:q.length<100000:=by haveI:=bz ki e;simp at this;lia
  haveI g:=NW t q;haveI i:=h.v c;rw[NV];delta Aj qL;by_cases j:0<aY t c
  ·have d:(fG t q).2.length<16777216:=by lia
   simp_all
  ·haveI a:(fG t q).1.length+(fG t q).2.length<=16777216:=by lia
   have d:(fG t q).1.length+(fG t q).2.length<16777216:=by lia
   haveI b:=NU t h (fG t q).2 (fC 3) (aa 0) [.val (aq t),.val (al x),.aL ((fG t q).1.map nD),.aL ((fG t q).2.map nD),.val (nD c)] (by rfl) (by rfl);simp[i,j,b,sg,a,d]);haveI k:gy 2 am (be 5 [aq t,al x])=.ok (.nx [.val (aq t),.val (al x),.aL [],.ah,.ah]):=by kernel_rfl
 haveI l:gy 3 am [.val (aq t),.val (al x),.aL [],.ah,.ah]=.ok (.nx [.val (aq t),.val (al x),.aL [],.aL [],.ah]):=by rfl
 haveI m:fq (eL (aa 1)) (a1 4) Aj [.val (aq t),.val (al x),.aL [],.aL [],.ah]=.ok (.nx [.val (aq t),.val (al x),.aL ((fG t x).1.map nD),.aL ((fG t x).2.map nD),j8 .ah nD x]):=by exact f
 rw[bN _ _ _ _ k,bN _ _ _ _ l];rw[show(bf _ (eK 3 (aa 4)) _)=Aj from rfl,bN _ _ _ _ m];haveI b:=NU t h (fG t x).2 (fC 3) (aa 0) [.val (aq t),.val (al x),.aL ((fG t x).1.map nD),.aL ((fG t x).2.map nD),j8 .ah nD x] (by rfl) (by rfl);haveI g:=NW t x;haveI a:(fG t x).1.length+(fG t x).2.length<=16777216:=by lia
 rw[uL,EX];simp[b,sg,a];rfl
@[simp]theorem NX{a:Type}(l:List (Int×D))(k:List Int->List D->R a):Ac (lL l) k=k (putAll l).1 (putAll l).2:=id rfl
@[simp]theorem NY{a:Type}(l:List (List Int×D))(k:List (List Int)->List D->R a):pf (ph l) k=k (putAll l).1 (putAll l).2:=id rfl
def ua(t:aN)(a:eU t)(k c:Nat):cF (putAll (fU t k t.dec)).1 (putAll (fU t k t.dec)).2 (c:Int)=(jL t c k).map λd=>al (cH t d):=by
 rw[Ad];delta fU;rw[<-RN,RP,RQ,<-Sa t a];haveI:((λe:Int×D=>decide (e.1=c))∘λd:jg=>(d.code,al (cH t d)))=λd:jg=>d.code==c:=by funext d;simp;rfl
 rw[this];rfl
def EZ(t:aN)(g:eU t)(c:Nat)(b:Bool):mB [aq t,nD c,.bl b]=.ok (al (eB t b c)):=by
 show aK 3 _ _=_;rw[cb];delta MD eB;haveI a:=ua t g 1 c;haveI e:=ua t g 0 c;cases h:jL t c 0 with
 |some d=>rw[h]at e;cases b with|false=>simp[be,a,e]|true=>cases f:jL t c 1 with|some i=>rw[f]at a;simp[be,a,e]|none=>rw[f]at a;simp[be,a,e]
 |none=>
  rw[h]at e;haveI n:=ED c;haveI fin:outD (au (bf (cB (az 1 qy (ac (aa 1) am))) (aQ (az 1 zF (ac (aa 1) am))) bo) (aQ (de (ac (aa 1) am))) [.val (aq t),.val (nD c),.val (.bl b)])=.ok (al (if fW c=true then xC c else[c])):=by cases j:fW c with|true=>haveI o:=Z8 c j;simp_all|false=>simp_all
  haveI k:bf (cB (dY false (aa 1) (ao 5 6 (aa 0)))) (aQ (jZ (ao 5 6 (aa 0)) (aa 1))) bo [.val (aq t),.val (nD c),.val (.bl b)]=.ok (.nx [.val (aq t),.val (nD c),.val (.bl b)]):=by simp[e]
  haveI l:be 3 [aq t,nD c,.bl b]=[.val (aq t),.val (nD c),.val (.bl b)]:=rfl;rw[l];cases b with
  |false=>
   haveI m:bf (h8 (cB (aa 2)) (cB (dY false (aa 1) (ao 5 7 (aa 0))))) (aQ (jZ (ao 5 7 (aa 0)) (aa 1))) bo [.val (aq t),.val (nD c),.val (.bl false)]=.ok (.nx [.val (aq t),.val (nD c),.val (.bl false)]):=by kernel_rfl
   rw[bN _ _ _ _ m,bN _ _ _ _ k,fin];rfl|true=>cases f:jL t c 1 with|some i=>rw[f]at a;simp[a,e]|none=>simp_all
def E2(t:aN)(a:eU t)(x:List Nat)(b:Bool)(d:x.length<=20000):lG [aq t,al x,.bl b]=.ok (al (x.flatMap (eB t b))):=by
 show aK 5 _ _=_;rw[cb];delta ME;haveI f:=pi 4 (gL 3 (eL (az 3 mB (ac (aa 0) (ac (aa 4) (ac (aa 2) am)))))) nD (λp=>[.val (aq t),.val (al x),.val (.bl b),.aL ((p.flatMap (eB t b)).map nD),j8 .ah nD p]) x [] (λq c r e=>by
  haveI g:q.length<20000:=by haveI:=bz ki e;simp at this;lia
  haveI h:=sr _ (λc=>(oi t a b c).2) q;haveI i:=(oi t a b c).2;haveI j:(q.flatMap (eB t b)).length+(eB t b c).length<=16777216:=by lia
  haveI k:=EZ t a c b;simp_all);haveI l:gy 3 am (be 5 [aq t,al x,.bl b])=.ok (.nx [.val (aq t),.val (al x),.val (.bl b),.aL [],.ah]):=by kernel_rfl
 simp_all
def NZ(f:Nat):oZ [nD f]=.ok (.bl (decide (2<=f))):=by show aK 1 _ _=_;rw[cb];delta Mz;simp[be];omega
def N0(f:Nat):we [nD f]=.ok (.bl (f%2==1)):=by show aK 1 _ _=_;rw[cb];delta MA;simp[be];lia
end
abbrev fc:Option Nat->D|none=>.ah|some n=>nD n
@[simp]theorem aeo:fc none=.ah:=id rfl
@[simp]theorem aep(n:Nat):fc (some n)=nD n:=id rfl
def N1(l:List Nat)(h:l≠[]):ew (l.map nD) (-1)=some (nD (ku l)):=by
 have a:=QF.mpr h;delta ew h0;rw[ay (by lia),ax (by grind)];haveI e:((-1:Int)+((l.map nD).length)).toNat=l.length-1:=by rw[bZ];lia
 haveI:l[l.length-1]?=some (ku l):=by rw[<-List.getLast?_eq_getElem?];delta ku;rw[List.getLastD_eq_getLast?];cases b:l.getLast? with|none=>simp_all|some x=>rfl
 simp_all
def h!(t:aN)(h:C2 t)(out:List Nat)(b c:Nat)(e:out≠[]):tW [aq t,al out,nD b,nD c]=.ok (.bl (reach t out b c)):=by
 show aK 4 _ _=_;rw[cb];delta MF reach;haveI f:=h.v (ku out);haveI g:=h.v c;haveI i:=N1 out e;by_cases j:b+1=out.length
 ·haveI a:(b:Int)=out.length-1:=by lia
  simp[be,a,j]
 ·haveI a:¬(b:Int)=out.length-1:=by lia
  haveI d:(b+1==out.length)=false:=by simpa using j
  by_cases k:0<aY t (ku out);·simp[be,a,d,i,f,g,k]
  ·haveI l:aY t (ku out)=0:=by lia
   simp[be,a,d,i,f,g,l]
def i_(t:aN)(d:kt t)(a b:Nat):cF (putAll (iO t.pair)).1 (putAll (iO t.pair)).2 [(a:Int),(b:Int)]=(t.pair.find? λ(p:kT)=>p.a==a&&p.b==b).map λp=>nD p.c:=by
 rw[Ad];delta iO;rw[<-RN,RP,RQ];haveI:((λe:List Int×D=>decide (e.1=[(a:Int),b]))∘λp:kT=>([p.a,p.b],nD p.c))=λp:kT=>p.a==a&&p.b==b:=by funext p;simp;rfl
 rw[this,yj _ _ d.up λx y f z=>by simp_all];rfl
def i?(t:aN)(d:kt t)(a b:Nat):tX [aq t,nD a,nD b]=.ok (fc (pS t a b)):=by
 show aK 3 _ _=_;rw[cb];delta MG pS;haveI c:=i_ t d a b;cases hf:t.pair.find? (λp=>p.a==a&&p.b==b)with
 |some p=>rw[hf]at c;simp[be,c]
 |none=>
  rw[hf]at c;haveI e:=Z9 a b;have f:bf (cB (vu (ac (aa 1) (ac (aa 2) am)) (ao 5 8 (aa 0)))) (aQ (vv (ao 5 8 (aa 0)) (ac (aa 1) (ac (aa 2) am)))) bo (be 3 [aq t,nD a,nD b])=.ok (.nx (be 3 [aq t,nD a,nD b])):=by simp[be,c]
  have g:az 2 v9 (ac (aa 1) (ac (aa 2) am)) (be 3 [aq t,nD a,nD b])=v9 [nD a,nD b]:=by kernel_rfl
  simp only[bN _ _ _ _ f,gQ,g,e];delta BN;split;·rfl
  ·split<;>rfl
abbrev wN:DL.Env->R Out:=(au (bg 5 (eC .ah)) (au (bf (h8 (cB (jY true (aa 3))) (cB (qv 2 (az 4 tW (ac (aa 0) (ac (aa 2) (ac (aa 3) (ac (aa 4) am)))))))) (bg 5 (az 3 tX (ac (aa 0) (ac (lp (fC 2) (aa 3)) (ac (aa 4) am))))) bo) (bf (cB (jY true (aa 5))) (sX 2 (aa 3) (aa 5)) (au (bf (cB (bC false (dI 5 2 ek (aa 0) (ac (aa 4) am)) (eC (.int 0)))) (bg 3 (sS (fC 2))) bo) (eK 2 (aa 4))))))
def i!(t:aN)(h:C2 t)(k:kt t)(out:List Nat)(base:Option Nat)(c:Nat)(xs w:Slot)(l:xs.owned=false)(j:∀b,base=some b->b<out.length)(B:out.length<16777216):wN [.val (aq t),xs,.aL (out.map nD),.val (fc base),.val (nD c),w]=.ok (.nx (match pT t out base c with|some z=>[.val (aq t),xs,.aL ((out.set (base.getD 0) z).map nD),.val (fc base),.val (nD c),.val (nD z)]|none=>[.val (aq t),xs,.aL ((out++[c]).map nD),.val (fc (if aY t c=0 then some out.length else base)),.val (nD c),.val .ah])):=by
 haveI C:=h.v c;have m:bg 5 (eC .ah) [.val (aq t),xs,.aL (out.map nD),.val (fc base),.val (nD c),w]=.ok (.nx [.val (aq t),xs,.aL (out.map nD),.val (fc base),.val (nD c),.val .ah]):=by rfl
 have d:∀z:Option Nat,(∀y,z=some y->∃b,base=some b)->bf (cB (jY true (aa 5))) (sX 2 (aa 3) (aa 5)) (au (bf (cB (bC false (dI 5 2 ek (aa 0) (ac (aa 4) am)) (eC (.int 0)))) (bg 3 (sS (fC 2))) bo) (eK 2 (aa 4))) [.val (aq t),xs,.aL (out.map nD),.val (fc base),.val (nD c),.val (fc z)]=.ok (.nx (match z with|some z=>[.val (aq t),xs,.aL ((out.set (base.getD 0) z).map nD),.val (fc base),.val (nD c),.val (nD z)]|none=>[.val (aq t),xs,.aL ((out++[c]).map nD),.val (fc (if aY t c=0 then some out.length else base)),.val (nD c),.val .ah])):=by
  intro z n;cases z with
  |some y=>
   obtain⟨b,rfl⟩:=n y rfl;have:=j b rfl;have p:h0 out.length (b:Int)=some b:=by delta h0;rw[ax (by lia),ax (by lia),rT]
   simp[p]
  |none=>
   by_cases E:aY t c=0;·simp_all
   simp_all
 delta wN;rw[bN _ _ _ _ m];have e:bf (h8 (cB (jY true (aa 3))) (cB (qv 2 (az 4 tW (ac (aa 0) (ac (aa 2) (ac (aa 3) (ac (aa 4) am)))))))) (bg 5 (az 3 tX (ac (aa 0) (ac (lp (fC 2) (aa 3)) (ac (aa 4) am))))) bo [.val (aq t),xs,.aL (out.map nD),.val (fc base),.val (nD c),.val .ah]=.ok (.nx [.val (aq t),xs,.aL (out.map nD),.val (fc base),.val (nD c),.val (fc (pT t out base c))]):=by
  cases base with
  |none=>rfl
  |some b=>
   haveI f:=j b rfl;have g:out≠[]:=λz=>by simp_all
   have q:=h! t h out b c g;have r:=i? t k (out.getD b 0) c;have s:out[b]?=some (out.getD b 0):=by rw[jf,cI f];rfl
   have u:=gs nD out b _ s;have a:h8 (cB (jY true (aa 3))) (cB (qv 2 (az 4 tW (ac (aa 0) (ac (aa 2) (ac (aa 3) (ac (aa 4) am))))))) [.val (aq t),xs,.aL (out.map nD),.val (fc (some b)),.val (nD c),.val .ah]=.ok (reach t out b c):=by simp[tN,Slot.owned,q,vT]
   have iQ:bg 5 (az 3 tX (ac (aa 0) (ac (lp (fC 2) (aa 3)) (ac (aa 4) am)))) [.val (aq t),xs,.aL (out.map nD),.val (fc (some b)),.val (nD c),.val .ah]=.ok (.nx [.val (aq t),xs,.aL (out.map nD),.val (fc (some b)),.val (nD c),.val (fc (pS t (out.getD b 0) c))]):=by
    generalize out.getD b 0=o at*
    simp[u,r]
   rw[dQ,a,ai];haveI i:pT t out (some b) c=if reach t out b c=true then pS t (out.getD b 0) c else none:=rfl;rw[i];cases x:reach t out b c with|true=>lia|false=>rfl
 rw[bN _ _ _ _ e];exact d _ λy A=>by cases base with|none=>cases A|some b=>simp
def aeq(h:pT t out base c=some z):∃b,base=some b:=by cases base with|none=>cases h|some b=>simp
def E3(t:aN)(h:C2 t)(f:kt t)(xs:Slot)(a:xs.owned=false):∀(x out:List Nat)(base:Option Nat)(s w:Slot),(∀b,base=some b->b<out.length)->out.length+x.length<=16777216->∃d g i,forL (a1 4) wN (x.map nD) [.val (aq t),xs,.aL (out.map nD),.val (fc base),s,w]=.ok (.nx [.val (aq t),xs,.aL ((ky t out base x).map nD),.val d,g,i])|[],out,base,s,w,_,_=>⟨_,_,_,rfl⟩|c::x,out,base,s,w,j,k=>by haveI l:out.length+(x.length+1)<=16777216:=k;rw[gv,kP];haveI e:mR [Slot.val (aq t),xs,Slot.aL (out.map nD),Slot.val (fc base),s,w] 4 _=[Slot.val (aq t),xs,Slot.aL (out.map nD),Slot.val (fc base),Slot.val (nD c),w]:=rfl;rw[e,i! t h f out base c xs w a j (by lia)];unfold ky;cases m:pT t out base c with|some z=>exact E3 t h f xs a x _ _ _ _ (λb' e=>by simp_all) (by simp;lia)|none=>refine E3 t h f xs a x _ _ _ _ (λb' e=>?_) (by simp;lia);grind
def j_(t:aN)(h:C2 t)(a:kt t)(x:List Nat)(l:x.length<=100000):zP [aq t,al x]=.ok (al (QD t x)):=by
 show aK 6 _ _=_;rw[cb];delta MH;haveI d:gy 2 am (be 6 [aq t,al x])=.ok (.nx [.val (aq t),.val (al x),.aL [],.ah,.ah,.ah]):=by kernel_rfl
 haveI f:bg 3 (eC .ah) [.val (aq t),.val (al x),.aL [],.ah,.ah,.ah]=.ok (.nx [.val (aq t),.val (al x),.aL [],.val .ah,.ah,.ah]):=by rfl
 obtain⟨b',g,i,j⟩:=E3 t h a (.val (al x)) rfl x [] none .ah .ah (λb e=>by cases e) (by simp;lia);haveI k:fq (eL (aa 1)) (a1 4) wN [.val (aq t),.val (al x),.aL [],.val .ah,.ah,.ah]=.ok (.nx [.val (aq t),.val (al x),.aL ((ky t [] none x).map nD),.val b',g,i]):=by exact j
 rw[bN _ _ _ _ d,bN _ _ _ _ f];haveI c:=bN _ (gK 2) _ _ k;unfold wN at c;rw[c,Hw t a];rfl
structure C5(t:aN):Prop extends C2 t where
 dec:eU t
 pair:kt t
def iR(F:List D->R D)(E:DL.Env->R D)(a:DL.Env)(d:D)(h:E a=.ok d):az 1 F (ac E am) a=F [d]:=by simp_all
def call2(F:List D->R D)(E1 b:DL.Env->R D)(a:DL.Env)(c d:D)(e:E1 a=.ok c)(f:b a=.ok d):az 2 F (ac E1 (ac b am)) a=F [c,d]:=by simp_all
def ie(F:List D->R D)(E1 b c:DL.Env->R D)(a:DL.Env)(d e f:D)(g:E1 a=.ok d)(h:b a=.ok e)(i:c a=.ok f):az 3 F (ac E1 (ac b (ac c am))) a=F [d,e,f]:=by simp_all
def nF(F:List D->R D)(E1 b c d:DL.Env->R D)(a:DL.Env)(e f g h:D)(i:E1 a=.ok e)(j:b a=.ok f)(k:c a=.ok g)(l:d a=.ok h):az 4 F (ac E1 (ac b (ac c (ac d am)))) a=F [e,f,g,h]:=by simp_all
def qM(t:aN)(h:C5 t)(f:Nat)(x:List Nat)(d:x.length<=20000):iM [aq t,nD f,al x]=.ok (al (cC t f x)):=by
 show aK 4 _ _=_;rw[cb];delta MI cC;have k:=sr (eB t (decide (2<=f))) (λc=>(oi t h.dec _ c).2) x;have e:az 1 oZ (ac (aa 1) am) (be 4 [aq t,nD f,al x])=.ok (.bl (decide (2<=f))):=by rw[iR _ _ _ (nD f) rfl,NZ]
 have a:=ie lG (aa 0) (aa 2) _ _ _ _ _ rfl rfl e;rw[E2 t h.dec x _ d]at a;have b:=call2 lF (aa 0) _ _ _ _ rfl a;rw[EY t h.toC2 _ (by lia)]at b;have g:bg 3 (az 2 lF (ac (aa 0) (ac (az 3 lG (ac (aa 0) (ac (aa 2) (ac (az 1 oZ (ac (aa 1) am)) am)))) am))) (be 4 [aq t,nD f,al x])=.ok (.nx [.val (aq t),.val (nD f),.val (al x),.val (al (uo t (decide (2<=f)) x))]):=by rw[i8,b];rfl
 rw[bN _ _ _ _ g];have i:az 1 we (ac (aa 1) am) [.val (aq t),.val (nD f),.val (al x),.val (al (uo t (decide (2<=f)) x))]=.ok (.bl (f%2==1)):=by rw[iR _ _ _ (nD f) rfl,N0]
 have j:=call2 zP (aa 0) (aa 3) [.val (aq t),.val (nD f),.val (al x),.val (al (uo t (decide (2<=f)) x))] _ _ rfl rfl;have l:=BQ t h.dec (decide (2<=f)) x;rw[j_ t h.toC2 h.pair _ (by lia)]at j;simp only[c7,dQ,dh,i,ai,dz,ai];by_cases hf:f%2=1;·simp_all
 simp_all
def E4(t:aN)(a:eU t)(c:Nat)(b:Bool):nz [aq t,nD c,.bl b]=.ok (nD ((eB t b c).headD 0)):=by show aK 3 _ _=_;rw[cb];delta MJ;haveI e:=ie mB (aa 0) (aa 1) (aa 2) (be 3 [aq t,nD c,.bl b]) _ _ _ rfl rfl rfl;rw[EZ t a]at e;haveI f:=(oi t a b c).1;rw[gQ,qJ,e];cases g:eB t b c with|nil=>simp_all|cons d r=>simp[ew,h0]
def j?(t:aN)(c:Nat):(cF (putAll (ic t.pair)).1 (putAll (ic t.pair)).2 (c:Int)).isSome=t.pair.any λ(p:kT)=>p.b==c:=by rw[Ad,Be,kh,AY];delta ic;simp;grind
def j!(t:aN)(c:Nat):(cF (putAll (ic t.pair)).1 (putAll (ic t.pair)).2 (c:Int)).isNone=!t.pair.any λ(p:kT)=>p.b==c:=by rw[<-j?,Option.not_isSome]
def k_(t:aN)(h:C5 t)(f c:Nat):Er [aq t,nD f,nD c]=.ok (.bl (lS t f c)):=by
 show aK 4 _ _=_;rw[cb];delta MK lS;haveI j:az 1 oZ (ac (aa 1) am) (be 4 [aq t,nD f,nD c])=.ok (.bl (decide (2<=f))):=by rw[iR _ _ _ (nD f) rfl,NZ]
 haveI g:=ie nz (aa 0) (aa 2) _ _ _ _ _ rfl rfl j;rw[E4 t h.dec]at g;generalize(eB t _ c).headD 0=d at*
 haveI k:bg 3 (az 3 nz (ac (aa 0) (ac (aa 2) (ac (az 1 oZ (ac (aa 1) am)) am)))) (be 4 [aq t,nD f,nD c])=.ok (.nx [.val (aq t),.val (nD f),.val (nD c),.val (nD d)]):=by rw[i8,g];rfl
 rw[bN _ _ _ _ k];haveI l:=h.toC2.v d;haveI i:=j! t d;haveI b:=EE d;haveI a:=Nj d;haveI e:=N0 f;by_cases m:aY t d=0;·cases hf:f%2==1 with|false=>simp_all|true=>simp[l,m,e,hf,b,a];lia
 simp_all
def E5(c:Nat):lH [nD c]=.ok (.bl (jr c&&!fW c)):=by show aK 1 _ _=_;rw[cb];delta MN;haveI a:=wz c;have b:=ED c;cases d:jr c<;>rw[d]at a<;>simp[be,a,b]
def getD_at{a:Type}{l:List a}(h:i<l.length)(d:a):l[i]?=some (l.getD i d):=by simp_all
def k?(t:aN)(i:Nat)(h:i<t.pool.length):wo [aq t,nD i]=.ok (.bl (G4 t i)):=by
 show aK 2 _ _=_;rw[cb];delta MX G4;haveI a:=getD_at h 0;generalize t.pool.getD i 0=c at*
 haveI b:=gs nD t.pool i c a;haveI d:=E5 c;haveI e:=iR lH (bc (ao 5 0 (aa 0)) (aa 1)) (be 2 [aq t,nD i]) (nD c) (by simp[be,b]);simp_all
def k!(t:aN)(i:Nat)(h:i<t.cls.length):wn [aq t,nD i]=.ok (.bl (xr t i)):=by
 show aK 3 _ _=_;rw[cb];delta MW xr;have w:=getD_at h xu;generalize t.cls.getD i xu=r at*
 have x:=gs eN t.cls i r w;have g:0<i->ew (t.cls.map eN) ((i:Int)-1)=some (eN (t.cls.getD (i-1) xu)):=λA=>by have:=gs eN t.cls (i-1) _ (getD_at (by lia) xu);lia
 generalize t.cls.getD (i-1) xu=q at*
 have y:bg 2 (bc (ao 5 3 (aa 0)) (aa 1)) (be 3 [aq t,nD i])=.ok (.nx [.val (aq t),.val (nD i),.val (eN r)]):=by simp[be,jn,x]
 rw[bN _ _ _ _ y];dsimp only;haveI f:=wz r.first;have j:=wz r.last;haveI pt:=Ny r.first r.last;haveI p:∀a b,rW ⟨r.first,r.last,0⟩ a b=rW r a b:=λa b=>rfl;rw[p,p,p,p]at pt;generalize jr r.first=b1 at*
 generalize jr r.last=b2 at*
 cases b1;·simp[eN,f]
 cases b2;·simp[eN,f,j]
 by_cases m:r.first<=r.last
 ·haveI c:¬r.last<r.first:=by lia
  by_cases z:1<=r.cls/\r.cls<=254
  ·have d:(1:Int)<=r.cls:=by lia
   have e:(r.cls:Int)<=254:=by lia
   have n:em 1 254 r.cls=true:=by delta em;simp[z]
   by_cases s:i=0;·subst s;simp[eN,f,j,m,c,d,e,n,pt];lia
   ·have k:0<i:=by lia
    have u:=g k;have o:(i==0)=false:=by simpa using s
    by_cases v:q.last<r.first
    ·have l:¬r.first<=q.last:=by lia
     simp[eN,f,j,m,c,d,e,n,pt,k,u,v,l,o];lia
    ·have l:r.first<=q.last:=by lia
     simp[eN,f,j,m,c,d,e,n,pt,k,u,v,l,o]
  ·have n:em 1 254 r.cls=false:=by delta em;simp;lia
   by_cases d:(1:Int)<=r.cls
   ·haveI e:¬(r.cls:Int)<=254:=by lia
    simp[eN,f,j,m,c,d,e,n]
   ·simp[eN,f,j,m,c,d,n]
 ·haveI c:r.last<r.first:=by lia
  simp[eN,f,j,m,c]
def l_(x y:Nat)(a b:List Nat):cX (x::a) (y::b)=if x=y then cX a b else decide (x<y):=rfl
def wO:∀a b:List Nat,HT.lexLt (a.map λn:Nat=>(n:Int)) (b.map λn:Nat=>(n:Int))=cX a b|[],[]=>rfl|[],_::_=>rfl|_::_,[]=>rfl|x::a,y::b=>by simp only[gv,gv,HT.Jk,wO a b,l_];simp
abbrev wP(a:List (Nat×Nat))(o:D):R D:=match o with|.ins c fs=>(match a.lookup c with|some j=>(match fs[j]?with|some d=>.ok d|none=>.bad)|none=>.bad)|_=>.bad
def N2(a:List (Nat×Nat))(b:DL.Env->R D)(c:DL.Env):tS a b c=(b c).bind (wP a):=rfl
def E6{c:Type}(b:c->D)(rk:c->List Nat)(g:∀a,wP lE (b a)=.ok (al (rk a)))(l:List c)(i:Nat)(d:c)(k:i<l.length):o7 [.lst (l.map b),nD i]=.ok (.bl (i==0||cX (rk (l.getD (i-1) d)) (rk (l.getD i d)))):=by
 show aK 2 _ _=_;rw[cb];delta MM;haveI m:=gs b l i _ (getD_at k d);by_cases e:i=0;·subst e;kernel_rfl
 ·haveI h:=gs b l (i-1) _ (getD_at (by omega) d);rw[show(((i-1:Nat):Int))=i-1 by lia]at h;have f:(i==0)=false:=by simpa using e
  have n:eL (tS lE (bc (aa 0) (aM cT (λi j=>.int (i-j)) (aa 1) (eC (.int 1))))) (be 2 [.lst (l.map b),nD i])=.ok ((rk (l.getD (i-1) d)).map nD):=by
   have:bc (aa 0) (aM cT (λi j=>.int (i-j)) (aa 1) (eC (.int 1))) (be 2 [.lst (l.map b),nD i])=.ok (b (l.getD (i-1) d)):=by simp[be,h]
   simp only[j7,N2,this,ai,g,ai,j5]
  have o:eL (tS lE (bc (aa 0) (aa 1))) (be 2 [.lst (l.map b),nD i])=.ok ((rk (l.getD i d)).map nD):=by
   haveI:bc (aa 0) (aa 1) (be 2 [.lst (l.map b),nD i])=.ok (b (l.getD i d)):=by simp[be,m]
   simp only[j7,N2,this,ai,g,ai,j5]
  haveI p:bC false (aa 1) (eC (.int 0)) (be 2 [.lst (l.map b),nD i])=.ok (.bl false):=by simp[be,e]
  simp only[gQ,ZM,p,ai,dz,ay bE,qK,n,ai,o,ai,jG,cW,jG,cW,ai,lI,wO,f,Rc]
def l?(t:aN)(d:jg):wP lE (bT t d)=.ok (al [d.code,d.kind]):=rfl
def l!(p:kT):wP lE (pairD p)=.ok (al [p.a,p.b]):=rfl
def m_(k:jh):wP lE (eO k)=.ok (al k.code):=rfl
def N3(a b c d:Nat):cX [a,b] [c,d]=(decide (a<c)||(a==c&&decide (b<d))):=by
 unfold cX;by_cases h:a=c
 ·subst h;unfold cX;by_cases e:b=d;·subst e;simp[cX]
  simp_all
 simp_all
def N4:∀a b:List Nat,a.length=b.length->kc a b=cX a b
 |[],[],_=>rfl|[],_::_,h=>by simp at h|_::_,[],h=>by simp at h
 |x::a,y::b,h=>by
  unfold kc cX;rw[N4 a b (by simpa using h)];by_cases c:x=y;·subst c;simp
  ·haveI:(x==y)=false:=by simpa using c
   simp[c,this]
def tb(c lo a:Nat):rW ⟨c,c,0⟩ lo a=em lo a c:=Bool.and_comm _ _
def m?(t:aN)(i:Nat)(h:i<t.dec.length):wm [aq t,nD i]=.ok (.bl (xy t i)):=by
 show aK 3 _ _=_;rw[cb];delta MV xy;haveI o:=getD_at h x8;haveI c:=E6 (bT t) (λd=>[d.code,d.kind]) (l? t) t.dec i x8 h;rw[N3]at c;generalize t.dec.getD i x8=d at*
 haveI p:=gs (bT t) t.dec i d o;generalize t.dec.getD (i-1) x8=e at*
 haveI q:bg 2 (bc (ao 5 1 (aa 0)) (aa 1)) (be 3 [aq t,nD i])=.ok (.nx [.val (aq t),.val (nD i),.val (bT t d)]):=by simp[be,jn,p]
 rw[bN _ _ _ _ q];dsimp only;generalize(i==0||(decide (e.code<d.code)||(e.code==d.code&&decide (e.kind<d.kind))))=f at*
 haveI r:=wz d.code;haveI pt:=Ny d.code d.code;rw[tb,tb,tb,tb,G0,G0]at pt;replace pt:_=R.ok (D.bl (fW d.code||Fo.isPart d.code)):=pt;generalize jr d.code=b1 at*
 generalize fW d.code=b2 at*
 generalize Fo.isPart d.code=b3 at*
 generalize g:(D.lst (t.dec.map (bT t)))=a at*
 have s:az 1 jE (ac (ao 0 0 (aa 2)) am) [.val (aq t),.val (nD i),.val (bT t d)]=.ok (.bl b1):=by rw[iR _ _ _ (nD d.code) (by kernel_rfl),r]
 have u:az 2 v8 (ac (ao 0 0 (aa 2)) (ac (ao 0 0 (aa 2)) am)) [.val (aq t),.val (nD i),.val (bT t d)]=.ok (.bl (b2||b3)):=by rw[call2 _ _ _ _ (nD d.code) (nD d.code) (by kernel_rfl) (by kernel_rfl),pt]
 have v:az 2 o7 (ac (ao 5 1 (aa 0)) (ac (aa 1) am)) [.val (aq t),.val (nD i),.val (bT t d)]=.ok (.bl f):=by rw[call2 _ _ _ _ a (nD i) (by kernel_rfl) (by simp),c]
 have w:ml true (ao 0 1 (aa 2)) (dN (ac (eC (.int (0))) (ac (eC (.int (1))) am))) [.val (aq t),.val (nD i),.val (bT t d)]=.ok (.bl (!decide (d.kind<=1))):=by
  by_cases x:d.kind=0;·simp[bT,x]
  ·by_cases y:d.kind=1;·simp[bT,y]
   ·have z:¬0=(d.kind:Int):=by lia
    have A:¬1=(d.kind:Int):=by lia
    have B:¬d.kind<=1:=by lia
    simp[bT,z,A,B]
 have k:f8 (ez (λi j=>decide (i<=j)) (λi j=>decide (i<=j)) (eC (.int 1)) (ao 0 3 (aa 2)) (eC (.int 4))) (aM cT (λi j=>.bl (decide (i<=j))) (aM cT (λi j=>.int (i+j)) (ao 0 2 (aa 2)) (ao 0 3 (aa 2))) (cE (ao 5 0 (aa 0)))) [.val (aq t),.val (nD i),.val (bT t d)]=.ok (.bl (em 1 nP d.n&&decide (d.at_+d.n<=t.pool.length))):=by
  haveI C:em 1 nP d.n=decide ((1:Int)<=d.n/\(d.n:Int)<=4):=by delta em nP;rw[kh];simp;lia
  rw[C];by_cases b:(1:Int)<=d.n
  ·by_cases l:(d.n:Int)<=4;·haveI:decide ((d.at_:Int)+d.n<=t.pool.length)=decide (d.at_+d.n<=t.pool.length):=jq.mpr (by lia);simp[bT,b,l,this]
   ·simp[bT,b,l]
  ·simp[bT,b]
 rw[c7,dQ,t5,mD,dh,s,ai,dz,ai,ai,dh,u,ai,dz];cases b1;·simp
 cases b2
 ·cases b3
  ·simp only[Bool.not_true,AZ,ai,ay bE,gc,dP,c7,dQ,t5,dh,w,dz,mD,v,gQ,k];by_cases m:d.kind<=1;·cases f<;>simp[m,k,-EF]
   ·simp[m]
  ·simp
 ·simp
def n_(t:aN)(i:Nat)(h:i<t.weight.length)(b:∀w∈t.weight,rC w<65536):wf [aq t,nD i]=.ok (.bl (xB t i)):=by
 show aK 3 _ _=_;rw[cb];delta ML xB;haveI a:=getD_at h 0;haveI g:=b _ (fY a);generalize t.weight.getD i 0=w at*
 haveI c:=gs (λw=>wD (ke w)) t.weight i w a;haveI d:bg 2 (bc (ao 5 5 (aa 0)) (aa 1)) (be 3 [aq t,nD i])=.ok (.nx [.val (aq t),.val (nD i),.val (wD (rC w,Fo.sOf w,Fo.uOf w))]):=by simp[be,iP,c];rfl
 rw[bN _ _ _ _ d];dsimp only;generalize rC w=p at*
 generalize Fo.sOf w=s at*
 generalize Fo.uOf w=u at*
 haveI e:ml false (eC (.int 1)) (dN (ac (ao 4 0 (aa 2)) (ac (ao 4 1 (aa 2)) (ac (ao 4 2 (aa 2)) am)))) [.val (aq t),.val (nD i),.val (wD (p,s,u))]=.ok (.bl (p==1||(s==1||u==1))):=by simp[wD];rw[kh];simp;lia
 simp only[c7,dQ,dh,e,ai,dz,ai];cases f:(p==1||(s==1||u==1))with
 |true=>
  simp at f⊢
  omega|false=>simp[wD];lia
def n?(t:aN)(i:Nat)(h:i<t.key.length)(y:eU t)(z:∀k∈t.key,k.code.length=3):wg [aq t,nD i]=.ok (.bl (xA t i)):=by
 show aK 4 _ _=_;rw[cb];delta MO xA;haveI q:=getD_at h rY;have A:=E6 eO (λk=>k.code) m_ t.key i rY h;have O:=z _ (fY q);have m:(i==0||kc (t.key.getD (i-1) rY).code (t.key.getD i rY).code)=(i==0||cX (t.key.getD (i-1) rY).code (t.key.getD i rY).code):=by
  by_cases r:i=0;·simp_all
  ·rw[N4];grind
 dsimp only;rw[m];generalize t.key.getD i rY=k at*
 haveI B:=gs eO t.key i k q;haveI C:bg 2 (bc (ao 5 4 (aa 0)) (aa 1)) (be 4 [aq t,nD i])=.ok (.nx [.val (aq t),.val (nD i),.val (eO k),.ah]):=by simp[be,jn,B]
 rw[bN _ _ _ _ C];generalize(i==0||cX (t.key.getD (i-1) rY).code k.code)=s at*
 generalize u:(D.lst (t.key.map eO))=g at*
 generalize a:[Slot.val (aq t),Slot.val (nD i),Slot.val (eO k),Slot.ah]=d;have E:ez (λi j=>decide (i<=j)) (λi j=>decide (i<=j)) (eC (.int 1)) (ao 3 0 (aa 2)) (eC (.int 3)) d=.ok (.bl (em 1 3 k.n)):=by
  subst a;have F:em 1 3 k.n=decide ((1:Int)<=k.n/\(k.n:Int)<=3):=by delta em;rw[kh];simp;lia
  rw[F];by_cases f:(1:Int)<=k.n<;>simp[eO,f]
 have G:az 2 o7 (ac (ao 5 4 (aa 0)) (ac (aa 1) am)) d=.ok (.bl s):=by subst a;rw[call2 _ _ _ _ g (nD i) (by kernel_rfl) (by simp),A]
 have v:fo d [3]=d:=by subst a;rfl
 have H:eJ (λbs=>bs.all id) (eL (cw (eL (ei (eL (ao 3 3 (aa 2))) ir (cN (ao 3 0 (aa 2))))) (a1 3) cZ (f8 (az 1 lH (ac (aa 3) am)) (dY true (aa 3) (ao 5 6 (aa 0)))) [3])) d=.ok (.bl ((k.code.take k.n).all (λ(c:Nat)=>jr c&&(!dX t 0 c&&!fW c)))):=by
  have o:eL (ei (eL (ao 3 3 (aa 2))) ir (cN (ao 3 0 (aa 2)))) d=.ok ((k.code.take k.n).map nD):=by subst a;simp[eO,Nz,-G1]
  have l:=pb 3 (f8 (az 1 lH (ac (aa 3) am)) (dY true (aa 3) (ao 5 6 (aa 0)))) d nD (λc=>.bl (jr c&&(!dX t 0 c&&!fW c))) (λc=>by
   subst a;haveI I:=E5 c;haveI J:=ua t y 0 c;haveI w:=iR lH (aa 3) [.val (aq t),.val (nD i),.val (eO k),.val (nD c)] (nD c) rfl;rw[I]at w;haveI L:dY true (aa 3) (ao 5 6 (aa 0)) [.val (aq t),.val (nD i),.val (eO k),.val (nD c)]=.ok (.bl (!dX t 0 c)):=by delta dX;simp[J]
   show f8 _ _ [.val (aq t),.val (nD i),.val (eO k),.val (nD c)]=_;rw[EF,w,ai,dz,L];lia) (k.code.take k.n);have p:(k.code.take k.n).length<=16777216:=by simp;lia
  rw[EH,j7,nE,o,ai,v,l,nB,ax (by rw[bZ,gG];exact p),ai,j5,ai,EJ,cW];rw[Q7];rfl
 have M:eJ (λbs=>bs.any id) (eL (cw (eL (ei (eL (ao 3 3 (aa 2))) (cN (ao 3 0 (aa 2))) ir)) (a1 3) cZ (bC true (aa 3) (eC (.int 0))) [3])) d=.ok (.bl (!(k.code.drop k.n).all (λ(c:Nat)=>c==0))):=by
  have o:eL (ei (eL (ao 3 3 (aa 2))) (cN (ao 3 0 (aa 2))) ir) d=.ok ((k.code.drop k.n).map nD):=by subst a;simp[eO,NA,-Bq]
  have l:=pb 3 (bC true (aa 3) (eC (.int 0))) d nD (λc=>.bl (!(c==0))) (λc=>by
   subst a;by_cases r:c=0;·simp[r]
   simp_all) (k.code.drop k.n);have p:(k.code.drop k.n).length<=16777216:=by simp;lia
  rw[EH,j7,nE,o,ai,v,l,nB,ax (by rw[bZ,gG];exact p),ai,j5,ai,EJ,cW];rw[GB,List.not_all_eq_any_not];rfl
 have N:f8 (aM cT (λi j=>.bl (decide (i<=j))) (ao 3 2 (aa 2)) (eC (.int 4))) (aM cT (λi j=>.bl (decide (i<=j))) (aM cT (λi j=>.int (i+j)) (ao 3 1 (aa 2)) (ao 3 2 (aa 2))) (cE (ao 5 5 (aa 0)))) d=.ok (.bl (decide (k.at_+k.count<=t.weight.length)&&decide (k.count<=nP))):=by
  subst a;have l:decide ((k.at_:Int)+k.count<=t.weight.length)=decide (k.at_+k.count<=t.weight.length):=jq.mpr (by lia);haveI x:decide ((k.count:Int)<=4)=decide (k.count<=nP):=jq.mpr (by delta nP;lia);rw[Bool.and_comm];by_cases f:(k.count:Int)<=4
  ·haveI e:decide (k.count<=nP)=true:=by rw[<-x];exact gT f
   rw[e];simp[eO,f,iP,l]
  ·have e:decide (k.count<=nP)=false:=by rw[<-x];exact iC f
   rw[e];simp[eO,f]
 generalize em 1 3 k.n=b1 at*
 generalize((k.code.take k.n).all (λ(c:Nat)=>jr c&&(!dX t 0 c&&!fW c)))=b2 at*
 generalize((k.code.drop k.n).all (λ(c:Nat)=>c==0))=b3 at*
 simp only[c7,dQ,t5,mD,dh,E,ai,dz,ai,ai,mD,dh,G,ai,dz,ai];haveI fin:∀b:Bool,outD (aQ (eC (.bl b)) d)=.ok (.bl b):=λb=>rfl;have rest:outD (au (bf (eZ (cB (eJ (λbs=>bs.all id) (eL (cw (eL (ei (eL (ao 3 3 (aa 2))) ir (cN (ao 3 0 (aa 2))))) (a1 3) cZ (f8 (az 1 lH (ac (aa 3) am)) (dY true (aa 3) (ao 5 6 (aa 0)))) [3]))))) (aQ (eC (.bl false))) bo) (au (bf (cB (eJ (λbs=>bs.any id) (eL (cw (eL (ei (eL (ao 3 3 (aa 2))) (cN (ao 3 0 (aa 2))) ir)) (a1 3) cZ (bC true (aa 3) (eC (.int 0))) [3])))) (aQ (eC (.bl false))) bo) (aQ (f8 (aM cT (λi j=>.bl (decide (i<=j))) (ao 3 2 (aa 2)) (eC (.int 4))) (aM cT (λi j=>.bl (decide (i<=j))) (aM cT (λi j=>.int (i+j)) (ao 3 1 (aa 2)) (ao 3 2 (aa 2))) (cE (ao 5 5 (aa 0))))))) d)=.ok (.bl (b2&&(b3&&(decide (k.at_+k.count<=t.weight.length)&&decide (k.count<=nP))))):=by
  simp only[c7,dQ,mD,dh,H,ai,dz,ai,ai];cases b2;·rfl
  rw[ay (by decide),gc,ai,dP,c7,dQ,dh,M,ai,dz,ai];cases b3;·rfl
  rw[ay (by decide),gc,ai,dP,gQ,N];rfl
 cases b1;·simp
 cases s;·simp
 assumption
def qN(f:List Bool->Bool)(i:Nat)(b:DL.Env->R (List D))(E:DL.Env->R D)(a:DL.Env)(l:List Nat)(p:Nat->Bool)(d:b a=.ok (l.map nD))(e:∀c∈l,E ((fo a [i]).set i (.val (nD c)))=.ok (.bl (p c)))(h:l.length<=100000):eJ f (eL (cw b (a1 i) cZ E [i])) a=.ok (.bl (f (l.map p))):=by haveI g:=wE i E _ nD (λc=>.bl (p c)) l e;rw[EH,j7,nE,d,ai,g,nB,ax (by rw[bZ,gG];lia),ai,j5,ai,EJ,cW]
def n!(l:List Nat)(p:Nat->Bool):(l.map p).all id=l.all p:=by simp
def E7(l:List Nat)(p:Nat->Bool):(l.map p).any id=l.any p:=by simp
def qO(t:aN)(f:eU t)(a:Bool)(k j c:Nat)(g:(iz t)[j]?=some (lL (fU t k t.dec)))(d e:DL.Env->R D)(b:DL.Env)(h:d b=.ok (nD c))(i:e b=.ok (aq t)):dY a d (ao 5 j e) b=.ok (.bl (if a=true then !dX t k c else dX t k c)):=by haveI l:=ua t f k c;simp only[Z2,h,ai,t6,i,ai,Ai,g,cW,ai,EG,NX,l,Be];rfl
def wQ(t:aN)(d:jg)(a:t.pool.length<=128):(cH t d).length<=128:=by delta cH;simp;omega
def o_(t:aN)(a:eU t)(d:jg)(f:t.pool.length<=128):zQ [aq t,bT t d]=.ok (.bl ((cH t d).all (λ(c:Nat)=>!dX t 0 c)&&dX t 1 d.code==(cH t d).any (dX t 1))):=by
 show aK 4 _ _=_;rw[cb];delta MQ;haveI k:=wQ t d f;haveI g:be 4 [aq t,bT t d]=[.val (aq t),.val _,.ah,.ah]:=rfl;rw[g];have b:=qN (λbs=>bs.any id) 3 (eL (ao 0 4 (aa 1))) (dY false (aa 3) (ao 5 6 (aa 0))) [.val (aq t),.val (bT t d),.ah,.ah] (cH t d) (dX t 0) (by kernel_rfl) (λc _=>qO t a false 0 6 c rfl _ _ _ rfl rfl) (by lia);rw[E7]at b;haveI e:=qN (λbs=>bs.any id) 3 (eL (ao 0 4 (aa 1))) (dY false (aa 3) (ao 5 7 (aa 0))) [.val (aq t),.val (bT t d),.ah,.ah] (cH t d) (dX t 1) (by kernel_rfl) (λc _=>qO t a false 1 7 c rfl _ _ _ rfl rfl) (by lia);rw[E7]at e;haveI h:=qO t a false 1 7 d.code rfl (ao 0 0 (aa 1)) (aa 0) [.val (aq t),.val (bT t d),.val (.bl ((cH t d).any (dX t 1))),.ah] (by kernel_rfl) rfl;simp only[c7,dQ,dh,b,ai,dz,ai];haveI i:(cH t d).all (λc=>!dX t 0 c)=!(cH t d).any (dX t 0):=by rw[acD]
 rw[i];generalize(cH t d).any _=b1 at*
 cases b1;·simp only[ay bE,gc,ai,dP,c7,i8,e,ai,ai,dP];haveI j:mR [Slot.val (aq t),Slot.val _,Slot.ah,Slot.ah] 2 _=[Slot.val (aq t),Slot.val (bT t d),Slot.val (D.bl ((cH t d).any (dX t 1))),Slot.ah]:=rfl;rw[j,gQ,t7,show aa 2 _=.ok _ from rfl,ai,h,ai,ZR,cW];generalize(cH t d).any _=b2;cases dX t 1 d.code<;>cases b2<;>rfl
 ·rfl
def o?(t:aN)(l:C2 t)(f:eU t)(d:jg)(g:t.pool.length<=128):zR [aq t,bT t d]=.ok (.bl ((cH t d).all (λ(c:Nat)=>!dX t 0 c&&!dX t 1 c)&&match jL t d.code 0 with|some e=>cH t d==nN t ((cH t e).flatMap (eB t true))|none=>true)):=by
 show aK 3 _ _=_;rw[cb];delta MR;haveI v:=wQ t d g;haveI m:be 3 [aq t,bT t d]=[.val (aq t),.val (bT t d),.ah]:=rfl;rw[m];have h:=qN (λbs=>bs.any id) 2 (eL (ao 0 4 (aa 1))) (oJ (dY false (aa 2) (ao 5 6 (aa 0))) (dY false (aa 2) (ao 5 7 (aa 0)))) [.val (aq t),.val (bT t d),.ah] (cH t d) (λc=>dX t 0 c||dX t 1 c) (by kernel_rfl) (λc _=>by have w:=qO t f false 0 6 c rfl (aa 2) (aa 0) [.val (aq t),.val (bT t d),.val (nD c)] rfl rfl;have x:=qO t f false 1 7 c rfl (aa 2) (aa 0) [.val (aq t),.val (bT t d),.val (nD c)] rfl rfl;simp_all) (by lia);rw[E7]at h;haveI n:=qO t f true 0 6 d.code rfl (ao 0 0 (aa 1)) (aa 0) [.val (aq t),.val (bT t d),.ah] (by kernel_rfl) rfl;rw[c7,dQ,dh,h,ai,dz,ai];have o:(cH t d).all (λc=>!dX t 0 c&&!dX t 1 c)=!(cH t d).any (λc=>dX t 0 c||dX t 1 c):=by rw[acD];congr 1;funext c;rw[Bool.not_or]
 rw[o];generalize(cH t d).any (λc=>dX t 0 c||dX t 1 c)=b1 at*
 cases b1
 ·rw[ay bE,gc,ai,dP,c7,dQ,dh,n,ai,dz,ai,ax rfl];delta dX;haveI i:=ua t f 0 d.code;cases p:jL t d.code 0 with
  |none=>rfl
  |some e=>
   rw[p]at i;rw[show(!(some e).isSome)=false from rfl,ay bE,gc,ai,dP,gQ,qK];haveI q:=wQ t e g;have r:jZ (ao 5 6 (aa 0)) (ao 0 0 (aa 1)) [.val (aq t),.val (bT t d),.ah]=.ok (al (cH t e)):=by simp[bT,i]
   haveI j:=ie lG (aa 0) _ (eC (.bl true)) _ _ _ _ rfl r rfl;rw[E2 t f _ _ (by lia)]at j;haveI s:=sr _ (λc=>(oi t f true c).2) (cH t e);haveI k:=call2 lF (aa 0) _ _ _ _ rfl j;rw[EY t l _ (by lia)]at k;haveI u:eL (ao 0 4 (aa 1)) [.val (aq t),.val (bT t d),.ah]=.ok ((cH t d).map nD):=by kernel_rfl
   simp only[u,ai,j7,k,ai,j5,ai,jG,cW,jG,cW,ai,lI];congr 2;rw[RJ,Bool.true_and,kh,jK,eE];constructor;·intro z;exact acE (λa b y=>by lia)|>.mp z
   ·intro z;rw[z]
 ·rfl
def o!(t:aN)(a:C2 t)(d:jg)(b:t.pool.length<=128):wj [aq t,bT t d]=.ok (.bl (aY t d.code==0||(cH t d).all λ(c:Nat)=>aY t c==aY t d.code)):=by
 show aK 4 _ _=_;rw[cb];delta MS;haveI g:=wQ t d b;haveI e:=a.v d.code;haveI h:bg 2 (dI 5 2 ek (aa 0) (ac (ao 0 0 (aa 1)) am)) (be 4 [aq t,bT t d])=.ok (.nx [.val (aq t),.val (bT t d),.val (nD (aY t d.code)),.ah]):=by simp[be,bT,e]
 have i:=qN (λbs=>bs.all id) 3 (eL (ao 0 4 (aa 1))) (bC false (dI 5 2 ek (aa 0) (ac (aa 3) am)) (aa 2)) [.val (aq t),.val (bT t d),.val (nD _),.ah] (cH t d) (λc=>aY t c==aY t d.code) (by kernel_rfl) (λc _=>by haveI:=a.v c;simp[this];rfl) (by lia);have j:bC false (aa 2) (eC (.int 0)) [.val (aq t),.val (bT t d),.val (nD (aY t d.code)),.ah]=.ok (.bl (aY t d.code==0)):=by
  by_cases f:aY t d.code=0;·simp[f]
  ·simp_all
 simp_all
abbrev qP(t:aN)(a:List Nat)(k:Nat):Bool:=decide (aY t (a.getD (k+1) 0)<aY t (a.getD k 0))&&decide (0<aY t (a.getD (k+1) 0))
def N5(t:aN):∀a:List Nat,RR t a=!(bU (a.length-1)).any (qP t a)
 |[]=>rfl|[x]=>rfl
 |x::y::r=>by
  have c:=N5 t (y::r);have d:(x::y::r).length-1=(y::r).length-1+1:=by rfl
  rw[d,GA,nR,GB,Bool.not_or];have e:qP t (x::y::r) 0=(decide (aY t y<aY t x)&&aY t y !=0):=by
   delta qP;congr 1;by_cases b:aY t y=0;·simp[b]
   ·have:0<aY t y:=by lia
    simp[b,this]
  have f:(qP t (x::y::r)∘Nat.succ)=qP t (y::r):=rfl;rw[e,f,<-c];rfl
def p_(t:aN)(f:C2 t)(a:List Nat)(p:a.length<=1000):wk [aq t,al a]=.ok (.bl (RR t a)):=by
 show aK 5 _ _=_;rw[cb];delta MT;haveI q:a.length<=16777216:=by lia
 haveI g:=pb 3 (dI 5 2 ek (aa 0) (ac (aa 3) am)) [.val (aq t),.val (al a),.ah,.ah,.ah] nD (λc=>nD (aY t c)) (λc=>by haveI:=f.v c;simp[this]) a;haveI h:bg 2 (cw (eL (aa 1)) (a1 3) cZ (dI 5 2 ek (aa 0) (ac (aa 3) am)) [3]) (be 5 [aq t,al a])=.ok (.nx [.val (aq t),.val (al a),.val (.lst (a.map λc=>nD (aY t c))),.ah,.ah]):=by haveI l:fo (be 5 [aq t,al a]) [3]=[.val (aq t),.val (al a),.ah,.ah,.ah]:=rfl;rw[i8,nE,show eL (aa 1) _=.ok (a.map nD) from rfl,ai,l,g,nB,ax (by simp_all)];rfl
 rw[bN _ _ _ _ h,N5];generalize b:[Slot.val (aq t),Slot.val (al a),Slot.val _,Slot.ah,Slot.ah]=d;have m:jz (ac (aM cT (λi j=>.int (i-j)) (cE (aa 1)) (eC (.int 1))) am) d=.ok ((bU (a.length-1)).map nD):=by
  cases b;have n:oO (a.length-1)=true:=by delta oO;simp;lia
  haveI o:((a.length:Int)-1).toNat=a.length-1:=by lia
  simp[qg,n,o,jy]
 haveI r:=qN (λbs=>bs.any id) 4 _ (ez (λi j=>decide (j<i)) (λi j=>decide (j<i)) (bc (aa 2) (aa 4)) (bc (aa 2) (aM cT (λi j=>.int (i+j)) (aa 4) (eC (.int 1)))) (eC (.int 0))) d _ (qP t a) m (λk e=>by subst b;have e:=lQ.mp e;have s:=gs (λc=>nD (aY t c)) a k _ (getD_at (by lia) 0);have u:=gs (λc=>nD (aY t c)) a (k+1) _ (getD_at (by lia) 0);delta qP;simp_all) (by grind);simp_all
def p?(t:aN)(k:C2 t)(l:eU t)(j:t.pool.length<=128)(i:Nat)(h:i<t.dec.length):wl [aq t,nD i]=.ok (.bl (G5 t i)):=by
 show aK 3 _ _=_;rw[cb];delta MU G5;have m:=getD_at h x8;have y:=(l.all _ (fY m)).1;dsimp only;generalize t.dec.getD i x8=d at*
 have s:=gs (bT t) t.dec i d m;have u:bg 2 (bc (ao 5 1 (aa 0)) (aa 1)) (be 3 [aq t,nD i])=.ok (.nx [.val (aq t),.val (nD i),.val (bT t d)]):=by simp[be,s]
 rw[bN _ _ _ _ u];generalize a:[Slot.val (aq t),Slot.val (nD i),Slot.val (bT t d)]=b;have v0:aa 0 b=.ok (aq t):=by subst a;rfl
 have v2:aa 2 b=.ok (bT t d):=by subst a;rfl
 have n:=call2 zQ _ _ b _ _ v0 v2;have o:=call2 zR _ _ b _ _ v0 v2;have p:=call2 wj _ _ b _ _ v0 v2;have v:ao 0 4 (aa 2) b=.ok (al (cH t d)):=by subst a;kernel_rfl
 have q:=call2 wk _ _ b _ _ v0 v;rw[o_ t l d j]at n;rw[o? t k l d j]at o;rw[o! t k d j]at p;rw[p_ t k _ (by have:=wQ t d j;omega)]at q;have k0:bC false (ao 0 1 (aa 2)) (eC (.int (0))) b=.ok (.bl (decide (d.kind=0))):=by cases a;simp[bT]
 have k1:bC false (ao 0 1 (aa 2)) (eC (.int (1))) b=.ok (.bl (decide (d.kind=1))):=by subst a;have:decide ((d.kind:Int)=1)=decide (d.kind=1):=jq.mpr (by omega);simp[bT,this]
 generalize((cH t d).all (λc=>!dX t 0 c)&&dX t 1 d.code==(cH t d).any _)=bs at*
 generalize((cH t d).all (λc=>!dX t 0 c&&!dX t 1 c)&&match jL t d.code 0 with|some e=>cH t d==nN t _|none=>true)=w at*
 generalize(aY t d.code==0||(cH t d).all λc=>aY t c==aY t d.code)=r at*
 generalize RR t (cH t d)=x at*
 have fin:outD (aQ (f8 (az 2 wj (ac (aa 0) (ac (aa 2) am))) (az 2 wk (ac (aa 0) (ac (ao 0 4 (aa 2)) am)))) b)=.ok (.bl (r&&x)):=by rw[gQ,EF,p,ai,q];cases r<;>rfl
 simp only[c7,dQ,zY,dh,k0,ai,dz,ai,mD,dh,n,ai,dz,ai];by_cases f:d.kind=0
 ·have g:¬d.kind=1:=by lia
  rw[gT f,ax rfl,ai,ax f];cases bs;·simp
  ·rw[ay (by simp),gc,ai,dP,c7,dQ,zY,dh,k1,ai,dz,ai,iC g,ay bE,ai,ay bE,gc,ai,dP,fin];grind
 ·have g:d.kind=1:=by lia
  rw[iC f,ay bE,ai,ay bE,ay f,gc,ai,dP,c7,dQ,zY,dh,k1,ai,dz,ai,gT g,ax rfl,mD,dh,o,ai,dz,ai,ai];cases w;·simp
  ·rw[ay (by simp),gc,ai,dP,fin];grind
def wR(c d:List Nat):decide ((c.map λn:Nat=>(n:Int))=d.map λn:Nat=>(n:Int))=(c==d):=by
 rw[kh,jK,eE];constructor;·intro z;exact acE (λa b e=>by simpa using e)|>.mp z
 ·intro z;rw[z]
def p!(t:aN)(G:C2 t)(m:eU t)(i:Nat)(h:i<t.pair.length)(hp:t.pool.length<=128):wh [aq t,nD i]=.ok (.bl (xz t i)):=by
 show aK 4 _ _=_;rw[cb];delta MP xz;have W:=getD_at h G6;have H:=E6 pairD (λp=>[p.a,p.b]) l! t.pair i G6 h;rw[N3]at H;dsimp only;generalize t.pair.getD i G6=p at*
 have X:=gs pairD t.pair i p W;generalize t.pair.getD (i-1) G6=q at*
 have Y:bg 2 (bc (ao 5 2 (aa 0)) (aa 1)) (be 4 [aq t,nD i])=.ok (.nx [.val (aq t),.val (nD i),.val (pairD p),.ah]):=by simp[be,jn,X]
 simp only[bN _ _ _ _ Y];generalize(i==0||(decide (q.a<p.a)||(q.a==p.a&&decide (q.b<p.b))))=Z at*
 generalize I:(D.lst (t.pair.map pairD))=n at*
 generalize f:[Slot.val (aq t),Slot.val (nD i),Slot.val (pairD p),Slot.ah]=e;have v0:aa 0 e=.ok (aq t):=by subst f;rfl
 have v1:aa 1 e=.ok (nD i):=by subst f;rfl
 have u:ao 1 0 (aa 2) e=.ok (nD p.a):=by subst f;kernel_rfl
 have J:ao 1 1 (aa 2) e=.ok (nD p.b):=by subst f;kernel_rfl
 have x:ao 1 2 (aa 2) e=.ok (nD p.c):=by subst f;kernel_rfl
 have fr:ao 5 2 (aa 0) e=.ok n:=by subst f;kernel_rfl
 have L:=qN (λbs=>bs.all id) 3 (kE (dN (ac (ao 1 0 (aa 2)) (ac (ao 1 1 (aa 2)) (ac (ao 1 2 (aa 2)) am))))) (az 1 lH (ac (aa 3) am)) e [p.a,p.b,p.c] (λc=>jr c&&!fW c) (by simp_all) (λc _=>by rw[iR _ _ _ (nD c) (by subst f;rfl),E5]) (by simp);rw[n!]at L;have M:=call2 o7 _ _ e _ _ fr v1;rw[H]at M;have N:=iR tU _ e _ u;rw[Ni]at N;have O:=iR qz _ e _ J;rw[EE]at O;have g:∀(E:DL.Env->R D) (c:Nat),E e=.ok (nD c)->bC true (dI 5 2 ek (aa 0) (ac E am)) (eC (.int 0)) e=.ok (.bl (!(aY t c==0))):=by intro E c hE;have hv:=G.v c;rw[t7,Nn,v0,ai,Ai,eM,hE,ai,i9,ai,ai,ax (by rfl),NO,hv,ai,mC,ai,wB,cW,ax rfl];congr 3;rw[kh,jK,eE];lia
 have q5:=g _ _ u;have q6:=g _ _ x;have P:=ie nz _ _ (eC (.bl false)) e _ _ _ v0 u rfl;rw[E4 t m]at P;have q7:=g _ _ P;have Q:=qO t m true 0 6 p.c rfl _ _ e x v0;rw[ax rfl]at Q;have el:de (ac (ao 1 0 (aa 2)) (ac (ao 1 1 (aa 2)) am)) e=.ok (al [p.a,p.b]):=by rw[zZ,eM,u,ai,eM,J,ai,i9,ai,ai,ai,ax (by simp)];rfl
 have S:=ie lG _ _ (eC (.bl false)) e _ _ _ v0 el rfl;rw[E2 t m _ _ (by simp)]at S;have y:=sr (eB t false) (λc=>(oi t m false c).2) [p.a,p.b];have o:=call2 lF _ _ e _ _ v0 S;rw[EY t G _ (by simp at y;simp;lia)]at o;have k:(jr p.a&&!fW p.a)=true->aY t p.a=0->(aY t ((eB t false p.a).headD 0)==0)=(match jL t p.a 0 with|some d=>aY t ((cH t d).headD 0)==0|none=>true):=by
  intro h1 hc;delta eB;simp only[xT,if_false];have hs:fW p.a=false:=by cases hx:fW p.a with|false=>rfl|true=>lia
  cases jL t p.a 0 with|some d=>rfl|none=>dsimp only;rw[hs,ay bE];show(aY t p.a==0)=true;lia
 have j:([p.a,p.b,p.c].all (λ(c:Nat)=>jr c&&!fW c))=true->(jr p.a&&!fW p.a)=true:=by intro z;rw[nZ,d0]at z;exact z.1
 generalize([p.a,p.b,p.c].all (λ(c:Nat)=>jr c&&!fW c))=b1 at*
 generalize rA p.a=w at*
 generalize rB p.b=A at*
 simp only[c7,dQ,mD,dh,L,ai,dz,ai,ai];cases b1;·simp
 rw[ay (by simp),gc,ai,dP,c7,dQ,t5,mD,dh,M,ai,dz,ai,ai,zY,dh,N,ai,dz,ai,dh,O,ai,dz];cases Z;·simp
 rw[ay (by simp)];have B:(if w=true then(R.ok A:R Bool)else R.ok false)=R.ok (w&&A):=by cases w<;>rfl
 rw[B,ai];cases hb:w&&A
 ·rw[ay bE,gc,ai,dP,c7,dQ,t5,dh,q5,ai,dz,ai,dh,q6,ai,dz];cases C:aY t p.a==0;·simp
  rw[ay (by simp),ai];cases yn:aY t p.c==0;·simp
  have r:aY t p.a=0:=by simpa using C
  have T:=k (j rfl) r;rw[ay (by simp),gc,ai,dP,c7,dQ,dh,q7,ai,dz,ai];have U:=ua t m 0 p.c;have tail:outD (au (bf (cB (dY true (ao 1 2 (aa 2)) (ao 5 6 (aa 0)))) (aQ (eC (.bl false))) bo) (aQ (h7 (λns F=>decide (ns=F)) (eL (jZ (ao 5 6 (aa 0)) (ao 1 2 (aa 2)))) (eL (az 2 lF (ac (aa 0) (ac (az 3 lG (ac (aa 0) (ac (de (ac (ao 1 0 (aa 2)) (ac (ao 1 1 (aa 2)) am))) (ac (eC (.bl false)) am)))) am)))))) e)=.ok (.bl (match jL t p.c 0 with|some d=>cH t d==uo t false [p.a,p.b]|none=>false)):=by
   simp only[c7,dQ,dh,Q,ai,dz,ai];delta dX;cases s:jL t p.c 0 with
   |none=>rfl
   |some d=>
    rw[s]at U;have e0:eL (jZ (ao 5 6 (aa 0)) (ao 1 2 (aa 2))) e=.ok ((cH t d).map nD):=by rw[j7,Z4,t6,v0,ai,Ai,g!,cW,ai,x,ai,NX,EG,U,QC,cW,ai,j5]
    rw[show(!(some d).isSome)=false from rfl,ay bE,gc,ai,dP,gQ,qK,e0,ai,j7,o,ai,j5,ai,jG,cW,jG,cW,ai,lI,wR];rfl
  generalize(aY t ((eB t false p.a).headD 0)==0)=b7 at T⊢
  have hm:(match jL t p.a 0 with|some d=>aY t ((cH t d).headD 0)==0|none=>true)=b7:=T.symm;have l:outD (((if(!b7)=true then aQ (eC (.bl false)) e else bo e)).bind (j3 (au (bf (cB (dY true (ao 1 2 (aa 2)) (ao 5 6 (aa 0)))) (aQ (eC (.bl false))) bo) (aQ (h7 (λns F=>decide (ns=F)) (eL (jZ (ao 5 6 (aa 0)) (ao 1 2 (aa 2)))) (eL (az 2 lF (ac (aa 0) (ac (az 3 lG (ac (aa 0) (ac (de (ac (ao 1 0 (aa 2)) (ac (ao 1 1 (aa 2)) am))) (ac (eC (.bl false)) am)))) am)))))))))=.ok (.bl (b7&&(match jL t p.c 0 with|some d=>cH t d==uo t false [p.a,p.b]|none=>false))):=by
   cases b7;·rfl
   ·assumption
  rw[l,<-hm];rfl
 rfl
def q_(a:Nat->Option (List D->R D))(b:Nat)(F:List D->R D)(f:a b=some F)(d:DL.Env->R (List D))(c:DL.Env)(ds:List D)(e:c[2]?=some (.val (.fn b)))(he:d c=.ok ds)(g:ds.length=2):oW 2 2 a d c=F ds:=by delta oW;simp_all
def N6(t:aN)(b:Nat)(F:List D->R D)(d:FV b=some F)(p:Nat->Bool)(a:D):∀(l:List Nat)(s:Slot),(∀i∈l,F [aq t,nD i]=.ok (.bl (p i)))->outD ((forL (a1 3) (bf (eZ (cB (oW 2 2 FV (ac (aa 0) (ac (aa 3) am))))) (aQ (aa 3)) bo) (l.map nD) [.val (aq t),.val a,.val (.fn b),s]).bind (j3 (aQ (eC .ah))))=.ok (fc (l.find? λi=>!p i))
 |[],s,_=>rfl
 |i::l,s,h=>by
  rw[gv,kP];have c:mR [Slot.val (aq t),Slot.val a,Slot.val _,s] 3 _=[Slot.val (aq t),Slot.val a,Slot.val (.fn b),Slot.val (nD i)]:=rfl;have e:oW 2 2 FV (ac (aa 0) (ac (aa 3) am)) [Slot.val (aq t),Slot.val a,Slot.val (.fn b),Slot.val (nD i)]=.ok (.bl (p i)):=by rw[q_ FV b F d _ _ _ rfl (by rfl) rfl,h i (by simp)]
  simp only[c,dQ,mD,dh,e,ai,dz];cases f:p i with|false=>simp[f]|true=>have k:=N6 t b F d p a l (.val (nD i)) λj g=>h j (by simp[g]);simp_all
def q?(j:Int)(h:oO j=true):qg [.int j]=.ok (jy 0 1 j.toNat):=by delta qg;lia
def q!(n:Nat):jy 0 1 n=(bU n).map nD:=by delta jy;simp
def r_(n:Nat)(h:n<=100000):oO (n:Int)=true:=by delta oO;grind
def E8(n:Nat)(h:n<=100000):qg [nD n]=.ok ((bU n).map nD):=by rw[q? _ (r_ n h),rT,q!]
def qQ(t:aN)(b n:Nat)(F:List D->R D)(d:FV b=some F)(p:Nat->Bool)(a:List D)(e:a.length=n)(f:n<=1000)(h:∀i,i<n->F [aq t,nD i]=.ok (.bl (p i))):qD [aq t,.lst a,.fn b]=.ok (fc (nO n p)):=by
 show aK 4 _ _=_;rw[cb];delta MY nO;haveI c:be 4 [aq t,.lst a,.fn b]=[.val _,.val _,.val _,.ah]:=rfl;haveI g:jz (ac (cE (aa 1)) am) [.val (aq t),.val (.lst a),.val (.fn b),.ah]=.ok ((bU n).map nD):=by
  haveI j:cE (aa 1) [.val (aq t),.val (.lst a),.val (.fn b),.ah]=.ok (nD n):=by rw[z7,show aa 1 _=.ok _ from rfl,ai,z0,e]
  rw[EL,eM,j,ai,i9,ai,ai,E8 n (by lia)]
 rw[c,c7,t8,g];exact N6 t b F d p _ _ .ah λi c=>h i (lQ.mp c)
structure Shape(t:aN):Prop where
 pool:t.pool.length<=128
 dec:t.dec.length<=128
 pair:t.pair.length<=128
 cls:t.cls.length<=128
 key:t.key.length<=128
 weight:t.weight.length<=128
 code:∀k∈t.key,k.code.length=3
 small:∀w∈t.weight,rC w<65536
abbrev N7(t:aN):List (D×Nat):=[(al t.pool,44),(.lst (t.cls.map eN),45),(.lst (t.dec.map (bT t)),46),(.lst (t.dec.map (bT t)),47),(.lst (t.pair.map pairD),52),(.lst (t.key.map eO),53),(iP t.weight,54)]
abbrev nG(r:D×Nat):D:=.tup [r.1,.fn r.2]
abbrev Ak:DL.Env->R Out:=(au (bg 4 (az 3 qD (ac (aa 0) (ac (bc (aa 3) (eC (.int 0))) (ac (bc (aa 3) (eC (.int 1))) am))))) (bf (cB (jY true (aa 4))) (aQ (de (ac (aa 2) (ac (aa 4) am)))) bo))
abbrev nH(n:Nat)(r:D×Nat):D:=.tup [nD n,nG r]
abbrev E9(o:Option Nat)(n:Nat)(k:R Out):R Out:=match o with|some i=>.ok (.rt (al [n,i]))|none=>k
def qR(n:Nat)(k:R Out):E9 none n k=k:=rfl
def qS(i n:Nat)(k:R Out):E9 (some i) n k=.ok (.rt (al [n,i])):=rfl
def qT(t:aN)(n:Nat)(r:D×Nat)(o:Option Nat)(a d e b:Slot)(h:qD [aq t,r.1,.fn r.2]=.ok (fc o))(rest:List D)(T:DL.Env->R Out):(forL (jA 2 (e7 (a1 2) (e7 (a1 3) j0))) Ak (nH n r::rest) [.val (aq t),a,d,e,b]).bind (j3 T)=E9 o n ((forL (jA 2 (e7 (a1 2) (e7 (a1 3) j0))) Ak rest [.val (aq t),a,.val (nD n),.val (nG r),.val .ah]).bind (j3 T)):=by
 haveI f:jA 2 (e7 (a1 2) (e7 (a1 3) j0)) (nH n r) [.val (aq t),a,d,e,b]=.ok [.val (aq t),a,.val (nD n),.val (nG r),b]:=by rfl
 rw[ET _ _ _ _ _ _ f];haveI g:bc (aa 3) (eC (.int 0)) [.val (aq t),a,.val (nD n),.val (nG r),b]=.ok r.1:=rfl;haveI j:bc (aa 3) (eC (.int 1)) [.val (aq t),a,.val (nD n),.val (nG r),b]=.ok _:=rfl;haveI c:=ie qD (aa 0) _ _ _ _ _ _ rfl g j;rw[h]at c;have k:bg 4 (az 3 qD (ac (aa 0) (ac (bc (aa 3) (eC (.int 0))) (ac (bc (aa 3) (eC (.int 1))) am)))) [.val (aq t),a,.val (nD n),.val (nG r),b]=.ok (.nx [.val (aq t),a,.val (nD n),.val (nG r),.val (fc o)]):=by rw[i8,c];rfl
 delta Ak;rw[bN _ _ _ _ k];cases o with|none=>rfl|some i=>rfl
def r?:FV 44=some wo:=rfl
def r!:FV 45=some wn:=rfl
def s_:FV 46=some wm:=rfl
def s?:FV 47=some wl:=rfl
def t_:FV 52=some wh:=rfl
def t?:FV 53=some wg:=rfl
def t!:FV 54=some wf:=rfl
abbrev dR(t:aN):Nat×Nat:=(gu t).getD (0,0)
def u_(t:aN)(c:Shape t):Et [aq t]=.ok (al [(dR t).1,(dR t).2]):=by
 show aK 5 _ _=_;rw[cb];delta MZ;haveI m:bg 1 (dN (ac (dN (ac (ao 5 0 (aa 0)) (ac (eC (.fn 44)) am))) (ac (dN (ac (ao 5 3 (aa 0)) (ac (eC (.fn 45)) am))) (ac (dN (ac (ao 5 1 (aa 0)) (ac (eC (.fn 46)) am))) (ac (dN (ac (ao 5 1 (aa 0)) (ac (eC (.fn 47)) am))) (ac (dN (ac (ao 5 2 (aa 0)) (ac (eC (.fn 52)) am))) (ac (dN (ac (ao 5 4 (aa 0)) (ac (eC (.fn 53)) am))) (ac (dN (ac (ao 5 5 (aa 0)) (ac (eC (.fn 54)) am))) am)))))))) (be 5 [aq t])=.ok (.nx [.val (aq t),.val (.tup ((N7 t).map nG)),.ah,.ah,.ah]):=by kernel_rfl
 rw[bN _ _ _ _ m];haveI n:vW (kE (aa 1)) [.val (aq t),.val (.tup ((N7 t).map nG)),.ah,.ah,.ah]=.ok [nH 1 (al t.pool,44),nH 2 _,nH 3 _,nH 4 _,nH 5 _,nH 6 _,nH 7 (iP t.weight,54)]:=rfl;rw[c7,t8,n,ai];show outD ((forL _ Ak _ _).bind (j3 _))=_;haveI o:=qQ t 44 t.pool.length wo r? (G4 t) (t.pool.map nD) (by simp) (by haveI:=c.pool;lia) λi b=>k? t i b;rw[qT t 1 (al t.pool,44) _ _ _ _ _ o];cases d:nO t.pool.length (G4 t)with
 |some i=>
  haveI a:dR t=(1,i):=by delta dR gu;simp only[d];rfl
  rw[qS,lI,a]|none=>rw[qR];haveI p:=qQ t 45 t.cls.length wn r! (xr t) (t.cls.map eN) (by simp) (by haveI:=c.cls;lia) λi b=>k! t i b;rw[qT t 2 (.lst (t.cls.map eN),45) _ _ _ _ _ p];cases e:nO t.cls.length (xr t)with
 |some i=>
  haveI a:dR t=(2,i):=by delta dR gu;simp only[d,e];rfl
  rw[qS,lI,a]|none=>rw[qR];haveI C:C2 t:=⟨Hf t (pQ e),c.cls⟩;haveI q:=qQ t 46 t.dec.length wm s_ (xy t) (t.dec.map (bT t)) (by simp) (by haveI:=c.dec;lia) λi b=>m? t i b;rw[qT t 3 (.lst _,46) _ _ _ _ _ q];cases f:nO t.dec.length (xy t)with
 |some i=>
  haveI a:dR t=(3,i):=by delta dR gu;simp only[d,e,f];rfl
  rw[qS,lI,a]|none=>rw[qR];haveI j:=Hr t (pQ f);haveI r:=qQ t 47 t.dec.length wl s? (G5 t) (t.dec.map (bT t)) (by simp) (by haveI:=c.dec;lia) λi b=>p? t C j c.pool i b;rw[qT t 4 (.lst _,47) _ _ _ _ _ r];cases g:nO t.dec.length (G5 t)with
 |some i=>
  haveI a:dR t=(4,i):=by delta dR gu;simp only[d,e,f,g];rfl
  rw[qS,lI,a]|none=>rw[qR];haveI s:=qQ t 52 t.pair.length wh t_ (xz t) (t.pair.map pairD) (by simp) (by haveI:=c.pair;lia) λi b=>p! t C j i b c.pool;rw[qT t 5 (.lst (t.pair.map pairD),52) _ _ _ _ _ s];cases h:nO t.pair.length (xz t)with
 |some i=>
  haveI a:dR t=(5,i):=by delta dR gu;simp only[d,e,f,g,h];rfl
  rw[qS,lI,a]|none=>rw[qR];haveI u:=qQ t 53 t.key.length wg t? (xA t) (t.key.map eO) (by simp) (by haveI:=c.key;lia) λi b=>n? t i b j c.code;rw[qT t 6 (.lst (t.key.map eO),53) _ _ _ _ _ u];cases k:nO t.key.length (xA t)with
 |some i=>
  haveI a:dR t=(6,i):=by delta dR gu;simp only[d,e,f,g,h,k];rfl
  rw[qS,lI,a]|none=>rw[qR];haveI v:=qQ t 54 t.weight.length wf t! (xB t) (t.weight.map λw=>wD (ke w)) (by simp) (by haveI:=c.weight;lia) λi b=>n_ t i b c.small;rw[qT t 7 (iP t.weight,54) _ _ _ _ _ v];cases l:nO t.weight.length (xB t)with
 |some i=>
  haveI a:dR t=(7,i):=by delta dR gu;simp only[d,e,f,g,h,k,l];rfl
  rw[qS,lI,a]
 |none=>
  haveI a:dR t=(0,0):=by delta dR gu;simp only[d,e,f,g,h,k,l];rfl
  rw[qR,z9,ai,dP,a];rfl
structure Good(t:aN):Prop extends C5 t where
 key:kZ t
 wt:sk t
 code:∀k∈t.key,k.code.length=3
abbrev di(l:List (Nat×Nat×Nat)):D:=.lst (l.map wD)
abbrev iS(s:Nat×List (Nat×Nat×Nat)):D:=.ins 10 [nD s.1,di s.2]
def u?(l:List Nat):iP l=di (l.map ke):=by delta iP di;simp
def u!(a b:D):tY [a,b]=.ok [a,b]:=by rfl
def aer(E1 e f:DL.Env->R D)(d:DL.Env)(a b c:Nat)(g:E1 d=.ok (nD a))(h:e d=.ok (nD b))(i:f d=.ok (nD c)):eI 4 1 qA (ac (de (ac E1 (ac e (ac f am)))) am) d=.ok (wD (a,b,c)):=by rw[Ab,eM,zZ,eM,g,ai,eM,h,ai,eM,i,ai,i9,ai,ai,ai,ai,ax (by simp)];rfl
def v_(c:Nat):wq [nD c]=.ok (di (AU c)):=by rfl
def v?(t:aN)(g:Good t)(y:List Nat)(n:Nat)(a:n<=y.length)(b:n<=3):cF (putAll (iy t t.key)).1 (putAll (iy t t.key)).2 ((y.take n).map λn:Nat=>(n:Int))=(eq t y n).map λk=>iP ((t.weight.drop k.at_).take k.count):=by
 rw[Ad];delta iy;rw[<-RN,RP,RQ,<-SF t g.key g.code y n a b];haveI:((λe:List Int×D=>decide (e.1=(y.take n).map λn:Nat=>(n:Int)))∘λk:jh=>((kf k).map (λn:Nat=>n),iP ((t.weight.drop k.at_).take k.count)))=λk:jh=>decide (kf k=y.take n):=by funext k;show decide _=_;rw[wR,kh,jK,eE]
 rw[this];rfl
abbrev ub:DL.Env->R Out:=(au (bg 5 (qu (eL (ei (eL (aa 1)) (cN (aa 2)) (cN (aM cT (λi j=>.int (i+j)) (aa 2) (aa 4))))))) (bf (cB (vP (aa 5) (ao 5 10 (aa 0)))) (aQ (eI 10 2 tY (ac (aa 4) (ac (vR (ao 5 10 (aa 0)) (aa 5)) am)))) bo))
abbrev v!(t:aN)(k:jh):Nat×List (Nat×Nat×Nat):=(k.n,((t.weight.drop k.at_).take k.count).map ke)
def w_(t:aN)(g:Good t)(x:List Nat)(a b n:Nat)(w:b<=x.length)(p:n<=3)(q:a+n<=b)(s:Slot):ub [.val (aq t),.val (al x),.val (nD a),.val (nD b),.val (nD n),s]=match eq t ((x.take b).drop a) n with|some k=>.ok (.rt (iS (v! t k)))|none=>.ok (.nx [.val (aq t),.val (al x),.val (nD a),.val (nD b),.val (nD n),.val (.tk ((((x.take b).drop a).take n).map λn:Nat=>n))]):=by
 have r:n<=((x.take b).drop a).length:=by simp;lia
 have f:=v? t g _ n r p;have u:(x.drop a).take n=((x.take b).drop a).take n:=by rw[aby,QI,rD (by lia)]
 have d:cutD (x.map nD) (some a) (some (a+n))=(((x.take b).drop a).take n).map nD:=by rw[EN,u]
 generalize((x.take b).drop a).take n=m at*
 have v:bg 5 (qu (eL (ei (eL (aa 1)) (cN (aa 2)) (cN (aM cT (λi j=>.int (i+j)) (aa 2) (aa 4)))))) [.val (aq t),.val (al x),.val (nD a),.val (nD b),.val (nD n),s]=.ok (.nx [.val (aq t),.val (al x),.val (nD a),.val (nD b),.val (nD n),.val (.tk (m.map λn:Nat=>n))]):=by simp[d]
 delta ub;rw[bN _ _ _ _ v];generalize c:[Slot.val (aq t),Slot.val (al x),Slot.val (nD a),Slot.val (nD b),Slot.val (nD n),Slot.val _]=h;have v5:aa 5 h=.ok (.tk (m.map λn:Nat=>n)):=by subst c;rfl
 have v4:aa 4 h=.ok (nD n):=by subst c;rfl
 have e:ao 5 10 (aa 0) h=.ok (ph (iy t t.key)):=by subst c;rfl
 rw[dQ,dh,Z5,v5,ai,e,ai,Nv,NY,f];cases o:eq t _ n with|none=>rfl|some k=>rw[o]at f;have l:=(l7 t o).1;simp only[ai,dz,ai,gQ,Ab,eM,v4,ai,eM,Z6,e,ai,v5,ai,NY,Nv,f,QC,cW,ai,i9,ai,ai,ai];rw[u?,<-l];rfl
def w?(m:Nat)(h:m=1\/m=2\/m=3):tM [nD m,.int 0,.int (-1)]=.ok ((bU m).map λi=>nD (m-i)):=by rcases h with rfl|rfl|rfl<;>rfl
def N8(t:aN)(g:Good t)(x:List Nat)(a b:Nat)(u:a<b)(w:b<=x.length):qE [aq t,al x,nD a,nD b]=.ok (iS (dq t ((x.take b).drop a))):=by
 show aK 6 _ _=_;rw[cb];delta M0;haveI y:be 6 [aq t,al x,nD a,nD b]=[.val (aq t),.val (al x),.val (nD a),.val (nD b),.ah,.ah]:=rfl;rw[y];have o:((x.take b).drop a).length=b-a:=by simp;lia
 haveI f:x[a]?=some (((x.take b).drop a).headD 0):=by haveI z:=lR (l:=x.take b) (i:=a) (by simp_all);rw[z];simp
 have tail:∀d c:Slot,outD (aQ (eI 10 2 tY (ac (eC (.int 1)) (ac (az 1 wq (ac (bc (aa 1) (aa 2)) am)) am))) [.val (aq t),.val (al x),.val (nD a),.val (nD b),d,c])=.ok (iS (1,AU (((x.take b).drop a).headD 0))):=by intro d c;haveI A:=gs nD x a _ f;haveI r:=iR wq (bc (aa 1) (aa 2)) [.val (aq t),.val (al x),.val (nD a),.val (nD b),d,c] _ (by rw[qJ,show aa 1 [.val (aq t),.val (al x),.val (nD a),.val (nD b),d,c]=.ok (al x) from rfl,ai,show aa 2 [.val (aq t),.val (al x),.val (nD a),.val (nD b),d,c]=.ok (nD a) from rfl,ai,qI,A,cW]);rw[v_]at r;rw[gQ,Ab,eM,mC,ai,eM,r,ai,i9,ai,ai,ai,ax (by rfl),u!];rfl
 have p:∀m:Nat,(m=1\/m=2\/m=3)->((m:Int)=if(b:Int)-a<3 then(b:Int)-a else 3)->qt (ac (vO (eC (.int (3))) (aM cT (λi j=>.int (i-j)) (aa 3) (aa 2))) (ac (eC (.int 0)) (ac (lD (eC (.int 1))) am))) [.val (aq t),.val (al x),.val (nD a),.val (nD b),.ah,.ah]=.ok ((bU m).map λi=>nD (m-i)):=by
  intro m B q;haveI e:ac (vO (eC (.int (3))) (aM cT (λi j=>.int (i-j)) (aa 3) (aa 2))) (ac (eC (.int 0)) (ac (lD (eC (.int 1))) am)) [.val (aq t),.val (al x),.val (nD a),.val (nD b),.ah,.ah]=.ok [nD m,.int 0,.int (-1)]:=by simp[q]
  rw[ZZ,e,ai,w? m B]
 have turn:=λn C h s=>w_ t g x a b n w C h s;rw[c7,t8];show outD (((_:R (List D)).bind λds=>forL (a1 4) ub ds _).bind (j3 _))=_;delta dq;rw[su];by_cases G:3<=b-a;·rw[p 3 (by simp) (by lia),ai];show outD ((forL (a1 4) ub [nD 3,nD 2,nD 1] _).bind (j3 _))=_;rw[kP];rw[show mR [Slot.val (aq t),Slot.val (al x),Slot.val (nD a),Slot.val (nD b),Slot.ah,Slot.ah] 4 (Slot.val (nD 3))=[Slot.val (aq t),Slot.val (al x),Slot.val (nD a),Slot.val (nD b),Slot.val (nD 3),Slot.ah] from rfl,turn 3 (by simp) (by lia)];cases k3:eq t ((x.take b).drop a) 3 with|some k=>rfl|none=>dsimp only;rw[ai,lK,kP];rw[show∀d c v,mR [Slot.val (aq t),Slot.val (al x),Slot.val (nD a),Slot.val (nD b),d,c] 4 v=[Slot.val (aq t),Slot.val (al x),Slot.val (nD a),Slot.val (nD b),v,c] fromλ_ _ _=>rfl,turn 2 (by simp) (by lia)];cases k2:eq t ((x.take b).drop a) 2 with|some k=>rfl|none=>dsimp only;rw[ai,lK,kP];rw[show∀d c v,mR [Slot.val (aq t),Slot.val (al x),Slot.val (nD a),Slot.val (nD b),d,c] 4 v=[Slot.val (aq t),Slot.val (al x),Slot.val (nD a),Slot.val (nD b),v,c] fromλ_ _ _=>rfl,turn 1 (by simp) (by lia)];cases k1:eq t ((x.take b).drop a) 1 with|some k=>rfl|none=>dsimp only;rw[ai,lK,z9,ai,dP,tail];rfl
 ·have E:=uN t ((x.take b).drop a) 3 (by lia);rw[E];by_cases H:2<=b-a;·rw[p 2 (by simp) (by lia),ai];show outD ((forL (a1 4) ub [nD 2,nD 1] _).bind (j3 _))=_;rw[kP];rw[show∀d c v,mR [Slot.val (aq t),Slot.val (al x),Slot.val (nD a),Slot.val (nD b),d,c] 4 v=[Slot.val (aq t),Slot.val (al x),Slot.val (nD a),Slot.val (nD b),v,c] fromλ_ _ _=>rfl,turn 2 (by simp) (by lia)];cases k2:eq t ((x.take b).drop a) 2 with|some k=>rfl|none=>dsimp only;rw[ai,lK,kP];rw[show∀d c v,mR [Slot.val (aq t),Slot.val (al x),Slot.val (nD a),Slot.val (nD b),d,c] 4 v=[Slot.val (aq t),Slot.val (al x),Slot.val (nD a),Slot.val (nD b),v,c] fromλ_ _ _=>rfl,turn 1 (by simp) (by lia)];cases k1:eq t ((x.take b).drop a) 1 with|some k=>rfl|none=>dsimp only;rw[ai,lK,z9,ai,dP,tail];rfl
  ·haveI F:=uN t ((x.take b).drop a) 2 (by lia);rw[F];rw[p 1 (by simp) (by lia),ai];show outD ((forL (a1 4) ub [nD 1] _).bind (j3 _))=_;rw[kP];rw[show∀d c v,mR [Slot.val (aq t),Slot.val (al x),Slot.val (nD a),Slot.val (nD b),d,c] 4 v=[Slot.val (aq t),Slot.val (al x),Slot.val (nD a),Slot.val (nD b),v,c] fromλ_ _ _=>rfl,turn 1 (by simp) (by lia)];cases k1:eq t ((x.take b).drop a) 1 with|some k=>rfl|none=>dsimp only;rw[ai,lK,z9,ai,dP,tail];rfl
abbrev nI(t:aN)(F:List Nat):List D:=[aq t,al F,.lst ((bU F.length).map λa=>iS (dq t (F.drop a)))]
abbrev dJ(t:aN)(F:List Nat):D:=.ins 11 (nI t F)
@[simp]theorem w!{a:Type}(t:aN)(F:List Nat)(k:List D->R a):pa 11 (dJ t F) k=k (nI t F):=by rfl
@[simp]theorem Al(t:aN)(F:List Nat):D.ins 11 (nI t F)=dJ t F:=id rfl
@[simp]theorem aes(t:aN)(F:List Nat):(nI t F)[0]?=some (aq t):=id rfl
@[simp]theorem aet(t:aN)(F:List Nat):(nI t F)[1]?=some (al F):=id rfl
@[simp]theorem x_(t:aN)(F:List Nat):(nI t F)[2]?=some (.lst ((bU F.length).map λa=>iS (dq t (F.drop a)))):=id rfl
def N9(i c j:Nat)(E:DL.Env->R D)(a:DL.Env)(fs:List D)(d:D)(h:E a=.ok d)(b:a[i]?=some (.dv c fs))(e:fs.length=j):cx i c j E a=.ok (.nx (a.set i (.dv c (fs++[d])))):=by simp_all
def Oc(t:aN)(g:Good t)(x:List Nat)(n:x.length<=10000):tZ [aq t,al x]=.ok (nI t (cC t 0 x)):=by
 show iv 4 11 3 _ _=_;rw[Nw];have hlen:=l6 t g.dec g.pair 0 x;haveI f:=ie iM (aa 1) (eC (.int 0)) (aa 2) [.dv 11 [aq t],.val (aq t),.val (al x),.ah] _ _ _ rfl rfl rfl;haveI hf:=qM t g.toC5 0 x (by lia);rw[show(D.int 0)=nD 0 from rfl,hf]at f;generalize cC t 0 x=F at*
 haveI i:=N9 0 11 1 (az 3 iM (ac (aa 1) (ac (eC (.int 0)) _))) _ [aq t] (al F) f rfl rfl;show outI 11 3 (au _ _ [.dv 11 [aq t],.val (aq t),.val (al x),.ah])=_;rw[bN _ _ _ _ i];show outI 11 3 (cx 0 11 2 _ [.dv 11 [aq t,al F],.val (aq t),.val (al x),.ah])=_;generalize b:[Slot.dv 11 _,Slot.val (aq t),Slot.val (al x),Slot.ah]=d;have h:∀s,cE (dw 0 11 1) [Slot.dv 11 [aq t,al F],Slot.val (aq t),Slot.val (al x),s]=.ok (nD F.length):=λs=>by simp
 have j:jz (ac (cE (dw 0 11 1)) am) d=.ok ((bU F.length).map nD):=by subst b;rw[EL,eM,h,ai,i9,ai,ai,E8 _ (by lia)]
 haveI k:fo d [3]=d:=by subst b;rfl
 have l:=wE 3 _ d nD (λa=>iS (dq t (F.drop a))) (bU F.length) (λa e=>by haveI e:=lQ.mp e;subst b;haveI c:=nF qE (aa 1) (dw 0 11 1) (aa 3) _ [Slot.dv 11 _,Slot.val (aq t),Slot.val (al x),Slot.val (nD a)] _ _ _ _ rfl (by rfl) rfl (h _);rw[N8 t g F a F.length e (bR _),G7]at c;exact c);haveI m:cw (jz (ac (cE (dw 0 11 1)) am)) (a1 3) cZ (az 4 qE (ac (aa 1) (ac (dw 0 11 1) (ac (aa 3) (ac (cE (dw 0 11 1)) am))))) [3] d=.ok (.lst ((bU F.length).map λa=>iS (dq t (F.drop a)))):=by rw[nE,j,ai,k,l,nB,ax (by rw[bZ,Bk,gG];lia)]
 rw[N9 0 11 2 _ d _ _ m (by subst b;rfl) rfl];subst b;rfl
def Fa(i:Nat)(E:DL.Env->R (List D))(a:DL.Env)(ds b:List D)(c:a[i]?=some (.aL ds))(d:E a=.ok b)(e:ds.length+b.length<=16777216):gL i E a=.ok (.nx (a.set i (.aL (ds++b)))):=by simp_all
def Od(i:Nat)(E:DL.Env->R D)(a:DL.Env)(ds:List D)(d:D)(b:a[i]?=some (.aL ds))(c:E a=.ok d)(e:ds.length<16777216):eK i E a=.ok (.nx (a.set i (.aL (ds++[d])))):=by simp_all
def x?(a:Nat×Nat×Nat->Nat)(j:Nat)(d:∀e,ao 4 j (aa 5)=ao 4 j (aa 5)/\(match wD e with|.ins _ fs=>fs[j]?|_=>none)=some (nD (a e)))(b:DL.Env)(f:5<b.length)(c:List _):e8 (a1 5) (cB (bC true (ao 4 j (aa 5)) (eC (.int 0)))) (ao 4 j (aa 5)) b (c.map wD)=.ok ((gU (c.map a)).map nD):=by
 have g:∀e,ao 4 j (aa 5) _=.ok (nD (a e)):=λe=>by
  have h:aa 5 (b.set 5 (.val (wD e)))=.ok (wD e):=by delta aa;rw[pD f]
  rw[t6,h];have i:=(d e).2;unfold wD at i⊢
  simp_all
 haveI:=Nq 5 (cB (bC true (ao 4 j (aa 5)) (eC (.int 0)))) _ b wD (λe=>nD (a e)) (λe=>a e !=0) (λe=>by
  by_cases k:a e=0;·simp_all
  simp_all) g c;rw[this];delta gU;rw[ace,fZ];rfl
def Oe(a b:Nat)(c:List (Nat×Nat×Nat))(M:c.length<=100000):qF [nD a,nD b,di c]=.ok (al (uO a b c)):=by
 show aK 6 _ _=_;rw[cb];delta M3 uO;haveI hlen:∀h:Nat×Nat×Nat->Nat,(gU (c.map h)).length<=c.length:=λh=>by delta gU;grind
 haveI f:=λ(h:Nat×Nat×Nat->Nat) (j:Nat) s t u=>x? h j s t u c;haveI v:=f (λe=>e.1) 0 (λe=>⟨rfl,rfl⟩);haveI w:=f (λe=>e.2.1) 1 (λe=>⟨rfl,rfl⟩);haveI x:=f (λe=>e.2.2) 2 (λe=>⟨rfl,rfl⟩);haveI N:=hlen (λe=>e.1);haveI O:=hlen (λe=>e.2.1);haveI Q:=hlen (λe=>e.2.2);generalize gU (c.map λe=>e.1)=P at*
 generalize gU (c.map λe=>e.2.1)=S at*
 generalize gU (c.map λe=>e.2.2)=U at*
 haveI y:be 6 [nD a,nD b,di c]=[.val (nD a),.val (nD b),.val (di c),.ah,.ah,.ah]:=rfl;rw[y];haveI n:∀l d g,eL (aa 2) [.val (nD a),.val (nD b),.val (di c),l,d,g]=.ok (c.map wD):=λ_ _ _=>rfl;haveI z:vU 3 (eL (aa 2)) (a1 5) (cB (bC true (ao 4 0 (aa 5)) (eC (.int 0)))) (ao 4 0 (aa 5)) [5] [.val (nD a),.val (nD b),.val (di c),.ah,.ah,.ah]=.ok (.nx [.val (nD a),.val (nD b),.val (di c),.aL (P.map nD),.ah,.ah]):=by rw[Z7,n,ai,v _ (by simp)];dsimp only;rw[ax ⟨by rw[bZ,gG];lia,by simp⟩];rfl
 rw[bN _ _ _ _ z];haveI A:∀d g,cw (eL (aa 2)) (a1 5) (cB (bC true (ao 4 1 (aa 5)) (eC (.int 0)))) (ao 4 1 (aa 5)) [5] [.val (nD a),.val (nD b),.val (di c),.aL (P.map nD),d,g]=.ok (al S):=λd g=>by rw[nE,n,ai,w _ (by simp),nB,ax (by rw[bZ,gG];lia)]
 haveI B:∀l d g,cw (eL (aa 2)) (a1 5) (cB (bC true (ao 4 2 (aa 5)) (eC (.int 0)))) (ao 4 2 (aa 5)) [5] [.val (nD a),.val (nD b),.val (di c),l,d,g]=.ok (al U):=λl d g=>by rw[nE,n,ai,x _ (by simp),nB,ax (by rw[bZ,gG];lia)]
 haveI k:∀(K:List Nat) (d g:Slot),K.length<=300000->outD (au (bf (cB (bC false (aa 0) (eC (.int 3)))) (au (eK 3 (eC (.int (1)))) (gL 3 (eL (cw (eL (aa 2)) (a1 5) (cB (bC true (ao 4 2 (aa 5)) (eC (.int 0)))) (ao 4 2 (aa 5)) [5])))) bo) (gK 3) [.val (nD a),.val (nD b),.val (di c),.aL (K.map nD),d,g])=.ok (al (K++if a=3 then 1::U else[])):=by
  intro K d g T;haveI C:cB (bC false (aa 0) (eC (.int 3))) [.val (nD a),.val (nD b),.val (di c),.aL (K.map nD),d,g]=.ok (decide (a=3)):=by haveI:decide ((a:Int)=3)=decide (a=3):=jq.mpr (by lia);simp[this]
  rw[c7,dQ,C,ai];by_cases m:a=3
  ·rw[ax (gT m),ax m];haveI E:eK 3 (eC (.int (1))) [.val (nD a),.val (nD b),.val (di c),.aL (K.map nD),d,g]=.ok (.nx [.val (nD a),.val (nD b),.val (di c),.aL ((K++[1]).map nD),d,g]):=by
    haveI:K.length<16777216:=by lia
    simp[this]
   rw[bN _ _ _ _ E];haveI F:gL 3 (eL (cw (eL (aa 2)) (a1 5) (cB (bC true (ao 4 2 (aa 5)) (eC (.int 0)))) (ao 4 2 (aa 5)) [5])) [.val (nD a),.val (nD b),.val (di c),.aL ((K++[1]).map nD),d,g]=.ok (.nx [.val (nD a),.val (nD b),.val (di c),.aL ((K++[1]++U).map nD),d,g]):=by rw[Fa 3 _ _ ((K++[1]).map nD) (U.map nD) rfl (by rw[j7,B,ai,j5]) (by grind),<-lZ];rfl
   rw[F,ai,dP];simp
  ·rw[ay (by simpa using m),ay m];simp
 by_cases r:2<=a
 ·rw[ax r];haveI o:cB (aM cT (λi j=>.bl (decide (j<=i))) (aa 0) (eC (.int 2))) [.val (nD a),.val (nD b),.val (di c),.aL (P.map nD),.ah,.ah]=.ok true:=by
   haveI:(2:Int)<=a:=by lia
   simp[this]
  haveI G:bg 4 (cw (eL (aa 2)) (a1 5) (cB (bC true (ao 4 1 (aa 5)) (eC (.int 0)))) (ao 4 1 (aa 5)) [5]) [.val (nD a),.val (nD b),.val (di c),.aL (P.map nD),.ah,.ah]=.ok (.nx [.val (nD a),.val (nD b),.val (di c),.aL (P.map nD),.val (al S),.ah]):=by rw[i8,A,ai];rfl
  haveI H:eK 3 (eC (.int (1))) [.val (nD a),.val (nD b),.val (di c),.aL (P.map nD),.val (al S),.ah]=.ok (.nx [.val (nD a),.val (nD b),.val (di c),.aL ((P++[1]).map nD),.val (al S),.ah]):=by
   haveI:P.length<16777216:=by lia
   simp[this]
  haveI I:eL (kD (cB (bC false (aa 1) (eC (.int 1)))) (qx (eL (aa 4))) (aa 4)) [.val (nD a),.val (nD b),.val (di c),.aL ((P++[1]).map nD),.val (al S),.ah]=.ok ((if b=1 then S.reverse else S).map nD):=by
   by_cases W:b=1;·simp[*]
   ·haveI J:¬(b:Int)=1:=by lia
    simp[*]
  haveI L:gL 3 (eL (kD (cB (bC false (aa 1) (eC (.int 1)))) (qx (eL (aa 4))) (aa 4))) [.val (nD a),.val (nD b),.val (di c),.aL ((P++[1]).map nD),.val (al S),.ah]=.ok (.nx [.val (nD a),.val (nD b),.val (di c),.aL ((P++[1]++if b=1 then S.reverse else S).map nD),.val (al S),.ah]):=by
   haveI p:(if b=1 then S.reverse else S).length=S.length:=by split<;>simp
   rw[Fa 3 _ _ ((P++[1]).map nD) _ rfl I (by rw[bZ,bZ,kg,p];simp;lia),<-lZ];rfl
  haveI q:bf (cB (aM cT (λi j=>.bl (decide (j<=i))) (aa 0) (eC (.int 2)))) (au (bg 4 (cw (eL (aa 2)) (a1 5) (cB (bC true (ao 4 1 (aa 5)) (eC (.int 0)))) (ao 4 1 (aa 5)) [5])) (au (eK 3 (eC (.int (1)))) (gL 3 (eL (kD (cB (bC false (aa 1) (eC (.int 1)))) (qx (eL (aa 4))) (aa 4)))))) bo [.val (nD a),.val (nD b),.val (di c),.aL (P.map nD),.ah,.ah]=.ok (.nx [.val (nD a),.val (nD b),.val (di c),.aL ((P++[1]++if b=1 then S.reverse else S).map nD),.val (al S),.ah]):=by rw[dQ,o,ai,ax rfl,bN _ _ _ _ G,bN _ _ _ _ H,L]
  haveI p:(if b=1 then S.reverse else S).length=S.length:=by split<;>simp
  rw[bN _ _ _ _ q,k _ _ _ (by rw[kg,p];simp;lia)];simp
 ·rw[ay r];haveI o:cB (aM cT (λi j=>.bl (decide (j<=i))) (aa 0) (eC (.int 2))) [.val (nD a),.val (nD b),.val (di c),.aL (P.map nD),.ah,.ah]=.ok false:=by
   haveI:¬(2:Int)<=a:=by lia
   simp[this]
  haveI q:bf (cB (aM cT (λi j=>.bl (decide (j<=i))) (aa 0) (eC (.int 2)))) (au (bg 4 (cw (eL (aa 2)) (a1 5) (cB (bC true (ao 4 1 (aa 5)) (eC (.int 0)))) (ao 4 1 (aa 5)) [5])) (au (eK 3 (eC (.int (1)))) (gL 3 (eL (kD (cB (bC false (aa 1) (eC (.int 1)))) (qx (eL (aa 4))) (aa 4)))))) bo [.val (nD a),.val (nD b),.val (di c),.aL (P.map nD),.ah,.ah]=.ok (.nx [.val (nD a),.val (nD b),.val (di c),.aL (P.map nD),.ah,.ah]):=by rw[dQ,o,ai,ay bE,gc]
  rw[bN _ _ _ _ q,k _ _ _ (by lia)];simp
def x!(F:List Nat)(a b:Nat)(c:a<=b):F.drop a=(F.take b).drop a++F.drop b:=by
 conv=>lhs;rw[<-AV b F]
 by_cases d:b<=F.length;·grind
 ·rw[l4 (i:=b) (by lia)];simp
def Fc(c:Nat)(F:List D->R D)(E0 E1 b:DL.Env->R D)(a:DL.Env)(fs:List D)(d e:D)(f:E0 a=.ok (.ins c fs))(g:E1 a=.ok d)(h:b a=.ok e):dI c 3 F E0 (ac E1 (ac b am)) a=F [.ins c fs,d,e]:=by simp_all
def y_(t:aN)(g:Good t)(F:List Nat)(a b:Nat)(h:a<b)(n:b<=F.length):t0 [dJ t F,nD a,nD b]=.ok (iS (dq t ((F.take b).drop a))):=by
 show aK 4 _ _=_;rw[cb];delta M4;haveI o:be 4 [dJ t F,nD a,nD b]=[.val (dJ t F),.val (nD a),.val (nD b),.ah]:=rfl;rw[o];haveI k:=gs (λa=>iS (dq t (F.drop a))) (bU F.length) a a (GP (by lia));have p:bg 3 (bc (ao 11 2 (aa 0)) (aa 1)) [.val (dJ t F),.val (nD a),.val (nD b),.ah]=.ok (.nx [.val (dJ t F),.val (nD a),.val (nD b),.val (iS (dq t (F.drop a)))]):=by rw[i8,qJ,t6,show aa 0 _=.ok (dJ t F) from rfl,ai,w!,x_,cW,ai,show aa 1 _=.ok (nD a) from rfl,ai,qI,k,cW];rfl
 rw[bN _ _ _ _ p];generalize d:[Slot.val (dJ t F),Slot.val (nD a),Slot.val (nD b),Slot.val _]=f;have q:ao 10 0 (aa 3) f=.ok (nD (dq t (F.drop a)).1):=by subst d;kernel_rfl
 have e:=x! F a b (by lia);haveI l:(F.take b).drop a≠[]:=λz=>by have:=bz ki z;grind
 have r:cB (aM cT (λi j=>.bl (decide (i<=j))) (aM cT (λi j=>.int (i+j)) (aa 1) (ao 10 0 (aa 3))) (aa 2)) f=.ok (decide (a+(dq t (F.drop a)).1<=b)):=by
  have v1:aa 1 f=.ok (nD a):=by subst d;rfl
  haveI v2:aa 2 f=.ok (nD b):=by subst d;rfl
  rw[dh,t4,t4,v1,ai,q,ai,sP,ax (by rfl),ai,v2,ai,sP,ax (by rfl),ai,dz];congr 1;exact jq.mpr (by lia)
 rw[c7,dQ,r,ai];by_cases m:a+(dq t (F.drop a)).1<=b
 ·rw[ax (gT m)];haveI:dq t (F.drop a)=dq t ((F.take b).drop a):=by
   rw[e]at m⊢
   exact Sj t _ _ l (by grind)
  subst d;simp_all
 ·rw[ay (by simp_all),gc,ai,dP,gQ];haveI c:=nF qE (ao 11 0 (aa 0)) (ao 11 1 (aa 0)) (aa 1) (aa 2) f (aq t) (al F) (nD a) (nD b) (by subst d;rfl) (by subst d;rfl) (by subst d;rfl) (by subst d;rfl);rw[N8 t g F a b h n]at c;rw[c];rfl
abbrev wS:DL.Env->R Bool:=(cB (aM cT (λi j=>.bl (decide (i<j))) (aa 4) (aa 2)))
abbrev wT:DL.Env->R Out:=(au (bg 5 (dI 11 3 t0 (aa 0) (ac (aa 4) (ac (aa 2) am)))) (au (gL 3 (eL (ao 10 1 (aa 5)))) (nj 4 (λi j=>i+j) (ao 10 0 (aa 5)))))
def Of(t:aN)(g:Good t)(F:List Nat)(c:Slot)(b:Nat)(r:b<=F.length):∀(n a:Nat)(W:List (Nat×Nat×Nat))(d:Slot),a<=b->b-a<n->W.length+4*(b-a)<=1000000->∃p,nk wS wT n [.val (dJ t F),c,.val (nD b),.aL (W.map wD),.val (nD a),d]=.ok (.nx [.val (dJ t F),c,.val (nD b),.aL ((W++elems t ((F.take b).drop a)).map wD),.val (nD b),p])
 |0,a,W,d,_,h,_=>by lia
 |n+1,a,W,d,s,B,C=>by
  rw[NP];have u:wS [.val (dJ t F),c,.val (nD b),.aL (W.map wD),.val (nD a),d]=.ok (decide (a<b)):=by delta wS;simp
  rw[u,ai];by_cases e:a<b
  ·rw[ax (gT e)];have v:=y_ t g F a b e r;have k:(F.take b).drop a≠[]:=λz=>by have:=bz ki z;simp at this;lia
   have l:=BR t g.key _ k;have hlen:=HG t g.key ((F.take b).drop a);have o:=Si t g.key _ k;have f:((F.take b).drop a).length=b-a:=by simp;lia
   simp only[f]at l;have q:((F.take b).drop a).drop (dq t ((F.take b).drop a)).1=(F.take b).drop (a+(dq t ((F.take b).drop a)).1):=by rw[acA]
   rw[q]at o;generalize dq t ((F.take b).drop a)=st at*
   have m:=Fc 11 t0 (aa 0) (aa 4) (aa 2) [.val (dJ t F),c,.val (nD b),.aL (W.map wD),.val (nD a),d] (nI t F) _ _ rfl rfl rfl;rw[Al,v]at m;have w:bg 5 (dI 11 3 t0 (aa 0) (ac (aa 4) (ac (aa 2) am))) [.val (dJ t F),c,.val (nD b),.aL (W.map wD),.val (nD a),d]=.ok (.nx [.val (dJ t F),c,.val (nD b),.aL (W.map wD),.val (nD a),.val (iS st)]):=by rw[i8,m,ai];rfl
   have x:gL 3 (eL (ao 10 1 (aa 5))) [.val (dJ t F),c,.val (nD b),.aL (W.map wD),.val (nD a),.val (iS st)]=.ok (.nx [.val (dJ t F),c,.val (nD b),.aL ((W++st.2).map wD),.val (nD a),.val (iS st)]):=by rw[Fa 3 _ _ (W.map wD) (st.2.map wD) rfl (by kernel_rfl) (by rw[bZ,bZ];lia),<-lZ];rfl
   have y:nj 4 (λi j=>i+j) (ao 10 0 (aa 5)) [.val (dJ t F),c,.val (nD b),.aL ((W++st.2).map wD),.val (nD a),.val (iS st)]=.ok (.nx [.val (dJ t F),c,.val (nD b),.aL ((W++st.2).map wD),.val (nD (a+st.1)),.val (iS st)]):=by kernel_rfl
   have A:wT [.val (dJ t F),c,.val (nD b),.aL (W.map wD),.val (nD a),d]=.ok (.nx [.val (dJ t F),c,.val (nD b),.aL ((W++st.2).map wD),.val (nD (a+st.1)),.val (iS st)]):=by delta wT;rw[bN _ _ _ _ w,bN _ _ _ _ x,y]
   rw[A,ai,lK,o,<-RT];exact Of t g F c b r n (a+st.1) (W++st.2) _ (by lia) (by lia) (by rw[kg];lia)
  ·rw[ay (by simpa using e)];have:a=b:=by lia
   subst this;have he:(F.take a).drop a=[]:=l4 (by simp;lia);rw[he,Sg,nY];exact⟨d,rfl⟩
def Og(t:aN)(g:Good t)(F:List Nat)(a b:Nat)(c:a<=b)(e:b<=F.length)(l:F.length<2000):o8 [dJ t F,nD a,nD b]=.ok (di (elems t ((F.take b).drop a))):=by
 show aK 6 _ _=_;rw[cb];delta M5;haveI f:be 6 [dJ t F,nD a,nD b]=[.val _,.val (nD a),.val (nD b),.ah,.ah,.ah]:=rfl;rw[f];haveI h:gy 3 am [.val (dJ t F),.val (nD a),.val (nD b),.ah,.ah,.ah]=.ok (.nx [.val (dJ t F),.val (nD a),.val (nD b),.aL [],.ah,.ah]):=by rfl
 haveI i:bg 4 (aa 1) [.val (dJ t F),.val (nD a),.val (nD b),.aL [],.ah,.ah]=.ok (.nx [.val (dJ t F),.val (nD a),.val (nD b),.aL [],.val (nD a),.ah]):=by rfl
 obtain⟨m,j⟩:=Of t g F _ b e 2000 a [] .ah c (by omega) (by simp;omega);haveI k:sY (λn=>2000) wS wT [.val _,.val (nD a),.val (nD b),.aL [],.val (nD a),.ah]=.ok _:=j;rw[bN _ _ _ _ h,bN _ _ _ _ i];haveI d:=bN _ (gK 3) _ _ k;unfold wS wT at d;rw[d];rfl
def y?(c:Nat)(b:List D->R (List D))(E1 d:DL.Env->R D)(a:DL.Env)(e f:D)(fs:List D)(g:E1 a=.ok e)(i:d a=.ok f)(h:b [e,f]=.ok fs):eI c 2 b (ac E1 (ac d am)) a=.ok (.ins c fs):=by simp_all
def wU(t:aN)(g:Good t)(a b:Nat)(x:List Nat)(f:x.length<=400):jF [aq t,nD a,nD b,al x]=.ok (al (cR t a b x)):=by
 show aK 5 _ _=_;rw[cb];delta M6;rw[B0];have hlen:=l6 t g.dec g.pair 0 x;haveI h:=Oc t g x (by lia);generalize cC t 0 x=F at*
 haveI i:be 5 [aq t,nD a,nD b,al x]=[.val (aq t),.val (nD a),.val (nD b),.val (al x),.ah]:=rfl;have d:=Og t g F 0 F.length (fK _) (bR _) (by lia);rw[G7,RU]at d;have e:=Fc 11 o8 (aa 4) (eC (.int 0)) (cE (ao 11 1 (aa 4))) [.val (aq t),.val (nD a),.val (nD b),.val (al x),.val (dJ t F)] _ (nD 0) (nD F.length) rfl rfl (by simp);rw[Al,d]at e;haveI c:=ie qF (aa 1) (aa 2) _ _ _ _ _ rfl rfl e;haveI he:=B8 t g.key F;rw[Oe a b _ (by lia)]at c;simp_all
def y!(k:List Nat)(a:k.length<=100000):zS [al k]=.ok (.bl (k.all λw=>w==1)):=by
 show aK 2 _ _=_;rw[cb];delta M7;haveI q:=qN (λbs=>bs.all id) 1 (eL (aa 0)) (bC false (aa 1) (eC (.int (1)))) (be 2 [al k]) k (λw=>w==1) rfl (λc _=>by
  have:decide ((c:Int)=1)=(c==1):=by rw[kh,jK,eE];lia
  simp[be,this]) a;simp_all
def z_(a b:Nat)(d:List (Nat×Nat×Nat)):(uO a b d).length<=3*d.length+2:=by
 delta uO;have hlen:∀c:Nat×Nat×Nat->Nat,(gU (d.map c)).length<=d.length:=λc=>by delta gU;grind
 grind
def Oh(t:aN)(g:Good t)(a b:Nat)(x:List Nat):(cR t a b x).length<=48*x.length+2:=by rw[B0];haveI c:=z_ a b (elems t (cC t 0 x));haveI d:=B8 t g.key (cC t 0 x);haveI e:=l6 t g.dec g.pair 0 x;lia
def z?(t:aN)(g:Good t)(a b:Nat)(x y:List Nat)(l:x.length<=400)(m:y.length<=400):zU [aq t,nD a,nD b,al x,al y]=.ok (nD (Bw t a b x y)):=by
 show aK 7 _ _=_;rw[cb];delta Nb Bw;have k1:=wU t g a b x l;have k2:=wU t g a b y m;generalize cR t a b x=c at*
 generalize cR t a b y=d at*
 have n:be 7 [aq t,nD a,nD b,al x,al y]=[.val (aq t),.val (nD a),.val (nD b),.val (al x),.val (al y),.ah,.ah]:=rfl;rw[n];have f:=nF jF (aa 0) (aa 1) (aa 2) (aa 3) [.val (aq t),.val (nD a),.val (nD b),.val (al x),.val (al y),.ah,.ah] _ _ _ _ rfl rfl rfl rfl;rw[k1]at f;have o:bg 5 (az 4 jF (ac (aa 0) (ac (aa 1) (ac (aa 2) (ac (aa 3) am))))) [.val (aq t),.val (nD a),.val (nD b),.val (al x),.val (al y),.ah,.ah]=.ok (.nx [.val (aq t),.val (nD a),.val (nD b),.val (al x),.val (al y),.val (al c),.ah]):=by rw[i8,f];rfl
 have h:=nF jF (aa 0) (aa 1) (aa 2) (aa 4) [.val (aq t),.val (nD a),.val (nD b),.val (al x),.val (al y),.val (al c),.ah] _ _ _ _ rfl rfl rfl rfl;rw[k2]at h;have p:bg 6 (az 4 jF (ac (aa 0) (ac (aa 1) (ac (aa 2) (ac (aa 4) am))))) [.val (aq t),.val (nD a),.val (nD b),.val (al x),.val (al y),.val (al c),.ah]=.ok (.nx [.val (aq t),.val (nD a),.val (nD b),.val (al x),.val (al y),.val (al c),.val (al d)]):=by rw[i8,h];rfl
 rw[bN _ _ _ _ o,bN _ _ _ _ p,BU];generalize e:[Slot.val (aq t),Slot.val (nD a),Slot.val (nD b),Slot.val (al x),Slot.val (al y),Slot.val (al c),Slot.val (al d)]=i;have j:eL (aa 5) i=.ok (c.map nD):=by subst e;rfl
 have k:eL (aa 6) i=.ok (d.map nD):=by subst e;rfl
 simp only[c7,dQ,dh,qK,j,ai,k,ai,jG,cW,jG,cW,ai,dz,ai,wO];cases q:cX c d with
 |true=>rfl
 |false=>
  simp only[ay bE,gc,ai,dP,gQ,Nk,dh,qK,j,ai,k,ai,jG,cW,jG,cW,wR];by_cases he:c=d;·simp_all
  simp_all
abbrev ge(t:aN)(x:List Nat):List Nat:=(bU (x.length+1)).map (fO t x)
def z!(t:aN)(p:List Nat)(c:Nat):ge t (p++[c])=ge t p++[fO t p p.length+(eB t false c).length]:=by
 delta ge;rw[kg,AW,lZ];congr 1;·refine uA λi a=>?_;delta fO;grind
 ·delta fO;rw[List.map_singleton,mJ (by simp)];simp
def A_(t:aN)(p:List Nat):ku (ge t p)=fO t p p.length/\ge t p≠[]:=by delta ge;rw[AW,lZ];refine⟨Hv _ _ _ rfl,λz=>?_⟩;simp_all
def A?(t:aN)(h:eU t)(x:List Nat)(y:x.length<=10000):wr [aq t,al x]=.ok (al (ge t x)):=by
 show aK 4 _ _=_;rw[cb];delta M8;haveI k:be 4 [aq t,al x]=[.val (aq t),.val (al x),.ah,.ah]:=rfl;rw[k];haveI l:=pi 3 (eK 2 _) nD (λp=>[.val (aq t),.val (al x),.aL ((ge t p).map nD),j8 .ah nD p]) x [] (λq c r e=>by
  haveI m:=EZ t h c false;haveI uc:(ge t q).length=q.length+1:=by simp[ge]
  obtain⟨n,o⟩:=A_ t q;haveI f:=N1 _ o;rw[n]at f;rw[z!];generalize d:mR _ 3 _=b;haveI a:=d.symm;haveI g:=ie mB (aa 0) (aa 3) (eC (.bl false)) b _ _ _ (by rw[a];rfl) (by rw[a];rfl) rfl;rw[m]at g;haveI s:lp (fC 2) (lD (eC (.int 1))) b=.ok (nD (fO t q q.length)):=by rw[ZN,show fC 2 b=.ok ((ge t q).map nD) by simp_all,ai,show lD _ b=.ok _ from rfl,ai,qI,f,cW]
  haveI u:aM cT (λi j=>.int (i+j)) (lp (fC 2) (lD (eC (.int 1)))) (cE (az 3 mB (ac (aa 0) (ac (aa 3) (ac (eC (.bl false)) am))))) b=.ok (nD (fO t q q.length+(eB t false c).length)):=by rw[t4,s,ai,z7,g,ai,z0,bZ];rfl
  rw[Od 2 _ b ((ge t q).map nD) _ (by simp_all) u (by grind),a,lZ,a_];rfl);haveI v:gy 2 (ac (eC (.int 0)) am) [.val (aq t),.val (al x),.ah,.ah]=.ok (.nx [.val (aq t),.val (al x),.aL [nD 0],.ah]):=by rfl
 haveI w:fq (eL (aa 1)) (a1 3) (eK 2 (aM cT (λi j=>.int (i+j)) (lp (fC 2) (lD (eC (.int 1)))) (cE (az 3 mB (ac (aa 0) (ac (aa 3) (ac (eC (.bl false)) am))))))) [.val (aq t),.val (al x),.aL [nD 0],.ah]=.ok (.nx [.val (aq t),.val (al x),.aL ((ge t x).map nD),j8 .ah nD x]):=by exact l
 rw[bN _ _ _ _ v,bN _ _ _ _ w];rfl
def A!(t:aN)(j:C2 t)(k:eU t)(x:List Nat)(i:Nat)(s:i<=x.length):t3 [aq t,al x,nD i]=.ok (.bl (jM t x i)):=by
 show aK 3 _ _=_;rw[cb];delta M9 jM;generalize a:be 3 _=b;haveI v0:aa 0 b=.ok (aq t):=by subst a;rfl
 haveI v1:aa 1 b=.ok (al x):=by subst a;rfl
 haveI v2:aa 2 b=.ok (nD i):=by subst a;rfl
 haveI l:cB (bC false (aa 2) (eC (.int 0))) b=.ok (i==0):=by rw[dh,t7,v2,ai,mC,ai,wB,cW,ai,dz,ay bE];congr 1;rw[kh,jK,eE];lia
 haveI m:cB (bC false (aa 2) (cE (aa 1))) b=.ok (i==x.length):=by simp only[dh,t7,v2,ai,z7,v1,ai,z0,ai,wB,cW,ai,dz,ay bE,bZ];congr 1;rw[kh,jK,eE];lia
 rw[c7,dQ,t5,l,ai,m];by_cases n:i=0;·simp_all
 haveI f:(i==0)=false:=by simpa using n
 rw[f,ay bE,ai];by_cases o:i=x.length;·simp_all
 haveI g:(i==x.length)=false:=by simpa using o
 haveI e:i<x.length:=by lia
 rw[g,ay bE,gc,ai,dP,gQ];haveI p:=getD_at e 0;generalize x.getD i 0=c at*
 haveI q:=gs nD x i c p;haveI hf:=E4 t k c false;generalize(eB t false c).headD 0=d at*
 haveI r:=j.v d;haveI h:=ie nz (aa 0) (bc (aa 1) (aa 2)) (eC (.bl false)) b _ _ _ v0 (by rw[qJ,v1,ai,v2,ai,qI,q,cW]) rfl;rw[hf]at h;rw[t7,Nn,v0,ai,Ai,eM,h,ai,i9,ai,ai,ax (by rfl),NO,r,ai,mC,ai,wB,cW,ai,lI,gT e];congr 2;lia
abbrev findD(o:Option (Nat×Nat)):D:=match o with|some r=>al [1,r.1,r.2]|none=>al [0]
abbrev wV:DL.Env->R Out:=(au (bg 11 (dI 11 3 o8 (aa 5) (ac (bc (aa 6) (aa 9)) (ac (bc (aa 6) (aa 10)) am)))) (bf (cB (h7 (λns a=>decide (ns=a)) (eL (az 3 qF (ac (aa 1) (ac (eC (.int 0)) (ac (aa 11) am))))) (eL (aa 4)))) (aQ (de (ac (eC (.int 1)) (ac (aa 9) (ac (aM cT (λi j=>.int (i-j)) (aa 10) (aa 9)) am))))) bo))
abbrev Am:DL.Env->R Out:=fq (eL (ei (eL (aa 7)) (cN (aM cT (λi j=>.int (i+j)) (aa 8) (eC (.int 1)))) ir)) (a1 10) wV
abbrev gR(t:aN)(a:Nat)(x y:List Nat)(d e b c:Slot):DL.Env:=[.val (aq t),.val (nD a),.val (al x),.val (al y),.val (al (cR t a 0 y)),.val (dJ t (cC t 0 x)),.val (al (ge t x)),.val (al (dB t x)),d,e,b,c,.ah]
def B_(t:aN)(g:Good t)(a:Nat)(x y:List Nat)(L:x.length<=100)(i j:Nat)(q:i<j)(r:i∈dB t x)(h:j∈dB t x)(k l:Slot):∃n,wV (gR t a x y k (.val (nD i)) (.val (nD j)) l)=if(cR t a 0 (jN x i j)==cR t a 0 y)=true then .ok (.rt (al [1,i,j-i]))else .ok (.nx (gR t a x y k (.val (nD i)) (.val (nD j)) n)):=by
 have r:=(HD t x i).mp r;have h:=(HD t x j).mp h;have s:=Sn t g.dec x i j q h.1 r.2 h.2;have hlen:=l6 t g.dec g.pair 0 x;have uc:=Hz t g.dec x i j (by lia);have C:(cC t 0 x).length=fO t x x.length:=by rw[sv,yh];delta fO;rw[G7]
 have E:=Hz t g.dec x j x.length h.1;have w:=Og t g (cC t 0 x) (fO t x i) (fO t x j) uc (by lia) (by lia);rw[<-s]at w;have F:=gs nD (ge t x) i (fO t x i) (by delta ge;rw[jp,GP (by lia)];rfl);have G:=gs nD (ge t x) j (fO t x j) (by delta ge;rw[jp,GP (by lia)];rfl);rw[B0 t a 0 (jN x i j)];have H:=B8 t g.key (cC t 0 (jN x i j));have z:=l6 t g.dec g.pair 0 (jN x i j);have A:(jN x i j).length<=x.length:=by delta jN;simp;lia
 have u:=Oe a 0 (elems t (cC t 0 (jN x i j))) (by lia);generalize elems t (cC t 0 (jN x i j))=p at*
 refine⟨.val (di p),?_⟩;generalize d:gR t a x y k (.val (nD i)) (.val (nD j)) l=f;have m:=Fc 11 o8 (aa 5) (bc (aa 6) (aa 9)) (bc (aa 6) (aa 10)) f (nI t (cC t 0 x)) (nD (fO t x i)) (nD (fO t x j)) (by subst d;rfl) (by rw[qJ,show aa 6 f=.ok (al (ge t x)) by subst d;rfl,ai,show aa 9 f=.ok (nD i) by subst d;rfl,ai,qI,F,cW]) (by rw[qJ,show aa 6 f=.ok (al (ge t x)) by subst d;rfl,ai,show aa 10 f=.ok (nD j) by subst d;rfl,ai,qI,G,cW]);rw[Al,w]at m;have I:bg 11 (dI 11 3 o8 (aa 5) (ac (bc (aa 6) (aa 9)) (ac (bc (aa 6) (aa 10)) am))) f=.ok (.nx (gR t a x y k (.val (nD i)) (.val (nD j)) (.val (di p)))):=by rw[i8,m,ai];subst d;rfl
 delta wV;rw[bN _ _ _ _ I];generalize b:gR t a x y k (.val (nD i)) (.val (nD j)) (.val (di p))=e;have c:=ie qF (aa 1) (eC (.int 0)) (aa 11) e (nD a) (nD 0) (di p) (by subst b;rfl) rfl (by subst b;rfl);rw[u]at c;have J:eL (aa 4) e=.ok ((cR t a 0 y).map nD):=by subst b;rfl
 rw[dQ,dh,qK,j7,c,ai,j5,ai,J,ai,jG,cW,jG,cW,ai,dz,ai,wR];have o:aQ (de (ac (eC (.int 1)) (ac (aa 9) (ac (aM cT (λi j=>.int (i-j)) (aa 10) (aa 9)) am)))) e=.ok (.rt (al [1,i,j-i])):=by
  have B:aa 9 e=.ok (nD i):=by subst b;rfl
  have v:aa 10 e=.ok (nD j):=by subst b;rfl
  rw[gQ,zZ,eM,mC,ai,eM,B,ai,eM,t4,v,ai,B,ai,sP,ax (by rfl),ai,i9,ai,ai,ai,ai,ax (by simp),ai];have:((j:Int)-(i:Int))=((j-i:Nat):Int):=by lia
  rw[this];rfl
 rw[o];rfl
def Oi(t:aN)(g:Good t)(c:Nat)(x y:List Nat)(p:x.length<=100)(i:Nat)(q:i∈dB t x)(m:Slot):∀(l:List Nat)(f d:Slot),(∀j∈l,i<j/\j∈dB t x)->∃n o,forL (a1 10) wV (l.map nD) (gR t c x y m (.val (nD i)) f d)=match l.find? (λj=>cR t c 0 (jN x i j)==cR t c 0 y)with|some j=>.ok (.rt (al [1,i,j-i]))|none=>.ok (.nx (gR t c x y m (.val (nD i)) n o))
 |[],f,d,_=>⟨f,d,rfl⟩|j::l,f,d,h=>by obtain⟨r,e⟩:=B_ t g c x y p i j (h j (by simp)).1 q (h j (by simp)).2 m d;obtain⟨a,b,s⟩:=Oi t g c x y p i q m l (.val (nD j)) r λk u=>h k (by simp[u]);refine⟨a,b,?_⟩;rw[gv,kP,show(gR t c x y m (.val (nD i)) f d).set 10 (.val (nD j))=gR t c x y m (.val (nD i)) (.val (nD j)) d from rfl,e,um];cases v:cR t c 0 (jN x i j)==cR t c 0 y with|true=>rfl|false=>rw[ay bE,ai,lK,s]
def Oj(t:aN)(g:Good t)(c:Nat)(x y:List Nat)(E:x.length<=100):∀(m k:Nat)(l o d f:Slot),k+m=(dB t x).length->∃v w p q,forL (jA 2 (e7 (a1 8) (e7 (a1 9) j0))) Am ((RW k m).map λn=>D.tup [nD n,nD ((dB t x).getD n 0)]) (gR t c x y l o d f)=match((dB t x).drop k).findSome? (pU t c x y)with|some r=>.ok (.rt (al [1,r.1,r.2]))|none=>.ok (.nx (gR t c x y v w p q))
 |0,k,l,o,d,f,h=>⟨l,o,d,f,by simp_all⟩
 |m+1,k,l,o,d,f,h=>by
  haveI z:k<(dB t x).length:=by omega
  haveI s:=getD_at z 0;haveI F:(dB t x).drop k=(dB t x).getD k 0::(dB t x).drop (k+1):=by rw[lR z];congr 1;rw[cI z]at s;exact eR s
  haveI u:=Sy t c x y k _ s;haveI G:=HE (dB t x) (HC t x) k _ s;simp only[F,QE,List.range'_succ,gv];generalize(dB t x).getD k 0=i at*
  haveI A:=fY s;haveI H:jA 2 (e7 (a1 8) (e7 (a1 9) j0)) (D.tup [nD k,nD i]) (gR t c x y l o d f)=.ok (gR t c x y (.val (nD k)) (.val (nD i)) d f):=by rfl
  rw[ET _ _ _ _ _ _ H];obtain⟨a,b,e⟩:=Oi t g c x y E i A (.val (nD k)) ((dB t x).drop (k+1)) d f (λj N=>by simp_all);haveI I:eL (ei (eL (aa 7)) (cN (aM cT (λi j=>.int (i+j)) (aa 8) (eC (.int 1)))) ir) (gR t c x y (.val (nD k)) (.val (nD i)) d f)=.ok (((dB t x).drop (k+1)).map nD):=by haveI:=NA nD (dB t x) (k+1);rw[j7,No,show eL (aa 7) _=.ok _ from rfl,ai,ZQ,t4,show aa 8 _=.ok (nD k) from rfl,ai,mC,ai,sP,ax (by rfl),ai,EG,ai,ZO,ai,ai,j5];rw[show(k+1)=((k+1:Nat):Int) from rfl,this]
  haveI J:Am (gR t c x y (.val (nD k)) (.val (nD i)) d f)=forL (a1 10) wV (((dB t x).drop (k+1)).map nD) (gR t c x y (.val (nD k)) (.val (nD i)) d f):=by delta Am;rw[t8,I,ai]
  simp only[J,e,u];obtain⟨L,M,B,C,O⟩:=Oj t g c x y E m (k+1) (.val (nD k)) (.val (nD i)) a b (by omega);refine⟨L,M,B,C,?_⟩;cases hf:((dB t x).drop (k+1)).find? (λj=>cR t c 0 _==cR t c 0 y)with|some j=>rfl|none=>simp_all
def Ol{d:Type}(i:Nat)(C:DL.Env->R Bool)(E:DL.Env->R D)(c:DL.Env)(f g:d->D)(p:d->Bool):∀l:List d,(∀a∈l,C (c.set i (.val (f a)))=.ok (p a))->(∀a∈l,E (c.set i (.val (f a)))=.ok (g a))->e8 (a1 i) C E c (l.map f)=.ok ((l.filter p).map g)|[],_,_=>rfl|a::l,j,h=>by have k:=Ol i C E c f g p l (λb e=>j b (by simp[e])) (λb e=>h b (by simp[e]));rw[gv,ZV,ZS,ai,j a (by simp),ai,h a (by simp),ai,k];cases m:p a<;>simp[m]
def B'(l:List Nat):kK 0 (l.map nD)=(RW 0 l.length).map λn=>D.tup [nD n,nD (l.getD n 0)]:=by delta kK;rw[<-List.range_eq_range'];simp_all
def B?(t:aN)(g:Good t)(a:Nat)(x y:List Nat)(F:x.length<=100)(X:y.length<=100):zT [aq t,nD a,al x,al y]=if((cR t a 0 y).all λw=>w==1)=true then .exc 4 else .ok (findD (uq t a x y)):=by
 show aK 13 _ _=_;rw[cb];delta Na;generalize q:be 13 [aq t,nD a,al x,al y]=l;haveI o:l=[.val (aq t),.val (nD a),.val (al x),.val (al y),.ah,.ah,.ah,.ah,.ah,.ah,.ah,.ah,.ah]:=q.symm;haveI k:=wU t g a 0 y (by lia);haveI z:=nF jF (aa 0) (aa 1) (eC (.int 0)) (aa 3) l (aq t) (nD a) (nD 0) (al y) (by simp_all) (by simp_all) rfl (by simp_all);rw[k]at z;haveI G:bg 4 (az 4 jF (ac (aa 0) (ac (aa 1) (ac (eC (.int 0)) (ac (aa 3) am))))) l=.ok (.nx [.val (aq t),.val (nD a),.val (al x),.val (al y),.val (al (cR t a 0 y)),.ah,.ah,.ah,.ah,.ah,.ah,.ah,.ah]):=by rw[i8,z,ai,o];rfl
 rw[bN _ _ _ _ G];haveI H:=Oh t g a 0 y;haveI u:=y! (cR t a 0 y) (by lia);generalize f:[Slot.val (aq t),Slot.val (nD a),Slot.val (al x),Slot.val (al y),Slot.val (al (cR t a 0 y)),Slot.ah,Slot.ah,Slot.ah,Slot.ah,Slot.ah,Slot.ah,Slot.ah,Slot.ah]=p;haveI A:=iR zS (aa 4) p _ (by subst f;rfl);rw[u]at A;simp only[c7,dQ,dh,A,ai,dz,ai];by_cases B:((cR t a 0 y).all λw=>w==1)=true;·simp[*]
 rw[ay B,ay B,gc,ai,dP];haveI I:=Oc t g x (by lia);haveI m:=y? 11 tZ (aa 0) (aa 2) p (aq t) (al x) _ (by subst f;rfl) (by subst f;rfl) I;rw[Al]at m;haveI J:bg 5 (eI 11 2 tZ (ac (aa 0) (ac (aa 2) am))) p=.ok (.nx [.val (aq t),.val (nD a),.val (al x),.val (al y),.val (al (cR t a 0 y)),.val (dJ t (cC t 0 x)),.ah,.ah,.ah,.ah,.ah,.ah,.ah]):=by rw[i8,m,ai];subst f;rfl
 rw[bN _ _ _ _ J];haveI L:=A? t g.dec x (by lia);generalize h:[Slot.val (aq t),Slot.val (nD a),Slot.val (al x),Slot.val (al y),Slot.val (al (cR t a 0 y)),Slot.val (dJ t (cC t 0 x)),Slot.ah,Slot.ah,Slot.ah,Slot.ah,Slot.ah,Slot.ah,Slot.ah]=s;haveI C:=call2 wr (aa 0) (aa 2) s (aq t) (al x) (by subst h;rfl) (by subst h;rfl);rw[L]at C;haveI M:bg 6 (az 2 wr (ac (aa 0) (ac (aa 2) am))) s=.ok (.nx [.val (aq t),.val (nD a),.val (al x),.val (al y),.val (al (cR t a 0 y)),.val (dJ t (cC t 0 x)),.val (al (ge t x)),.ah,.ah,.ah,.ah,.ah,.ah]):=by rw[i8,C,ai];subst h;rfl
 rw[bN _ _ _ _ M];generalize b:[Slot.val (aq t),Slot.val (nD a),Slot.val (al x),Slot.val (al y),Slot.val (al (cR t a 0 y)),Slot.val (dJ t (cC t 0 x)),Slot.val (al (ge t x)),Slot.ah,Slot.ah,Slot.ah,Slot.ah,Slot.ah,Slot.ah]=d;haveI N:jz (ac (aM cT (λi j=>.int (i+j)) (cE (aa 2)) (eC (.int 1))) am) d=.ok ((bU (x.length+1)).map nD):=by
  haveI O:aM cT (λi j=>.int (i+j)) (cE (aa 2)) (eC (.int 1)) d=.ok (nD (x.length+1)):=by rw[t4,z7,show aa 2 d=.ok (al x) by subst b;rfl,ai,z0,ai,mC,ai,sP,ax (by rfl),bZ];rfl
  rw[EL,eM,O,ai,i9,ai,ai,E8 _ (by lia)]
 haveI v:fo d [12]=d:=by subst b;rfl
 haveI P:=Ol 12 (cB (az 3 t3 (ac (aa 0) (ac (aa 2) (ac (aa 12) am))))) (aa 12) d nD nD (jM t x) (bU (x.length+1)) (λi E=>by haveI E:=lQ.mp E;haveI Y:=A! t g.toC2 g.dec x i (by lia);haveI c:=ie t3 (aa 0) (aa 2) (aa 12) (d.set 12 (.val (nD i))) (aq t) (al x) (nD i) (by subst b;rfl) (by subst b;rfl) (by subst b;rfl);simp_all) (λi _=>by subst b;rfl);haveI Q:(dB t x).length<=x.length+1:=by delta dB;refine gI (acB _ _) ?_;simp
 haveI S:bg 7 (cw (jz (ac (aM cT (λi j=>.int (i+j)) (cE (aa 2)) (eC (.int 1))) am)) (a1 12) (cB (az 3 t3 (ac (aa 0) (ac (aa 2) (ac (aa 12) am))))) (aa 12) [12]) d=.ok (.nx (gR t a x y .ah .ah .ah .ah)):=by rw[i8,nE,N,ai,v,P];show(EI (.ok ((dB t x).map nD))).bind _=_;rw[nB,ax (by rw[bZ,gG];lia),ai];subst b;rfl
 rw[bN _ _ _ _ S];obtain⟨Z,c9,T,U,e⟩:=Oj t g a x y F (dB t x).length 0 .ah .ah .ah .ah (by simp);haveI W:vV (eL (aa 7)) (gR t a x y .ah .ah .ah .ah)=.ok ((RW 0 (dB t x).length).map λn=>D.tup [nD n,nD ((dB t x).getD n 0)]):=by rw[Z0,show eL (aa 7) (gR t a x y .ah .ah .ah .ah)=.ok ((dB t x).map nD) from rfl,ai,B']
 rw[c7,t8,W,ai];show outD ((forL _ Am _ _).bind _)=_;rw[e,RU,<-Sw];cases uq t a x y with|some r=>rfl|none=>rfl
abbrev wW:DL.Env->R Out:=(au (eK 2 (ei (eL (aa 1)) (cN (aa 3)) (cN (aM cT (λi j=>.int (i+j)) (aa 3) (aa 4))))) (nj 3 (λi j=>i+j) (aa 4)))
def Om(x:List Nat)(b:Slot):∀(n:List Nat)(a:Nat)(T:List (List Nat))(c:Slot),T.length+n.length<=100000->∃e d,forL (a1 4) wW (n.map nD) [b,.val (al x),.aL (T.map al),.val (nD a),c]=.ok (.nx [b,.val (al x),.aL ((T++mS n (x.drop a)).map al),e,d])
 |[],a,T,c,_=>⟨_,_,by rw[mS,nY];rfl⟩
 |k::n,a,T,c,h=>by
  rw[gv,kP,show mR _ 4 _=[b,.val (al x),.aL (T.map al),.val (nD a),.val (nD k)] from rfl];haveI f:ei (eL (aa 1)) (cN (aa 3)) (cN (aM cT (λi j=>.int (i+j)) (aa 3) (aa 4))) [b,.val (al x),.aL (T.map al),.val (nD a),.val (nD k)]=.ok (al ((x.drop a).take k)):=by haveI:=EN nD x a k;rw[No,show eL (aa 1) _=.ok (x.map nD) from rfl,ai,show cN (aa 3) _=.ok _ from rfl,ai,show cN _ _=.ok _ from rfl,ai,this]
  haveI g:eK 2 (ei (eL (aa 1)) (cN (aa 3)) (cN (aM cT (λi j=>.int (i+j)) (aa 3) (aa 4)))) [b,.val (al x),.aL (T.map al),.val (nD a),.val (nD k)]=.ok (.nx [b,.val (al x),.aL ((T++[(x.drop a).take k]).map al),.val (nD a),.val (nD k)]):=by rw[Od 2 _ _ (T.map al) _ rfl f (by grind),lZ];rfl
  haveI l:wW [b,.val (al x),.aL (T.map al),.val (nD a),.val (nD k)]=.ok (.nx [b,.val (al x),.aL ((T++[(x.drop a).take k]).map al),.val (nD (a+k)),.val (nD k)]):=by delta wW;rw[bN _ _ _ _ g];rfl
  obtain⟨b3,b4,m⟩:=Om x b n (a+k) (T++[(x.drop a).take k]) _ (by grind);rw[l,ai,lK,m,mS];simp
def v_cut(n x:List Nat)(g:n.length<=1000):Eu [al n,al x]=.ok (.lst ((mS n x).map al)):=by
 show aK 5 _ _=_;rw[cb];delta Nc;haveI a:be 5 [al n,al x]=[.val (al n),.val (al x),.ah,.ah,.ah]:=rfl;rw[a];haveI b:gy 2 am [.val (al n),.val (al x),.ah,.ah,.ah]=.ok (.nx [.val (al n),.val (al x),.aL [],.ah,.ah]):=by rfl
 haveI c:bg 3 (eC (.int 0)) [.val (al n),.val (al x),.aL [],.ah,.ah]=.ok (.nx [.val (al n),.val (al x),.aL [],.val (nD 0),.ah]):=rfl;obtain⟨b3,b4,e⟩:=Om x _ n 0 [] .ah (by simp;lia);haveI d:fq (eL (aa 0)) (a1 4) wW [.val (al n),.val (al x),.aL [],.val (nD 0),.ah]=.ok (.nx [.val (al n),.val (al x),.aL ((mS n x).map al),b3,b4]):=by exact e
 rw[bN _ _ _ _ b,bN _ _ _ _ c];haveI f:=bN _ (gK 2) _ _ d;unfold wW at f;simp_all
abbrev dD(t:aN)(a:D):D:=.ins 9 [aq t,a]
abbrev fV(n:Int)(args:List Int)(a:List (List Int)):D:=.ins 7 [.int n,aO args,.lst (a.map aO)]
abbrev res(b:Bool)(l:List (List Int))(a:List Int):R D:=if b=false\/l.any (ko iE)=true then .exc 0 else if l.all gZ=false then .exc 2 else .ok (aO a)
def jH(x:List Int)(h:gZ x=true):aO x=al (bt x):=by delta bt aO al;rw[fZ];congr 1;refine uA λn a=>?_;have:=ji.mp h n a;grind
def pk(l:List Nat):aO (kq l)=al l:=by unfold kq aO al;rw[fZ];rfl
def nJ(f:Int)(lo a:Int)(h:dF lo a f=true)(b:0<=lo):D.int f=nD f.toNat:=by delta dF at h;grind
def qU(x:List Int)(h:ko iE x=false):x.length<=100:=by delta ko iE at h;simp_all
def dS(x:List Int):(bt x).length=x.length:=by simp[bt]
def wX(d:List D->R D)(e f:DL.Env->R D)(c:DL.Env)(g:D)(b:Bool)(xs:List (List Int))(T:DL.Env->R Out)(r:R D)(a:List Int)(j:e c=.ok g)(k:d [g]=c8 b 0)(l:f c=.ok (.lst (xs.map aO)))(m:xs.length<=1000)(n:∀x∈xs,x.length<=20000)(o:b=true->xs.any (ko iE)=false->xs.all gZ=true->outD (T c)=.ok (aO a)):outD (au (eA (az 1 d (ac e am))) (au (eA (az 1 kN (ac f am))) T) c)=res b xs a:=by
 haveI h:=iR d e c g j;haveI i:=iR kN f c _ l;rw[k]at h;rw[NL xs m n]at i;rw[c7,nA,h];delta res c8;cases b;·rfl
 rw[ax rfl,ai,ai,dP,c7,nA,i];cases p:xs.any _
 ·delta c8;cases q:xs.all _;·rfl
  simp_all
 ·rfl
def Fd(A:DL.Env->R D)(a:DL.Env)(x:List Int)(h:A a=.ok (aO x)):de (ac A am) a=.ok (.lst ([x].map aO)):=by simp_all
def An(A B:DL.Env->R D)(a:DL.Env)(x y:List Int)(h:A a=.ok (aO x))(b:B a=.ok (aO y)):de (ac A (ac B am)) a=.ok (.lst ([x,y].map aO)):=by simp_all
def pq(t:aN)(b:D)(E:DL.Env->R D)(a:DL.Env)(h:E a=.ok (dD t b)):ao 9 0 E a=.ok (aq t):=by rw[t6,h];rfl
def B!(t:aN)(g:Good t)(b:D)(f:Int)(x:List Int)(e:x.length<=20000):zV [dD t b,.int f,aO x]=res (dF 0 3 f) [x] (kq (cC t f.toNat (bt x))):=by
 refine wX _ _ _ _ _ _ [x] _ .bad _ rfl (Ag f) (Fd _ _ x rfl) (by simp) (by simp_all) λd h a=>?_;haveI a:gZ x=true:=by simpa using a
 haveI c:=ie iM (ao 9 0 (aa 0)) (aa 1) (aa 2) (be 3 [dD t b,.int f,aO x]) _ _ _ (pq t b _ _ rfl) rfl rfl;rw[nJ f 0 3 d (by lia),jH x a,qM t g.toC5 _ _ (by rw[dS];lia)]at c;rw[gQ,show be 3 _=be 3 _ by rw[nJ f 0 3 d (by lia),jH x a],c,pk];rfl
abbrev bit(b:Bool):List Int:=[if b=true then 1 else 0]
def Oo(A B:DL.Env->R (List D))(a:DL.Env)(p q:List Nat)(b:A a=.ok (p.map nD))(c:B a=.ok (q.map nD)):outD (aQ (de (ac (kD (cB (h7 (λns d=>decide (ns=d)) A B)) (eC (.int 1)) (eC (.int 0))) am)) a)=.ok (aO (bit (p==q))):=by simp only[gQ,zZ,eM,Nk,dh,qK,b,ai,c,ai,jG,cW,jG,cW,ai,wR];cases p==q<;>rfl
def C_(t:aN)(g:Good t)(a:D)(f:Int)(x:List Int)(e:x.length<=20000):zW [dD t a,.int f,aO x]=res (dF 0 3 f) [x] (bit (cC t f.toNat (bt x)==bt x)):=by
 refine wX _ (aa 1) _ _ (.int f) _ [x] _ .bad _ rfl (Ag f) (Fd _ _ x rfl) (by simp) (by simp_all) λd h b=>?_;haveI b:gZ x=true:=by simpa using b
 rw[nJ f 0 3 d (by lia),jH x b];haveI c:=ie iM (ao 9 0 (aa 0)) (aa 1) (aa 2) (be 3 [dD t a,nD f.toNat,al (bt x)]) _ _ _ (pq t a _ _ rfl) rfl rfl;rw[qM t g.toC5 _ _ (by rw[dS];lia)]at c;exact Oo _ _ _ _ _ (by simp_all) rfl
def C'(f:Int)(h:(f==0||f==2)=true):D.int f=nD f.toNat:=by simp at h;rcases h with rfl|rfl<;>rfl
def C?(t:aN)(g:Good t)(a:D)(f:Int)(x y:List Int)(i:x.length<=20000)(j:y.length<=20000):wu [dD t a,.int f,aO x,aO y]=res (f==0||f==2) [x,y] (bit (cC t f.toNat (bt x)==cC t f.toNat (bt y))):=by refine wX _ (aa 1) _ _ (.int f) _ [x,y] _ .bad _ rfl (d? f) (An _ _ _ x y rfl rfl) (by simp) (by simp_all) λd e b=>?_;simp at e b;rw[C' f d,jH x b.1,jH y b.2];haveI c:=ie iM (ao 9 0 (aa 0)) (aa 1) (aa 2) (be 4 [dD t a,nD f.toNat,al (bt x),al (bt y)]) _ _ _ (pq t a _ _ rfl) rfl rfl;rw[qM t g.toC5 _ _ (by rw[dS];omega)]at c;haveI h:=ie iM (ao 9 0 (aa 0)) (aa 1) (aa 3) (be 4 [dD t a,nD f.toNat,al (bt x),al (bt y)]) _ _ _ (pq t a _ _ rfl) rfl rfl;rw[qM t g.toC5 _ _ (by rw[dS];omega)]at h;exact Oo _ _ _ _ _ (by simp_all) (by simp_all)
def C!(t:aN)(g:Good t)(a:D)(f:Int)(x y:List Int)(k:x.length<=20000)(l:y.length<=20000):wx [dD t a,.int f,aO x,aO y]=res (dF 0 3 f) [x,y] (kq (cC t f.toNat (bt x++bt y))):=by
 refine wX qB (aa 1) _ _ (.int f) _ [x,y] _ .bad _ rfl (Ag f) (An _ _ _ x y rfl rfl) (by simp) (by simp_all) λh b d=>?_;simp at b d;have i:=qU x b.1;have j:=qU y b.2;rw[nJ f 0 3 h (by lia),jH x d.1,jH y d.2,pk];have e:sQ (eL (aa 2)) (eL (aa 3)) (be 4 [dD t a,nD f.toNat,al (bt x),al (bt y)])=.ok (al (bt x++bt y)):=by rw[Z1,show eL (aa 2) _=.ok _ from rfl,ai,show eL (aa 3) _=.ok _ from rfl,ai,ax (by rw[bZ,bZ,dS,dS,gG];lia),<-lZ]
 haveI c:=ie iM (ao 9 0 (aa 0)) (aa 1) _ _ _ _ _ (pq t a _ _ rfl) rfl e;rw[qM t g.toC5 _ _ (by rw[kg,dS,dS];lia)]at c;simp_all
def Op(c e:List D->R D)(d f g:DL.Env->R D)(b:DL.Env)(h i:D)(b1 b2:Bool)(xs:List (List Int))(T:DL.Env->R Out)(a:List Int)(m:d b=.ok h)(n:c [h]=c8 b1 0)(j:f b=.ok i)(k:e [i]=c8 b2 0)(o:g b=.ok (.lst (xs.map aO)))(p:xs.length<=1000)(q:∀x∈xs,x.length<=20000)(r:b1=true->b2=true->xs.any (ko iE)=false->xs.all gZ=true->outD (T b)=.ok (aO a)):outD (au (eA (az 1 c (ac d am))) (au (eA (az 1 e (ac f am))) (au (eA (az 1 kN (ac g am))) T)) b)=res (b1&&b2) xs a:=by
 have l:=iR c d b h m;rw[n]at l;cases b1;·rw[c7,nA,l];rfl
 have s:eA (az 1 c (ac d am)) b=.ok (.nx b):=by rw[nA,l];rfl
 rw[bN _ _ _ _ s];exact wX e f g b i b2 xs T .bad a j k o p q (r rfl)
def D_(t:aN)(g:Good t)(a:D)(l b:Int)(x:List Int)(i:x.length<=20000):Ex [dD t a,.int l,.int b,aO x]=res (rZ l b) [x] (kq (cR t l.toNat b.toNat (bt x))):=by
 refine Op _ _ _ _ _ _ _ _ _ _ [x] _ _ rfl (Ah l) rfl (EO b) (Fd _ _ x rfl) (by simp) (by simp_all) λd e h f=>?_;haveI h:=qU x (by simp_all);haveI f:gZ x=true:=by simpa using f
 rw[nJ l 1 3 d (by lia),nJ b 0 1 e (by lia),jH x f,pk];haveI c:=nF jF (ao 9 0 (aa 0)) (aa 1) (aa 2) (aa 3) (be 4 [dD t a,nD l.toNat,nD b.toNat,al (bt x)]) _ _ _ _ (pq t a _ _ rfl) rfl rfl rfl;rw[wU t g _ _ _ (by rw[dS];lia)]at c;simp_all
def D'(F:List D->R D)(E1 b c d e:DL.Env->R D)(a:DL.Env)(f g h i j:D)(k:E1 a=.ok f)(l:b a=.ok g)(m:c a=.ok h)(n:d a=.ok i)(o:e a=.ok j):az 5 F (ac E1 (ac b (ac c (ac d (ac e am))))) a=F [f,g,h,i,j]:=by simp_all
def D?(t:aN)(g:Good t)(a:D)(l b:Int)(x y:List Int)(k:x.length<=20000)(m:y.length<=20000):Ey [dD t a,.int l,.int b,aO x,aO y]=res (rZ l b) [x,y] [(Bw t l.toNat b.toNat (bt x) (bt y):Int)]:=by refine Op _ _ (aa 1) (aa 2) _ _ (.int l) (.int b) _ _ [x,y] _ _ rfl (Ah l) rfl (EO b) (An _ _ _ x y rfl rfl) (by simp) (by simp_all) λd e f h=>?_;simp at f h;haveI i:=qU x f.1;haveI j:=qU y f.2;rw[nJ l 1 3 d (by lia),nJ b 0 1 e (by lia),jH x h.1,jH y h.2];haveI c:=D' zU (ao 9 0 (aa 0)) (aa 1) (aa 2) (aa 3) (aa 4) (be 5 [dD t a,nD l.toNat,nD b.toNat,al (bt x),al (bt y)]) _ _ _ _ _ (pq t a _ _ rfl) rfl rfl rfl rfl;rw[z? t g _ _ _ _ (by rw[dS];lia) (by rw[dS];lia)]at c;simp_all
abbrev findB(l:Int)(x y:List Int):Bool:=dF 1 3 l&&(decide (x.length<=pL)&&(decide (1<=y.length)&&decide (y.length<=pL)))
def D!(t:aN)(g:Good t)(f:D)(l:Int)(x y:List Int)(m:x.length<=20000)(n:y.length<=20000):Ez [dD t f,.int l,aO x,aO y]=if findB l x y=false then .exc 0 else if[x,y].all gZ=false then .exc 2 else if((cR t l.toNat 0 (bt y)).all λw=>w==1)=true then .exc 4 else .ok (findD (uq t l.toNat (bt x) (bt y))):=by
 show aK 4 _ _=_;rw[cb];delta Ng findB;generalize a:be 4 _=c;have h:=iR qC (aa 1) c _ (by subst a;rfl);rw[Ah]at h;have i:=call2 zO (aa 2) (aa 3) c _ _ (by subst a;rfl) (by subst a;rfl);rw[f_]at i;have j:=iR tV (de (ac (aa 2) (ac (aa 3) am))) c _ (An _ _ _ x y (by subst a;rfl) (by subst a;rfl));rw[ER [x,y] (by simp_all)]at j;rw[c7,nA,h];cases d:dF 1 3 l;·rfl
 rw[c8,ax rfl,ai,ai,dP,c7,nA,i];cases b:(decide (x.length<=pL)&&(decide (1<=y.length)&&decide (y.length<=pL)));·rfl
 rw[c8,ax rfl,ai,ai,dP,c7,nA,j];cases e:[x,y].all _;·rfl
 rw[c8,ax rfl,ai,ai,dP];simp at e;delta pL at b;simp at b;haveI k:=nF zT (ao 9 0 (aa 0)) (aa 1) (aa 2) (aa 3) c (aq t) (nD l.toNat) (al (bt x)) (al (bt y)) (pq t f _ _ (by subst a;rfl)) (by subst a;rw[nJ l 1 3 d (by lia)];rfl) (by subst a;rw[jH x e.1];rfl) (by subst a;rw[jH y e.2];rfl);rw[B? t g _ _ _ (by rw[dS];lia) (by rw[dS];lia)]at k;simp_all
def call_num(n:Int)(args:List Int)(a:List (List Int))(E:DL.Env->R D)(b:DL.Env)(h:E b=.ok (fV n args a)):ao 7 0 E b=.ok (.int n)/\ao 7 1 E b=.ok (aO args)/\ao 7 2 E b=.ok (.lst (a.map aO)):=by refine⟨?_,?_,?_⟩<;>·rw[t6,h];rfl
def E_(t:aN)(g:Good t)(c:D)(n f:Int)(a:List (List Int))(B:∀r∈a,r.length<=20000)(h:(n=2/\a.length=1)\/(n=3/\a.length=1)\/(n=4/\a.length=2)\/(n=5/\a.length=2)):Ev [dD t c,fV n [f] a]=if n=2 then zV [dD t c,.int f,aO (a.getD 0 [])]else if n=3 then zW [dD t c,.int f,aO (a.getD 0 [])]else if n=4 then wu [dD t c,.int f,aO (a.getD 0 []),aO (a.getD 1 [])]else wx [dD t c,.int f,aO (a.getD 0 []),aO (a.getD 1 [])]:=by
 show aK 3 _ _=_;rw[cb];delta Nf;haveI v:be 3 [dD t c,fV n [f] a]=[.val (dD t c),.val _,.ah]:=rfl;rw[v];haveI w:bg 2 (bc (ao 7 1 (aa 1)) (eC (.int 0))) [.val (dD t c),.val (fV n [f] a),.ah]=.ok (.nx [.val (dD t c),.val (fV n [f] a),.val (.int f)]):=by rfl
 rw[bN _ _ _ _ w];generalize e:[Slot.val (dD t c),Slot.val _,Slot.val (.int f)]=i;haveI v0:aa 0 i=.ok (dD t c):=by subst e;rfl
 haveI v2:aa 2 i=.ok (.int f):=by subst e;rfl
 obtain⟨x,C,y⟩:=call_num n [f] a (aa 1) i (by subst e;rfl);have b:∀(j:Nat) (q:Int),q=j->j<a.length->bc (ao 7 2 (aa 1)) (eC (.int q)) i=.ok (aO (a.getD j [])):=by intro j q s z;subst s;simp only[qJ,y,ai,mC,ai,qI,gs aO a j _ (getD_at z []),cW]
 have l:∀k:Int,cB (bC false (ao 7 0 (aa 1)) (eC (.int k))) i=.ok (decide (n=k)):=by intro k;simp only[dh,t7,x,ai,mC,ai,wB,cW,ai];rfl
 haveI o:∀F:R D,outD (F.bind λd=>.ok (.rt d))=F:=λF=>by cases F<;>rfl
 haveI m:∀(F:R D) (T:DL.Env->R Out),outD ((F.bind λd=>.ok (.rt d)).bind (j3 T))=F:=λF T=>by cases F<;>rfl
 rw[c7,dQ,l,ai];by_cases A:n=2;·simp_all
 rw[ay (by lia),ay A,gc,ai,dP,c7,dQ,l,ai];by_cases u:n=3;·simp_all
 rw[ay (by simpa using u),ay u,gc,ai,dP,c7,dQ,l,ai];by_cases p:n=4;·rw[ax (gT p),ax p,gQ,nF wu _ _ _ _ i _ _ _ _ v0 v2 (b 0 0 rfl (by lia)) (b 1 1 rfl (by lia)),m]
 rw[ay (by simpa using p),ay p,gc,ai,dP,gQ,nF wx _ _ _ _ i _ _ _ _ v0 v2 (b 0 0 rfl (by lia)) (b 1 1 rfl (by lia)),o]
section
def Oq(t:aN)(a:Shape t)(h:gu t=none):Good t:=by have r:=right_of t h;exact{cls:=r.cls,len:=a.cls,dec:=r.dec,pair:=r.pair,key:=r.key,wt:=r.wt,code:=a.code}
def good0:Good Af:=by refine Oq Af ⟨by decide,by decide,by decide,by decide,by decide,by decide,(λk a=>bw a (GX)),(λw b=>bw b (GX))⟩ ?_;rfl
def E?(p d q z k w:List Int):n8 p d q z k w=mE (bt p) (bt d) (bt q) (bt z) (bt k) (bt w):=by delta n8 mE FoFormSeed.records;simp only[dS]
def ud(l:List Int)(k g:Int)(h:gd (l,k,g)=true):aO l=al (bt l)/\((l.length:Int)%k=0/\(l.length:Int)<=128*k)/\∀a∈bt l,(a:Int)<=g:=by
 delta gd at h;simp only[d0,jK,ji]at h;obtain⟨c,d,e⟩:=h;have i:∀n∈l,0<=n/\n<=g:=λn b=>by have:=e n b;unfold dF at this;simp_all
 refine⟨?_,⟨c,d⟩,λa f=>?_⟩;·delta bt aO al;rw[fZ];congr 1;refine uA λn b=>?_;grind
 ·unfold bt at f;grind
def E!(p d q z k w:List Int)(h:(rowsOf p d q z k w).all gd=true):wc [.lst ([p,d,q,z,k,w].map aO)]=.ok (iz (n8 p d q z k w))/\Shape (n8 p d q z k w):=by
 delta rowsOf at h;simp only[nZ,G3,d0]at h;obtain⟨o,s,t,u,v,x,-⟩:=h;obtain⟨y,G,H⟩:=ud _ _ _ o;obtain⟨A,I,J⟩:=ud _ _ _ s;obtain⟨B,L,M⟩:=ud _ _ _ t;obtain⟨z1,z2,z3⟩:=ud _ _ _ u;obtain⟨k1,k2,k3⟩:=ud _ _ _ v;obtain⟨C,N,O⟩:=ud _ _ _ x;have S:=dS p;have ld:=dS d;have T:=dS q;have U:=dS z;have lk:=dS k;have X:=dS w;rw[E?];simp only[gv,List.map_nil];simp only[y,A,B,z1,k1,C];generalize bt p=P at*
 generalize bt d=n at*
 generalize bt q=Q at*
 generalize bt z=Z at*
 generalize bt k=K at*
 generalize bt w=W at*
 haveI e:∀a∈W,a<=65535:=λa Y=>by grind
 refine⟨c! P n Q Z K W (by lia) (by lia) (by lia) (by lia) (by lia) (by lia) e,?_⟩;haveI cl:∀(m:Nat) (l:List Nat),0<m->l.length%m=0->l.length=l.length/m*m:=λm l hm h=>by have:=RI l.length m;grind
 delta mE;rw[mF 4 (by lia) n (by lia),mF 3 (by lia) Q (by lia),mF 3 (by lia) Z (by lia),mF 6 (by lia) K (by lia),mF 3 (by lia) W (by lia)];constructor;·lia
 ·dsimp only;rw[bZ,lM];lia
 ·dsimp only;rw[bZ,lM];lia
 ·dsimp only;rw[bZ,lM];lia
 ·dsimp only;rw[bZ,lM];lia
 ·dsimp only;rw[bZ,lM];lia
 ·intro kk g;obtain⟨r,i,rfl⟩:=mK.mp g;have:=(pj 6 _ K (cl 6 K (by lia) (by lia)) r i).1;show(r.drop 3).length=3;simp_all
 ·intro ww j;obtain⟨r,i,rfl⟩:=mK.mp j;have f:=pj 3 _ W (cl 3 W (by lia) (by lia)) r i;obtain⟨a,b,c,rfl⟩:=Ae f.1;haveI E:=NI a b c (e a (f.2 a (by simp))) (e b (f.2 b (by simp))) (e c (f.2 c (by simp)));haveI F:rC (rX [a,b,c])=a:=bz fL E;rw[F];have:=e a (f.2 a (by simp));lia
open gC(sortI insI)
abbrev keysOf(t:aN)(a b:Nat)(w:List x9):List (List Nat):=w.map (cR t a b)
abbrev kQ(ks:List (List Nat))(i:Nat):Int:=(rank ks (ks.getD i []):Nat)
def Ot(ks:List (List Nat))(i j:Nat)(a:i<ks.length)(b:j<ks.length):HT.lexLt ((ks.getD i []).map λn:Nat=>(n:Int)) ((ks.getD j []).map λn:Nat=>(n:Int))=decide (kQ ks i<kQ ks j):=by rw[wO];delta kQ;haveI c:=fY (getD_at a []);haveI d:=fY (getD_at b []);rw[Sr ks _ _ c d];simp
def Ou(t:aN)(c d:Nat)(w:List x9)(i:Nat)(m:i<w.length):∀l:List Nat,(∀j∈l,j<w.length)->RX t c d w i l=insI (kQ (keysOf t c d w)) i l
 |[],_=>rfl
 |j::l,h=>by
  have n:=h j (by simp);unfold RX insI;haveI o:(keysOf t c d w).length=w.length:=by simp[keysOf]
  have p:(keysOf t c d w).getD i []=cR t c d (w.getD i []):=by delta keysOf;rw[jf,jp,getD_at m []];rfl
  have q:(keysOf t c d w).getD j []=cR t c d (w.getD j []):=by delta keysOf;rw[jf,jp,getD_at n []];rfl
  have e:=Ot (keysOf t c d w) j i (by lia) (by lia);rw[wO,p,q]at e;delta Bw;rw[BU];generalize cR t c d _=a at*
  generalize cR t c d _=b at*
  by_cases f:kQ (keysOf t c d w) j<kQ (keysOf t c d w) i
  ·rw[gT f]at e;haveI g:=Sq b a e;have r:¬a=b:=λz=>by lia
   rw[ax f,g,ay bE,ay r,ay (by lia),Ou t c d w i m l λk s=>h k (by simp[s])]
  ·rw[ay f];rcases BX a b with g|g|g;·simp_all
   ·simp_all
   simp_all
def Ov(t:aN)(a b:Nat)(w:List x9):Bx t a b w=sortI (kQ (keysOf t a b w)) (bU w.length):=by
 delta Bx;haveI:∀l:List Nat,(∀j∈l,j<w.length)->l.foldr (RX t a b w) []=sortI (kQ (keysOf t a b w)) l:=by
  intro l;induction l with
  |nil=>intro _;rfl
  |cons i l d=>
   intro h;rw[List.foldr_cons,d λj c=>h j (by simp[c])];rw[Ou t a b w i (h i (by simp))];·rfl
   ·intro j c;have:=(gC.sortI_perm _ l).mem_iff.mp c;simp_all
 simp_all
end
end FO
namespace FO
open PySem PySem.Spec PyProof.Rows L2 DL
structure ft(P:bA)(w:bB)(mg:ag->Option aj)(base:aZ)(G:Gx)(CX:hU)(t:Nat)(name:ag)(k:Nat)(ps:List ag)(sp:Sp):Prop where
 ok:∃fd,bS P w G.K mg base CX k (G.fm t) fd ps sp/\Binds G.K fd ps []
 mg:mg name=some (.ref (G.fm t))
 kp:jJ G.K (.ref (G.fm t))=true
structure pr(P:bA)(w:bB)(mg:ag->Option aj)(base:aZ)(G:Gx)(CX:hU)(c t:Nat)(m:ag)(k:Nat)(ps:List ag)(sp:Sp):Prop where
 ok:∃fd,bS P w G.K mg base CX k (G.fm t) fd ps sp/\Binds G.K fd ps []
 mt:Meth G.K (G.cm c) m (G.fm t)
 cl:Cls G.K (G.cm c)
structure qV(P:bA)(w:bB)(mg:ag->Option aj)(base:aZ)(G:Gx)(CX:hU)(c t:Nat)(name:ag)(k:Nat)(ps:List ag)(sp:Sp):Prop where
 ok:∃fd,bS P w G.K mg base CX k (G.fm t) fd ps sp/\Binds G.K fd ps []
 KQ:Mk G.K (G.cm c) (G.fm t)
 mg:mg name=some (.ref (G.cm c))
section
variable{X:Cx}{G:Gx}{e a b c o:bp}{es:List bp}{pos pos' p apos:cj}{ta tb tv:TE}{t:TA}{x f:ag}{E:XK}
def hf(he:PE X e ta)(d: ~~~(jl e f X.env (aP e X.env)=aP e X.env)) (g: ~~~(X.K=G.K)):PE X (.Attribute e f pos) (md G.K ta f):=by rw[<-g];exact yF he d
def ja(d:PE X o ta)(g:PE X e tv)(h: ~~~(fJ e (some (.Attribute o f pos')) pos.line X.env=pure false)) (i: ~~~(X.K=G.K)):PS X (.Assign [.Attribute o f pos'] e pos) (yD G.K ta tv f):=by rw[<-i];exact I0 d g h
def hlen(g:X.mg "len"=none)(h:PE X a ta)(i: ~~~(Gl X "len")) (d: ~~~(aB [a] X.env=(false,aP a X.env)::aB [] X.env)) (l: ~~~((bF pos (aB [] X.env)).any (·.1)=false)) (j: ~~~(X.K=G.K)):PE X (.Call (.Name "len" p) [a] [] pos) (li (vt G.K) (eW ta eu)):=by rw[<-j];exact p8 CS i g Rh (aV h bG d) (he:=d)
def jb(d:∃t,X.mg x=some (.int n t))(g: ~~~(Gl X x)) (h:((x==("__debug__":ag))=false)⁻¹):PE X (.Name x pos) (tC (.int n)):=by obtain⟨t,d⟩:=d;exact uS g d ⟨t,rfl⟩ h
def cA(B:ft X.prog X.w X.mg X.base G j u x k ps sp)(l:bO k X.A)(m:Passes j X E)(n:PA X (e::es) t)(q: ~~~(Gl X x)) (d:((x==("__debug__":ag))=false)⁻¹) (he: ~~~(aB (e::es) X.env=(false,aP e X.env)::aB es X.env)) (hpl: ~~~((bF pos (aB es X.env)).any (·.1)=false)) (r: ~~~(X.K=G.K)):PE X (.Call (.Name x p) (e::es) [] pos) (p1 sp [] E t):=by obtain⟨⟨fd,g,h⟩,s,i⟩:=B;rw[<-r]at g h i;exact Jb g l q s i h .nil m n d he hpl
def aeu(B:pr X.prog X.w X.mg X.base G l n z m k ps sp)(q:bO k X.A)(r:Passes l X E)(s:PE X o ta)(u:PA X (e::es) t)(g: ~~~(aB (e::es) X.env=(false,aP e X.env)::aB es X.env)) (hpl: ~~~((bF pos (aB es X.env)).any (·.1)=false))
    (v:aP (.Call (.Attribute o m apos) (e::es) [] pos) X.env=(do
     let h<-aP o X.env
     mN apos.atName let(f,d)<-jP [h] (pE h m C)
     pF pos f d (bF pos (aB (e::es) X.env)) (ii pos (ij [] X.env))):=by rfl) (y: ~~~(X.K=G.K)):PE X (.Call (.Attribute o m apos) (e::es) [] pos) (p5 (G.cm n) m sp [] E ta t):=by obtain⟨⟨fd,i,j⟩,mt,cl⟩:=B;rw[<-y]at i j mt cl;exact Jc s cl mt i q j .nil r u g hpl v
def ue(B:pr X.prog X.w X.mg X.base G j l v m k ps sp)(n:bO k X.A)(q:Passes j X E)(r:PE X o ta)
    (s:aP (.Call (.Attribute o m apos) [] [] pos) X.env=(do
     let g<-aP o X.env
     mN apos.atName let(f,d)<-jP [g] (pE g m y)
     pF pos f d (bF pos (aB [] X.env)) (ii pos (ij [] X.env))):=by rfl) (u: ~~~(X.K=G.K)):PE X (.Call (.Attribute o m apos) [] [] pos) (p5 (G.cm l) m sp [] E ta eu):=by obtain⟨⟨fd,h,i⟩,mt,cl⟩:=B;rw[<-u]at h i mt cl;exact TZ r cl mt h n i .nil q s
def Ao(B:qV X.prog X.w X.mg X.base G j l v x k ps sp)(m:bO (k+1) X.A)(n:Passes j X E)(q:PA X (e::es) t)(r: ~~~(Gl X x)) (d:((x==("__debug__":ag))=false)⁻¹) (he: ~~~(aB (e::es) X.env=(false,aP e X.env)::aB es X.env)) (hpl: ~~~((bF pos (aB es X.env)).any (·.1)=false)) (s: ~~~(X.K=G.K)):PE X (.Call (.Name x p) (e::es) [] pos) (u6 (G.cm l) sp [] E t):=by obtain⟨⟨fd,g,h⟩,i,u⟩:=B;rw[<-s]at g h i;exact Je i g m r u h .nil n q d he hpl
def F_(B:qV X.prog X.w X.mg X.base G j l u x k ps sp)(m:bO (k+1) X.A)(n:Passes j X E)(q: ~~~(Gl X x)) (d:((x==("__debug__":ag))=false)⁻¹) (r: ~~~(X.K=G.K)):PE X (.Call (.Name x p) [] [] pos) (u6 (G.cm l) sp [] E eu):=by obtain⟨⟨fd,g,h⟩,i,s⟩:=B;rw[<-r]at g h i;exact T1 i g m q s h .nil n d
def iQ(d:X.N.Nodup)(he:PE X e g)(h: ~~~(X.N[i]?=some x)) (j:Loc X.env.scope x:=by first|exact cy rfl|exact bM rfl) (l: ~~~(fJ e (some (.Name x pos')) pos.line X.env=pure false)) (hf:X.fn x=true\/X.env.scope.names.lookup x=some .local:=by first|exact .inl rfl|exact .inr rfl):PS X (.Assign [.Name x pos'] e pos) (la g (iT i)):=uX d h j he l hf
def fQ(d:PE X a ta)(g:PE X b tb)(h:yJ b:=by intro _ _;rfl) (i: ~~~(X.K=G.K)):PE X (.Subscript a b pos) (fA (p9 G.K) ta tb):=by rw[<-i];exact CM Js d g h
def uc{lo d:Option bp}(g:PE X a ta)(h:PO X lo tl)(i:PO X d j)(l: ~~~(X.K=G.K)):PE X (.Subscript a (.Slice lo d none m) pos) (CK (CQ G.K) ta tl j):=by rw[<-l];exact Jp Jt g h i
def Ow(j:PE X o ta)(he:PE X e tv)(h: ~~~(aB [e] X.env=(false,aP e X.env)::aB [] X.env)) (d: ~~~(jl o "append" X.env (aP o X.env)=aP o X.env)) (i: ~~~(((bF p (aB [e] X.env)).all (λx=>!x.1)&&(ii p (ij [] X.env)).all (λx=>x.1.isSome)&&decide ([e].length+([]:List n0).length+(if([]:List n0).isEmpty then 0 else 1)<30))=true)) (g: ~~~((apos.endLine==p.line)=true)) (l: ~~~(fJ (.Call (.Attribute o "append" apos) [e] [] p) none pos.line X.env=pure false)) (m: ~~~(X.K=G.K)):PS X (.Expr (.Call (.Attribute o "append" apos) [e] [] p) pos) (mX (sJ G.K "list" vc ta (eW tv eu))):=by rw[<-m];exact iI (yL GJ Q6 ab6 JA j (aV he bG h) d i g h) l
def F?(j:PE X o ta)(he:PE X e tv)(h: ~~~(aB [e] X.env=(false,aP e X.env)::aB [] X.env)) (d: ~~~(jl o "extend" X.env (aP o X.env)=aP o X.env)) (i: ~~~(((bF p (aB [e] X.env)).all (λx=>!x.1)&&(ii p (ij [] X.env)).all (λx=>x.1.isSome)&&decide ([e].length+([]:List n0).length+(if([]:List n0).isEmpty then 0 else 1)<30))=true)) (g: ~~~((apos.endLine==p.line)=true)) (l: ~~~(fJ (.Call (.Attribute o "extend" apos) [e] [] p) none pos.line X.env=pure false)) (m: ~~~(X.K=G.K)):PS X (.Expr (.Call (.Attribute o "extend" apos) [e] [] p) pos) (mX (sJ G.K "list" zd ta (eW tv eu))):=by rw[<-m];exact iI (yL GJ Ri acy KY j (aV he bG h) d i g h) l
def Ox(d:PE X o ta)(g:PE X e tv)(h: ~~~(X.K=G.K)):PS X (.AugAssign (.Attribute o f pos') .Add e pos) (IZ G.K ta tv CF f):=by rw[<-h];exact TU d g TV
end
section
variable{P:bA}{w:bB}{G:Gx}{mg:ag->Option aj}{base:aZ}{x qual:ag}{st:dm}{f:af}{fd:eQ}{N ps:List ag}{k:Nat}{sp:Sp}
def mG(F:cU G.K x qual st f fd)(i:du N ps (bx st))(len:∀vs H Q E,sp vs H Q E->vs.length=ps.length)(T:TS)(g:∀(d:aj)(A:cG)(outer:List n6)(s:ar)(H:Hp)(E:XK),bO k (A.deeper (gY qual (bx st) s.heap.objs.size f d))->df (hV aS P w G.K mg base N qual (bx st) f d A outer s H E).kB (g7 st) T)(run:∀vs H Q E,sp vs H Q E->T {nx:=λ_ j=>Q .ah j,rt:=Q} (L2.start N vs) H):bS P w G.K mg base aS (k+1) f fd ps sp:=F.ok i len λd A outer s H vs Q E l h=>⟨T,g d A outer s H E l,run vs H Q E h⟩
def lO(F:cU G.K x qual st f fd)(j:du N ps (bx st))(len:∀vs H Q E,sp vs H Q E->vs.length=ps.length)(T:XK->TS)(g:∀(d:aj)(A:cG)(outer:List n6)(s:ar)(H:Hp)(E:XK),bO k (A.deeper (gY qual (bx st) s.heap.objs.size f d))->df (hV (bH P w) P w G.K mg base N qual (bx st) f d A outer s H E) (g7 st) (T E))(run:∀vs H Q E,sp vs H Q E->T E {nx:=λ_ l=>Q .ah l,rt:=Q} (L2.start N vs) H):bS P w G.K mg base (bH P w) (k+1) f fd ps sp:=by obtain⟨r,u,kV,m,v,y,d,ct,n,rfl,lk,i⟩:=F.ex;exact yH lk i j len λA outer s H vs Q E q h=>⟨T E,g d A outer s H E q,run vs H Q E h⟩
end
def bY(h:i1 G c ns)(j:Nat)(d:ns[j]?=some f):iU G.K (G.cm c) f:=h.na f (fY d)
abbrev gH(G:Gx)(dx:af)(d:V)(k:Int):HO:=.ins (G.cm 8) dx [("numbers",d),("place",.int k)]
inductive Oy(G:Gx)(vs:List V)(H:Hp)(Q:VK)(E:XK):Prop|mk:∀x dx nv,vs=[.ref x,nv]->H x=some (.ins (G.cm 8) dx [])->Q .ah (upd H x (gH G dx nv 0))->Oy G vs H Q E
abbrev Oz(G:Gx):Sp:=λvs H Q E=>Oy G vs H Q E
def F!:du ["self","numbers"] ["self","numbers"] (bx (inClass (top 98) 0)):=⟨rfl,rfl,rfl,by decide+kernel,rfl,by decide+kernel,by decide+kernel⟩
def G_{P:bA}{w:bB}{mg:ag->Option aj}{base:aZ}{G:Gx}{f:af}{fd:eQ}(C:Txt mg base G)(F:cU G.K "__init__" "Reader.__init__" (inClass (top 98) 0) f fd):bS P w G.K mg base aS 1 f fd ["self","numbers"] (Oz G):=by refine mG (N:=["self","numbers"]) (k:=0) F F! (λvs H Q E ⟨x,dx,d,e,_,_⟩=>by rw[e];rfl) _ (λg A outer s H E i=>bV (ja (G:=G) (pv 0) (pv 1)) (cK (ja (G:=G) (pv 0) fk))) λvs H Q E ⟨x,dx,d,e,h,q⟩=>?_;subst e;refine⟨d,rfl,_,rfl,x,_,dx,[],rfl,h,(C.k 8).cl,bY (C.k 8) 0 rfl,by simp,?_⟩;refine⟨_,rfl,x,_,dx,[("numbers",d)],rfl,aW,(C.k 8).cl,bY (C.k 8) 1 rfl,by simp,?_⟩;rw[oj];exact q
structure jI(G:Gx)(H:Hp)(r n:af)(dx:af)(l:List Int)(k:Nat):Prop where
 ob:H r=some (gH G dx (.ref n) k)
 ls:Rd H n (.lst (l.map V.int))
inductive OA(G:Gx)(vs:List V)(H:Hp)(Q:VK)(E:XK):Prop|mk:∀r n dx l k,vs=[.ref r]->jI G H r n dx l k->Q (.bl (decide (k<l.length))) H->OA G vs H Q E
abbrev OB(G:Gx):Sp:=λvs H Q E=>OA G vs H Q E
def G':du ["self"] ["self"] (bx (inClass (top 98) 1)):=⟨rfl,rfl,rfl,by simp,rfl,by decide+kernel,by decide+kernel⟩
def G?{P:bA}{w:bB}{mg:ag->Option aj}{base:aZ}{G:Gx}{f:af}{fd:eQ}(C:Txt mg base G)(F:cU G.K "has_more" "Reader.has_more" (inClass (top 98) 1) f fd):bS P w G.K mg base aS 1 f fd ["self"] (OB G):=by refine mG (N:=["self"]) (k:=0) F G' (λvs H Q E ⟨r,n,dx,l,k,e,_,_⟩=>by rw[e];rfl) _ (λd A outer s H E g=>cK (ee (IQ u4 (hf (G:=G) (pv 0)) (hlen (G:=G) (C.b 0) (hf (G:=G) (pv 0))) (eV _)))) λvs H Q E ⟨r,n,dx,l,k,e,h,q⟩=>?_;subst e;refine⟨.ref r,rfl,r,_,dx,_,.int k,rfl,h.ob,(C.k 8).cl,bY (C.k 8) 1 rfl,rfl,?_⟩;refine⟨.ref r,rfl,r,_,dx,_,.ref n,rfl,h.ob,(C.k 8).cl,bY (C.k 8) 0 rfl,rfl,?_⟩;refine⟨n,_,rfl,.inl (.inl h.ls),k,(l.map V.int).length,rfl,rfl,?_⟩;show Q (V.bl (decide ((k:Int)<((l.map V.int).length:Nat)))) H;rw[bZ,show decide ((k:Int)<(l.length:Nat))=decide (k<l.length) from jq.mpr (by omega)];exact q
inductive OC(G:Gx)(vs:List V)(H:Hp)(Q:VK)(E:XK):Prop|mk:∀r n dx l k v,vs=[.ref r]->jI G H r n dx l k->l[k]?=some v->Q (.int v) (upd H r (gH G dx (.ref n) ((k+1:Nat):Int)))->OC G vs H Q E
abbrev Ap(G:Gx):Sp:=λvs H Q E=>OC G vs H Q E
def OD:du ["self","number"] ["self"] (bx (inClass (top 98) 2)):=⟨rfl,rfl,rfl,by decide+kernel,rfl,by decide+kernel,by decide+kernel⟩
def OE{l:List Int}{k:Nat}(h:l[k]?=some v):ew (l.map V.int) (k:Int)=some (V.int v):=by haveI d:=jt h;delta ew h0;simp_all
def G!{P:bA}{w:bB}{mg:ag->Option aj}{base:aZ}{G:Gx}{f:af}{fd:eQ}(C:Txt mg base G)(F:cU G.K "take_number" "Reader.take_number" (inClass (top 98) 2) f fd):bS P w G.K mg base aS 1 f fd ["self"] (Ap G):=by refine mG (N:=["self","number"]) (k:=0) F OD (λvs H Q E ⟨r,n,dx,l,k,v,e,_,_,_⟩=>by rw[e];rfl) _ (λd A outer s H E m=>by have g:=OD.nd;exact bV (iQ (i:=1) g (fQ (G:=G) (hf (G:=G) (pv 0)) (hf (G:=G) (pv 0)))) (bV (Ox (G:=G) (pv 0) fk) (cK (ee (pv 1))))) λvs H Q E ⟨r,n,dx,l,k,v,e,h,j,q⟩=>?_;subst e;refine⟨.ref r,rfl,r,_,dx,_,.ref n,rfl,h.ob,(C.k 8).cl,bY (C.k 8) 0 rfl,rfl,?_⟩;refine⟨.ref r,rfl,r,_,dx,_,.int k,rfl,h.ob,(C.k 8).cl,bY (C.k 8) 1 rfl,rfl,?_⟩;refine .inl ⟨n,_,k,_,rfl,rfl,.inl h.ls,OE j,?_⟩;refine⟨.ref r,rfl,r,_,dx,_,.int k,rfl,h.ob,(C.k 8).cl,bY (C.k 8) 1 rfl,rfl,?_⟩;refine⟨_,_,rfl,rfl,dx,_,h.ob,by simp,?_⟩;exact⟨_,rfl,q⟩
abbrev gt(r:af)(H d:Hp):Prop:=∀b o,H b=some o->b≠r->d b=some o
inductive OF(G:Gx)(vs:List V)(H:Hp)(Q:VK)(E:XK):Prop|mk:∀r n dx l k c,vs=[.ref r]->jI G H r n dx l k->l[k]?=some (c:Nat)->k+1+c<=l.length->(∀b H',H b=none->H' b=some (.lst (((l.drop (k+1)).take c).map V.int))->gt r H H'->H' r=some (gH G dx (.ref n) ((k+1+c:Nat):Int))->Q (.ref b) H')->OF G vs H Q E
abbrev Fe(G:Gx):Sp:=λvs H Q E=>OF G vs H Q E
def OG:du ["self","length","row"] ["self"] (bx (inClass (top 98) 3)):=⟨rfl,rfl,rfl,by decide+kernel,rfl,by decide+kernel,by decide+kernel⟩
def H_(l:List Int)(a c:Nat):mf (l.map V.int) (some (a:Int)) (some ((a:Int)+(c:Int)))=((l.drop a).take c).map V.int:=by
 delta mf;rw[show(a+c)=((a+c:Nat):Int) from(Int.natCast_add a c).symm,HT.oC,HT.oC,bZ,G1,Bq];by_cases d:a<=l.length
 ·rw[rD d];by_cases g:a+c<=l.length;·simp_all
  ·rw[acz (by lia)];rw[mJ (by simp),mJ (by simp;lia)]
 ·rw[l4 (by simp;lia),l4 (by simp;lia)];simp
def H?{P:bA}{w:bB}{mg:ag->Option aj}{base:aZ}{G:Gx}{f:af}{fd:eQ}(C:Txt mg base G)(F:cU G.K "take_row" "Reader.take_row" (inClass (top 98) 3) f fd)(B:pr P w mg base G aS 8 95 "take_number" 1 ["self"] (Ap G)):bS P w G.K mg base aS 2 f fd ["self"] (Fe G):=by
 refine mG (N:=["self","length","row"]) (k:=1) F OG (λvs H Q E ⟨r,n,dx,l,k,c,e,_,_,_,_⟩=>by rw[e];rfl) _ (λJ A outer s H E L=>by have y:=OG.nd;exact bV (iQ (i:=1) y (ue (E:=E0) B (L.mono (by decide:1<=1)) aX (pv 0))) (bV (iQ (i:=2) y (uc (G:=G) (hf (G:=G) (pv 0)) (u8 (hf (G:=G) (pv 0))) (u8 (ma Cy (hf (G:=G) (pv 0)) (pv 1))))) (bV (Ox (G:=G) (pv 0) (pv 1)) (cK (ee (pv 2)))))) λvs H Q E ⟨r,n,dx,l,k,c,e,h,M,S,q⟩=>?_;subst e;have m:n≠r:=by intro z;have O:=h.ob;rcases h.ls with j|⟨o,j⟩<;>rw[z,O]at j<;>cases j
 refine⟨.ref r,rfl,r,dx,_,rfl,h.ob,rfl,?_⟩;refine⟨r,n,dx,l,k,c,rfl,h,M,?_⟩;refine⟨.ref r,rfl,r,_,dx,_,.ref n,rfl,aW,(C.k 8).cl,bY (C.k 8) 0 rfl,rfl,?_⟩;refine⟨.ref r,rfl,r,_,dx,_,.int ((k+1:Nat):Int),rfl,aW,(C.k 8).cl,bY (C.k 8) 1 rfl,rfl,?_⟩;refine⟨_,rfl,.ref r,rfl,r,_,dx,_,.int ((k+1:Nat):Int),rfl,aW,(C.k 8).cl,bY (C.k 8) 1 rfl,rfl,?_⟩;refine⟨.int c,rfl,((k+1:Nat):Int),(c:Int),rfl,rfl,_,rfl,n,l.map V.int,rfl,.inl ?_,λb v=>?_⟩
 ·rcases h.ls with j|⟨o,j⟩;·exact .inl (by rw[aD m];exact j)
  ·exact .inr ⟨o,by rw[aD m];exact j⟩
 ·have g:b≠r:=λz=>by rw[z,aW]at v;cases v
  have u:H b=none:=by rw[aD g]at v;exact v
  rw[H_];refine⟨.ref r,rfl,r,_,dx,_,.int ((k+1:Nat):Int),rfl,by rw[aD (bK g)];exact aW,(C.k 8).cl,bY (C.k 8) 1 rfl,rfl,?_⟩;refine⟨.int c,rfl,_,_,rfl,rfl,dx,_,by rw[aD (bK g)];exact aW,by simp,?_⟩;refine⟨_,rfl,q b _ u (by rw[aD g,aW]) (λd o e I=>?_) (by rw[aW];rfl)⟩;rw[aD I,aD (λz=>by rw[z]at e;rw[u]at e;cases e),aD I];exact e
section
variable{X:Cx}{G:Gx}{e a b c o tg iter:bp}{es:List bp}{pos pos' p apos:cj}{ta tb tv:TE}{t:TA}{x f:ag}{E:XK}
def H!{d:bp}{scope:fe}{i:Nat}{j:TE}{k:TI}(own:List (ag×Nat))(l:X.N.Nodup)(m:PI X tg iter k)(n:ll X.N X.env.scope scope own=true){g:TG}(q:∀(s:ar)(H:Hp)(C:af)(cl:List (ag×af))(h:List af),PG (X.db s H scope (ec scope cl C X.env) h) tg g)(he:∀(s:ar)(H:Hp)(C:af)(cl:List (ag×af))(h:List af),PE (X.db s H scope (ec scope cl C X.env) h) d j)(r: ~~~(X.calm=true)) (u:∀x,nW iter X.env x=pure x:=by intro _;rfl):PE X (.ListComp d [⟨tg,iter,[],0⟩] scope pos) (m7 k g sL j (own.map (·.2))):=JN r l m (vg n) q (λ_ _ _ _ _=>C6) he u
def OH(own:List (ag×Nat))(m:X.N.Nodup)(n:PI X tg iter q)(r:ll X.N X.env.scope scope own=true)(u:∀(s:ar)(H:Hp)(C:af)(cl:List (ag×af))(j:List af),PG (X.db s H scope (ec scope cl C X.env) j) tg g)(he:∀(s:ar)(H:Hp)(C:af)(cl:List (ag×af))(j:List af),PE (X.db s H scope (ec scope cl C X.env) j) d v)(w: ~~~(X.calm=true)) (z: ~~~(X.N[i]?=some y)) (k: ~~~(X.env.scope.names.lookup y=some .local)) (l: ~~~(fJ (.ListComp d [⟨tg,iter,[],0⟩] scope pos) (some (.Name y A)) h.line X.env=pure true)) (B:∀x,nW iter X.env x=pure x:=by intro _;rfl):PS X (.Assign [.Name y A] (.ListComp d [⟨tg,iter,[],0⟩] scope pos) h) (la (m7 q g sL v (own.map (·.2))) (iT i)):=C8 w m z k l n (vg r) u (λ_ _ _ _ _=>C6) he B
def OI(g:X.mg "range"=none)(h:PE X a ta)(i: ~~~(Gl X "range")) (j: ~~~(aB [a] X.env=(false,aP a X.env)::aB [] X.env)) (d: ~~~(aB [a] X.env=[(false,aP a X.env)])):PI X tg (.Call (.Name "range" p) [a] [] pos) (uZ (eW ta eu)):=Iz i g (aV h bG j) d
end
structure Aq(mg:ag->Option aj)(G:Gx)(D:af)(kvs:List (L2.Key×V)):Prop where
 mg:mg "CALL_SHAPES"=some (.ref D)
 val:∀(p:Int)(n k:Nat),js p=some (n,k)->∃tv,iq kvs (dW p)=some (.ref tv)/\∀H,cS G.K H tv [.int n,.int k]
inductive OJ(G:Gx)(D:af)(kvs:List (L2.Key×V))(vs:List V)(H:Hp)(Q:VK)(E:XK):Prop|mk:∀O r n dx l k p args rows rest,vs=[.ref r]->O r->((∀a,O a->H a≠none))->jI G H r n dx l k->Rd H D (.dK kvs)->l.length<=1000000->ya js (l.drop k)=some ((p::args)::rows,rest)->(∀v H' k',gt r H H'->l.drop k'=rest->k<k'->k'<=l.length->H' r=some (gH G dx (.ref n) (k':Nat))->Rep G O H' (fV p args rows) v->Q v H')->OJ G D kvs vs H Q E
abbrev OK(G:Gx)(D:af)(kvs:List (L2.Key×V)):Sp:=λvs H Q E=>OJ G D kvs vs H Q E
def I_(a b c:D):EA [a,b,c]=.ok [a,b,c]:=by rfl
def jI.ne(h:jI G H r n dx l k):n≠r:=by intro z;have g:=h.ob;rcases h.ls with d|⟨o,d⟩<;>rw[z,g]at d<;>nomatch d
def jI.step(h:jI G H r n dx l k)(g:gt r H i)(e:i r=some (gH G dx (.ref n) (k':Nat))):jI G i r n dx l k':=by
 refine⟨e,?_⟩;rcases h.ls with d|⟨o,d⟩;·exact .inl (g _ _ d h.ne)
 ·exact .inr ⟨o,g _ _ d h.ne⟩
def gt.trans(a:gt r H d)(b:gt r d g):gt r H g:=λc o e n=>b c o (a c o e n) n
def Ff:gt r H (upd H r o):=λb _ e n=>by rw[aD n];omega
def OL(h:H b=none):gt r H (upd H b o):=λc _ e _=>by rw[aD (λz=>by simp_all)];omega
def gt.some(k:gt r H d)(g:d r=.some o)(h:H a≠none):d a≠none:=by
 by_cases z:a=r;·lia
 ·cases e:H a with|none=>lia|some u=>rw[k a u e z];simp
def I?{k m kk:Nat}(y:σ[0]?=some (some (.ref r)))(j:σ[2]?=some (some (.ref tv)))(W:5<σ.length)(L:cS G.K H tv [.int m,.int kk])(h:jI G H r n dx l k)(Y:k+m<=l.length)(J:l.length<=1000000)(q:∀b d,H b=none->d b=some (.lst (((l.drop k).take m).map V.int))->gt r H d->d r=some (gH G dx (.ref n) ((k+m:Nat):Int))->Q (.ref b) d):m7 (uZ (eW (fA (p9 G.K) (d5 2) (tC (.int 0))) eu)) (iT 5) sL (p5 (G.cm 8) "take_number" (Ap G) [] E0 (d5 0) eu) [5] σ H Q:=by
 have M:(m:Int)<2^62:=by lia
 refine⟨.ref tv,j,.inr (.inl ⟨tv,_,0,.int m,rfl,rfl,L,rfl,m,rfl,by simp,M,λb v=>?_⟩)⟩;have g:b≠r:=λz=>by rw[z,h.ob]at v;cases v
 refine⟨λi w d=>i<=m/\w=m-i/\d b=some (.lst (((l.drop k).take i).map V.int))/\gt r H d/\d r=some (gH G dx (.ref n) ((k+i:Nat):Int)),⟨m,fK _,rfl,by rw[aW];rfl,OL v,by rw[aD (bK g)];exact h.ob⟩,λi w d z1=>?_⟩;obtain⟨Z,hw,N,A,B⟩:=z1;by_cases C:i=m;·subst C;exact .inl ⟨lU (rT i),q b d v N A B⟩
 ·right;refine⟨by show i<(m:Int).toNat;lia,λs=>i+1<=m/\s b=some (.lst (((l.drop k).take (i+1)).map V.int))/\gt r H s/\s r=some _,λs ⟨O,P,S,T⟩=>⟨m-(i+1),by lia,O,rfl,P,S,T⟩,λx s z2=>?_⟩;obtain⟨ex,ey⟩:=z2;subst ex;refine⟨by simp[wipe],?_⟩;have F:((wipe σ [5]).set 5 (some x))[0]?=some (some (.ref r)):=by simp[wipe,y]
  refine⟨.ref r,F,r,dx,_,rfl,B,rfl,?_⟩;have u:k+i<l.length:=by lia
  refine⟨r,n,dx,l,k+i,l[k+i],rfl,h.step A B,cI u,?_⟩;refine⟨_,by rw[aD g];omega,by rw[bZ,Bb,RH];have:=gG;lia,by lia,?_,?_,?_⟩
  ·rw[aW];have:(l.drop k).take (i+1)=(l.drop k).take i++[l[k+i]]:=by rw[GZ,List.getElem?_drop,cI u];rfl
   simp_all
  ·intro c o U nc;have I:c≠b:=λz=>by simp_all
   rw[aD I,aD nc];exact A c o U nc
  ·rw[aD (bK g),aW];rfl
def OM{l:List Int}(h:n9 (m+1) (l.drop q)=some (xs,t)):∃(c:Nat)(d:List (List Int)),l[q]?=some (c:Int)/\q+1+c<=l.length/\xs=(l.drop (q+1)).take c::d/\n9 m (l.drop (q+1+c))=some (d,t):=by
 unfold n9 at h;cases g:l.drop q with
 |nil=>rw[g]at h;trivial
 |cons c r=>
  have n:q<l.length:=by
   rcases Gi q l.length with z|z;·omega
   ·rw[l4 z]at g;contradiction
  haveI j:=lR n;rw[g]at j;have s:=(By j).2;rw[g]at h;delta PyFlat.row at h;dsimp only at h;by_cases k:0<=c/\c.toNat<=r.length
  ·rw[ax k]at h;dsimp only at h;cases i:n9 m (r.drop c.toNat)with
   |none=>simp_all
   |some z=>
    rw[i]at h;obtain⟨d,t'⟩:=z;have e:=eR h;haveI u:=bz fL e;have v:=bz gj e;subst u v;refine⟨c.toNat,d,?_,?_,?_,?_⟩;·grind
    ·grind
    ·rw[s]
    simp_all
  ·rw[ay k]at h;contradiction
inductive Fg(G:Gx)(O:af->Prop)(r n dx b:af)(l:List Int)(k kk:Nat)(xs:List (List Int))(t:List Int)(H:Hp)(i:Nat)(H':Hp):Prop|mk:∀(k':Nat)(acc:List V)(ys:List (List Int)),i<=kk->k<=k'->k'<=l.length->n9 (kk-i) (l.drop k')=some (ys,t)->xs=xs.take i++ys->xs.length=i+ys.length->H' b=some (.lst acc)->acc.length=i->aU G (λa=>O a\/a=b) H' ((xs.take i).map aO) acc->gt r H H'->H' r=some (gH G dx (.ref n) (k':Nat))->Fg G O r n dx b l k kk xs t H i H'
def I!{G:Gx}{O:af->Prop}{σ:L2.St}{H:Hp}{Q:VK}{r n dx tv:af}{l:List Int}{k kk:Nat}{mm:Int}{xs:List (List Int)}{t:List Int}(qs:σ[0]?=some (some (.ref r)))(N:σ[2]?=some (some (.ref tv)))(h5:5<σ.length)(hn:cS G.K H tv [.int mm,.int kk])(zE:kk<=6)(h:jI G H r n dx l k)(hO:O r)(P:∀a,O a->H a≠none)(aev:l.length<=1000000)(hx:n9 kk (l.drop k)=some (xs,t))(lC:k<=l.length)(q:∀v C k',gt r H C->k<=k'->k'<=l.length->l.drop k'=t->C r=some (gH G dx (.ref n) (k':Nat))->Rep G O C (.lst (xs.map aO)) v->Q v C):m7 (uZ (eW (fA (p9 G.K) (d5 2) (tC (.int 1))) eu)) (iT 5) sL (p5 (G.cm 8) "take_row" (Fe G) [] E0 (d5 0) eu) [5] σ H Q:=by
 refine⟨.ref tv,N,.inr (.inl ⟨tv,_,1,.int kk,rfl,rfl,hn,rfl,kk,rfl,by omega,by omega,λb S=>?_⟩)⟩;have J:b≠r:=λz=>by rw[z,h.ob]at S;cases S
 have wY:¬O b:=λz=>P b z S;refine⟨λi w C=>w=kk-i/\Fg G O r n dx b l k kk xs t H i C,⟨kk,rfl,k,[],xs,fK _,bR _,lC,hx,rfl,by simp,aW,rfl,rfl,OL S,by rw[aD (bK J)];exact h.ob⟩,λi w C z=>?_⟩;obtain⟨hw,k',acc,ys,hi,J_,J',j,A,T,Y,F,s,Z,M⟩:=z;by_cases J?:i=kk
 ·subst J?;rw[RY]at j;have U:ys=[]/\l.drop k'=t:=by have:=eR j;exact⟨(bz fL this).symm,bz gj this⟩
  rw[U.1,nY]at A;rw[<-A]at s;refine .inl ⟨lU (rT i),q (.ref b) C k' Z J_ J' U.2 M ⟨b,acc,rfl,.inl Y,wY,s.mono (Kp.of (aG.refl _)) λa z=>.inl (.inl z)⟩⟩
 ·right;haveI f6:i<kk:=by omega
  obtain⟨c,J!,g1,g2,g3,g4⟩:=OM (m:=kk-(i+1)) (by rw[show kk-(i+1)+1=kk-i by omega];exact j);subst g3;refine⟨by show i<(kk:Int).toNat;rw[rT];omega,λH2=>Fg G O r n dx b l k kk xs t H (i+1) H2,λH2 z=>⟨kk-(i+1),by omega,rfl,z⟩,λx H2 ⟨ex,ey⟩=>?_⟩;subst ex;refine⟨by simp[wipe],?_⟩;have K_:((wipe σ [5]).set 5 (some x))[0]?=some (some (.ref r)):=by simp[wipe,qs]
  refine⟨.ref r,K_,r,dx,_,rfl,M,rfl,?_⟩;refine⟨r,n,dx,l,k',c,rfl,h.step Z M,g1,g2,λb2 H3 u f1 f2 f3=>?_⟩;have I:b2≠b:=λz=>by rw[z,Y]at u;cases u
  have aew:b2≠r:=λz=>by rw[z,M]at u;cases u
  have K':¬(O b2\/b2=b):=λz=>by
   rcases z with z|z;·exact(Z.some M (P b2 z)) u
   ·exact I z
  haveI y:xs.take (i+1)=xs.take i++[(l.drop (k'+1)).take c]:=by
   have W:xs[i]?=some ((l.drop (k'+1)).take c):=by rw[A,RG (by rw[Bb];omega)];rw[Bb,rD (by simp at T;omega),RY];rfl
   rw[GZ,W];rfl
  have Ar:Kp (λa=>O a\/a=b) H2 (upd H3 b (.lst (acc++[V.ref b2]))):=λd o B g=>by
   have L:d≠b:=by
    rcases g with g|g;·exactλz=>g (.inr z)
    ·rintro rfl;rw[Y]at B;cases B;rcases g with⟨_,g⟩|⟨_,_,g⟩<;>cases g
   have ni:d≠r:=by
    rcases g with g|g;·exactλz=>g (.inl (z▸hO))
    ·rintro rfl;rw[M]at B;cases B;rcases g with⟨_,g⟩|⟨_,_,g⟩<;>cases g
   rw[aD L];exact f2 d o B ni
  refine⟨acc,f2 b _ Y J,by rw[F];have:bj=16777216:=gG;omega,k'+1+c,acc++[V.ref b2],J!,by omega,by omega,g2,g4,?_,?_,aW,by simp[F],?_,?_,?_⟩;·rw[y,RT];exact A
  ·rw[T];simp;omega
  ·rw[y,lZ];refine aU.app (s.mono Ar λa z=>.inl z) (aU.one ⟨b2,_,rfl,.inl (by rw[aD I];exact f1),K',aU.sN _⟩)
  ·intro d o B nd;have L:d≠b:=λz=>by rw[z,S]at B;cases B
   rw[aD L];exact f2 d o (Z d o B nd) nd
  ·rw[aD (bK J)];exact f3
def K?{p:Int}{m kk:Nat}(h:js p=some (m,kk)):m<=2/\kk<=6:=by
 delta js at h;repeat' split at h
 all_goals grind
def ON{l:List Int}{rest:List Int}(h:ya js (l.drop k)=some ((p::args)::d,rest)):∃m kk,l[k]?=some p/\js p=some (m,kk)/\k+1+m<=l.length/\args=(l.drop (k+1)).take m/\n9 kk (l.drop (k+1+m))=some (d,rest):=by
 delta ya at h;cases g:l.drop k with
 |nil=>simp_all
 |cons c r=>
  have n:k<l.length:=by
   rcases Gi k l.length with z|z;·exact z
   ·rw[l4 z]at g;contradiction
  haveI i:=lR n;rw[g]at i;have B:=(By i).1;have C:=(By i).2;rw[g]at h;dsimp only at h;cases j:js c with
  |none=>simp_all
  |some z=>
   obtain⟨m,kk⟩:=z;rw[j]at h;dsimp only at h;by_cases q:r.length<m;·lia
   ·rw[ay q]at h;cases s:n9 kk (r.drop m)with
    |none=>simp_all
    |some z=>
     rw[s]at h;have e:=eR h;have u:=bz fL e;have v:=bz gj e;obtain⟨w,y⟩:=By u;obtain⟨A,F⟩:=By w;subst A y v;refine⟨m,kk,by simp_all,j,?_,by simp_all,?_⟩;·grind
     simp_all
def OP:du ["self","number","shape","arguments","rows","turn"] ["self"] (bx (inClass (top 98) 4)):=⟨rfl,rfl,rfl,by decide+kernel,rfl,by decide+kernel,by decide+kernel⟩
def K!{P:bA}{w:bB}{mg:ag->Option aj}{base:aZ}{G:Gx}{f:af}{fd:eQ}{D:af}{kvs:List (L2.Key×V)}(C:Txt mg base G)(Sh:Aq mg G D kvs)(F:cU G.K "take_call" "Reader.take_call" (inClass (top 98) 4) f fd)(Bn:pr P w mg base G aS 8 95 "take_number" 1 ["self"] (Ap G))(Br:pr P w mg base G aS 8 96 "take_row" 2 ["self"] (Fe G))(Bc:qV P w mg base G aS 7 92 "Call" 1 ["self","number","arguments","rows"] (oM G 7 3 EA)):bS P w G.K mg base aS 3 f fd ["self"] (OK G D kvs):=by
 refine mG (N:=["self","number","shape","arguments","rows","turn"]) (k:=2) F OP (λvs H Q E ⟨O,r,n,dx,l,k,p,args,g,rest,e,_,_,_,_,_,_,_⟩=>by rw[e];rfl) _ (λgw A outer s H E Y=>by have W:=OP.nd;exact bV (iQ (i:=1) W (ue (E:=E0) Bn (Y.mono (by decide:1<=2)) aX (pv 0))) (bV (iQ (i:=2) W (yU (fB Y) (uS (v:=.ref D) (by rfl) Sh.mg rfl) (pv 1) (by intro _ _;rfl))) (bV (OH (i:=3) [("turn",5)] W (OI (C.b 3) (fQ (G:=G) (pv 2) fk)) (Ek (N:=["self","number","shape","arguments","rows","turn"]) (sc:=bx (inClass (top 98) 4)) (by decide+kernel)) (λs H Cc cl fp=>oy (i:=5) W rfl (by first|exact cy rfl|exact bM rfl)) (λs H Cc cl fp=>ue (E:=E0) Bn (Y.mono (by decide:1<=2)) aX (pv 0))) (bV (OH (i:=4) [("turn",5)] W (OI (C.b 3) (fQ (G:=G) (pv 2) fk)) (Ek (N:=["self","number","shape","arguments","rows","turn"]) (sc:=bx (inClass (top 98) 4)) (by decide+kernel)) (λs H Cc cl fp=>oy (i:=5) W rfl (by first|exact cy rfl|exact bM rfl)) (λs H Cc cl fp=>ue (E:=E0) Br (Y.mono (by decide:2<=2)) aX (pv 0))) (cK (ee (Ao (E:=E0) Bc (Y.mono (by decide:2<=2)) aX (aV (pv 1) (aV (pv 3) (aV (pv 4) bG)))))))))) λvs H Q E ⟨O,r,n,dx,l,k,p,args,g,rest,e,hO,Z,h,hD,hl,cA,q⟩=>?_;subst e;obtain⟨m,kk,hp,hs,OQ,J,L⟩:=ON cA;obtain⟨hm2,L_⟩:=K? hs;obtain⟨tv,L',OR⟩:=Sh.val p m kk hs;have Fh:D≠r:=by intro z;have h1:=h.ob;rcases hD with M|⟨o,M⟩<;>rw[z,h1]at M<;>cases M
 refine⟨.ref r,rfl,r,dx,_,rfl,h.ob,rfl,r,n,dx,l,k,p,rfl,h,hp,?_⟩;have L?:Rd (upd H r (gH G dx (.ref n) ((k+1:Nat):Int))) D (.dK kvs):=by
  rcases hD with M|⟨o,M⟩;·exact .inl (by rw[aD Fh];exact M)
  ·exact .inr ⟨o,by rw[aD Fh];exact M⟩
 refine⟨.int p,rfl,D,.ref tv,rfl,.inl ⟨kvs,dW p,L?,rfl,L'.symm⟩,?_⟩;have R1:jI G (upd H r (gH G dx (.ref n) ((k+1:Nat):Int))) r n dx l (k+1):=h.step Ff aW;dsimp only[iT,ow,la];refine I? (σ:=[some (.ref r),some (.int p),some (.ref tv),none,none,none]) (l:=l) (k:=k+1) (m:=m) (kk:=kk) (n:=n) (dx:=dx) rfl rfl (by show 5<6;lia) (OR _) R1 OQ (by lia) λb H2 hb f1 f2 f3=>?_;have Ar:gt r H H2:=Ff.trans f2;have R2:jI G H2 r n dx l (k+1+m):=R1.step f2 f3;have S:b≠r:=λz=>by rw[z,aW]at hb;cases hb
 have L!:H b=none:=by rw[aD S]at hb;exact hb
 have wY:¬O b:=λz=>Z b z L!;have I:∀a,O a->H2 a≠none:=λa z=>Ar.some f3 (Z a z);refine I! (σ:=[some (.ref r),some (.int p),some (.ref tv),some (.ref b),none,none]) (O:=O) (l:=l) (k:=k+1+m) (kk:=kk) (mm:=(m:Int)) (n:=n) (dx:=dx) (xs:=g) (t:=rest) rfl rfl (by show 5<6;lia) (OR _) L_ R2 hO I (by lia) L OQ λv H3 k' g1 g2 g6 g3 g4 g5=>?_;have j:∀a,O a->H3 a≠none:=λa z=>g1.some g4 (I a z);refine⟨.int p,rfl,.ref b,rfl,v,rfl,λx u T As sK=>?_⟩;have kx:aG H3 (upd (upd H3 u (.own x)) x (.ins (G.cm 7) u [])):=λd o U=>by rw[aD (λz=>by rw[z,T]at U;cases U),aD (λz=>by rw[z,As]at U;cases U)];exact U
 have OS:¬O x:=λz=>j x z T;have y:Rep G (λa=>O a\/a=x) (upd (upd H3 u (.own x)) x (.ins (G.cm 7) u [])) (aO args) (.ref b):=by
  have M_:b≠x:=λz=>by rw[<-z,g1 b _ f1 S]at T;cases T
  exact⟨b,_,rfl,.inl (kx b _ (g1 b _ f1 S)),λz=>z.elim wY M_,by rw[J];exact aU.sN _⟩
 have B:Rep G (λa=>O a\/a=x) (upd (upd H3 u (.own x)) x (.ins (G.cm 7) u [])) (.lst (g.map aO)) v:=g5.mono (Kp.of kx) λa z=>z.elim .inl λz=>.inr (z▸T);refine⟨λa=>O a\/a=x,[.int p,aO args,.lst (g.map aO)],x,u,[.int p,.ref b,v],rfl,aW,.inr rfl,⟨_,_,rfl,rfl,_,_,rfl,y,_,_,rfl,B,rfl⟩,λa z=>?_,rfl,?_⟩
 ·rcases z with z|z
  ·intro w;by_cases OT:a=x;·exact OS (OT▸z)
   ·rw[aD OT]at w;by_cases OU:a=u;·exact j u (OU▸z) As
    ·rw[aD OU]at w;exact j a z w
  ·rw[z,aW];simp
 ·rw[I_];intro v' H4 us oB ev e4 M' r4 k4;refine⟨ev,?_⟩;have M?:gt r H H4:=λd o U nd=>by have h3:=g1 d o (Ar d o U nd) nd;refine k4 d o (kx d o h3) λz=>by rw[z,T]at h3;cases h3
  have Fi:H4 r=some (gH G dx (.ref n) (k':Nat)):=k4 r _ (kx r _ g4) λz=>by rw[z,T]at g4;cases g4
  refine q (.ref x) H4 k' M? g3 (by lia) g6 Fi ⟨x,oB,us,rfl,e4,M',OS,r4.mono (Kp.of (aG.refl _)) λa z=>.inl (.inl z)⟩
def j9(B:bh P w mg base G a t name k ps F):ft P w mg base G a t name k ps (gx G ps.length F):=⟨B.ok,B.mg,B.kp⟩
section
variable{X:Cx}{G:Gx}{pos np oG:cj}{x:ag}{E:XK}
def ug(R:Raises X E)(a:G.xv c=.ref C)(O:OwnCls x C [.type "Exception",.type "BaseException",.type "object"] "Exception.__new__" X.mg X.base)(b: ~~~(Gl X x)) (d: ~~~(X.calm=true)) (e:((x==("__debug__":ag))=false)⁻¹):PS X (.Raise (some (.Call (.Name x np) [] [] oG)) none pos) (λ_ _ H=>E (G.xv c) none H):=by rw[a];exact K4 R d O b e
end
@[reducible]def nV(n:Nat):V:=.int n
abbrev wZ(G:Gx)(dx:af)(f:Nat)(c:af)(st a:Nat)(b d:Bool):HO:=.ins (G.cm 6) dx [("form",nV f),("come",.ref c),("settled",nV st),("told",nV a),("too_much",.bl b),("ended",.bl d)]
structure d8(G:Gx)(H:Hp)(p c dx:af)(f:Nat)(dA:List Nat)(st told:Nat)(tm en:Bool):Prop where
 ob:H p=some (wZ G dx f c st told tm en)
 ls:H c=some (.lst (dA.map nV))
def d8.ne{st a:Nat}(h:d8 G H p c dx f b st a e g):c≠p:=λz=>by have d:=h.ls;rw[z,h.ob]at d;nomatch d
abbrev eP(p c:af)(H a:Hp):Prop:=∀b o,H b=some o->b≠p->b≠c->a b=some o
def eP.refl(p c:af)(H:Hp):eP p c H H:=λ_ _ e _ _=>e
def eP.trans(a:eP p c H h)(b:eP p c h i):eP p c H i:=λd o e f g=>b d o (a d o e f g) f g
def eP.same(s:aG H a):eP p c H a:=λd o e _ _=>s d o e
def eP.kp(k:eP p c H l)(m:O p)(n:O c){st b:Nat}(h:d8 G H p c dx f j st b t v):Kp O H l:=λd o e z=>by
 have i:∀u,H d=some u->oH u->d≠p/\d≠c:=λu g a=>by
  refine⟨λq=>?_,λq=>?_⟩;·rw[q,h.ob]at g;cases g;rcases a with⟨_,a⟩|⟨_,_,a⟩<;>contradiction
  ·rw[q,h.ls]at g;cases g;rcases a with⟨_,a⟩|⟨_,_,a⟩<;>contradiction
 rcases z with z|z;·exact k d o e (λq=>z (q▸m)) λq=>z (q▸n)
 ·obtain⟨r,s⟩:=i o e z;exact k d o e r s
inductive OV(G:Gx)(vs:List V)(H:Hp)(Q:VK)(E:XK):Prop|mk:∀(x dx:af)(f:Nat),vs=[.ref x,nV f]->H x=some (.ins (G.cm 6) dx [])->(∀c H',H c=none->d8 G H' x c dx f [] 0 0 false false->(∀b o,H b=some o->b≠x->H' b=some o)->Q .ah H')->OV G vs H Q E
abbrev OW(G:Gx):Sp:=λvs H Q E=>OV G vs H Q E
def M!:du ["self","form"] ["self","form"] (bx (inClass (top 77) 0)):=⟨rfl,rfl,rfl,by trivial,rfl,by trivial,by trivial⟩
def N_{P:bA}{w:bB}{mg:ag->Option aj}{base:aZ}{G:Gx}{f:af}{h:eQ}(C:Txt mg base G)(F:cU G.K "__init__" "Pieces.__init__" (inClass (top 77) 0) f h):bS P w G.K mg base aS 1 f h ["self","form"] (OW G):=by
 refine mG (N:=["self","form"]) (k:=0) F M! (λvs H Q E ⟨x,dx,f,e,_,_⟩=>by rw[e];rfl) _ (λi A outer s H E l=>bV (ja (G:=G) (pv 0) (pv 1)) (bV (ja (G:=G) (pv 0) (lg bG)) (bV (ja (G:=G) (pv 0) fk) (bV (ja (G:=G) (pv 0) fk) (bV (ja (G:=G) (pv 0) uR) (cK (ja (G:=G) (pv 0) uR))))))) λvs H Q E ⟨x,dx,f,e,j,q⟩=>?_;subst e;refine⟨nV f,rfl,_,rfl,x,_,dx,[],rfl,j,(C.k 6).cl,bY (C.k 6) 0 rfl,by simp,?_⟩;refine⟨by simp,λc g=>?_⟩;have a:c≠x:=λz=>by rw[z,aW]at g;contradiction
 have d:H c=none:=by rw[aD a]at g;exact g
 refine⟨_,rfl,x,_,dx,_,rfl,by rw[aD (bK a)];exact aW,(C.k 6).cl,bY (C.k 6) 1 rfl,(by show(1:Nat)<1000;lia),?_⟩;refine⟨_,rfl,x,_,dx,_,rfl,aW,(C.k 6).cl,bY (C.k 6) 2 rfl,(by show(2:Nat)<1000;lia),?_⟩;refine⟨_,rfl,x,_,dx,_,rfl,aW,(C.k 6).cl,bY (C.k 6) 3 rfl,(by show(3:Nat)<1000;lia),?_⟩;refine⟨_,rfl,x,_,dx,_,rfl,aW,(C.k 6).cl,bY (C.k 6) 4 rfl,(by show(4:Nat)<1000;lia),?_⟩;refine⟨_,rfl,x,_,dx,_,rfl,aW,(C.k 6).cl,bY (C.k 6) 5 rfl,(by show(5:Nat)<1000;lia),?_⟩;rw[oj,oj,oj,oj];refine q c _ d ⟨aW,by rw[aD a,aW];rfl⟩ λb o e n=>?_;rw[aD n,aD (λz=>by rw[z,d]at e;nomatch e),aD n];exact e
inductive OX(G:Gx)(vs:List V)(H:Hp)(Q:VK)(E:XK):Prop|mk:∀p c dx f dA st told tm en,vs=[.ref p]->d8 G H p c dx f dA st told tm en->(if en=true then E (G.xv 5) none H else if tm=true then E (G.xv 3) none H else Q .ah H)->OX G vs H Q E
abbrev Fj(G:Gx):Sp:=λvs H Q E=>OX G vs H Q E
def N':du ["pieces"] ["pieces"] (bx (top 78)):=⟨rfl,rfl,rfl,by simp,rfl,by trivial,by trivial⟩
def N?{P:bA}{w:bB}{mg:ag->Option aj}{base:aZ}{G:Gx}{f:af}{j:eQ}(C:Txt mg base G)(F:cU G.K "check_going_on" "check_going_on" (top 78) f j):bS P w G.K mg base (bH P w) 1 f j ["pieces"] (Fj G):=by refine lO (N:=["pieces"]) (k:=0) F N' (λvs H Q E ⟨p,c,dx,f,a,st,b,d,g,e,_,_⟩=>by rw[e];rfl) _ (λi A outer s H E o=>by haveI l:=kH (P:=P) (w:=w) (K:=G.K) (mg:=mg) (base:=base) (N:=["pieces"]) (qual:="check_going_on") (scope:=bx (top 78)) (f:=f) (cd:=i) (A:=A) (outer:=outer) (s:=s) (H:=H) (E:=E);obtain⟨_,m⟩:=(C.x 5);obtain⟨_,n⟩:=(C.x 3);exact bV (ip (uT (hf (G:=G) (pv 0))) (cK (ug (G:=G) l m.1 m.2)) io) (cK (ip (uT (hf (G:=G) (pv 0))) (cK (ug (G:=G) l n.1 n.2)) io))) λvs H Q E ⟨p,c,dx,f,a,st,b,d,g,e,h,q⟩=>?_;subst e;refine⟨.ref p,rfl,p,_,dx,_,.bl g,rfl,h.ob,(C.k 6).cl,bY (C.k 6) 5 rfl,rfl,g,rfl,?_⟩;cases g with|true=>exact q|false=>refine⟨.ref p,rfl,p,_,dx,_,.bl d,rfl,h.ob,(C.k 6).cl,bY (C.k 6) 4 rfl,rfl,d,rfl,?_⟩;cases d with|true=>exact q|false=>exact q
inductive OY(G:Gx)(vs:List V)(H:Hp)(Q:VK)(E:XK):Prop|mk:∀O t tv p c dx f dA st told en n,vs=[tv,.ref p,nV n]->Good t->O p->O c->((∀a,O a->H a≠none))->Rep G O H (aq t) tv->d8 G H p c dx f dA st told false en->dA.length<=100000->st<=dA.length->(∀H',eP p c H H'->if 16<dA.length+1-(if lS t f n=true then dA.length else st)then d8 G H' p c dx f (dA++[n]) (if lS t f n=true then dA.length else st) told true en->E (G.xv 3) none H' else d8 G H' p c dx f (dA++[n]) (if lS t f n=true then dA.length else st) told false en->Q .ah H')->OY G vs H Q E
abbrev OZ(G:Gx):Sp:=λvs H Q E=>OY G vs H Q E
def N!:du ["tables","pieces","code"] ["tables","pieces","code"] (bx (top 81)):=⟨rfl,rfl,rfl,by trivial,rfl,by trivial,by trivial⟩
def O_{P:bA}{w:bB}{mg:ag->Option aj}{base:aZ}{G:Gx}{f:af}{fd:eQ}(C:Txt mg base G)(F:cU G.K "take_code" "take_code" (top 81) f fd)(r:bh P w mg base G aS 39 "is_safe" 4 ["tables","form","code"] Er):bS P w G.K mg base (bH P w) 5 f fd ["tables","pieces","code"] (OZ G):=by
 refine lO (N:=["tables","pieces","code"]) (k:=4) F N! (λvs H Q E ⟨O,t,tv,p,c,dx,f,a,st,m,y,n,e,_,_,_,_,_,_,_,_,_⟩=>by rw[e];rfl) _ (λgw A outer s H E hr=>by haveI Rx:=kH (P:=P) (w:=w) (K:=G.K) (mg:=mg) (base:=base) (N:=["tables","pieces","code"]) (qual:="take_code") (scope:=bx (top 81)) (f:=f) (cd:=gw) (A:=A) (outer:=outer) (s:=s) (H:=H) (E:=E);obtain⟨_,X3⟩:=(C.x 3);exact bV (ip (uT (cA (E:=E0) (j9 r) (hr.mono (by decide:4<=4)) aX (aV (pv 0) (aV (hf (G:=G) (pv 1)) (aV (pv 2) bG))))) (cK (ja (G:=G) (pv 1) (hlen (G:=G) (C.b 0) (hf (G:=G) (pv 1))))) io) (bV (Ow (G:=G) (hf (G:=G) (pv 1)) (pv 2)) (cK (ip (lb sE (ma IG (hlen (G:=G) (C.b 0) (hf (G:=G) (pv 1))) (hf (G:=G) (pv 1))) (jb (C.c 20)) (eV _)) (bV (ja (G:=G) (pv 1) uR) (cK (ug (G:=G) Rx X3.1 X3.2))) io)))) λvs H Q E ⟨O,t,tv,p,c,dx,f,a,st,m,y,n,e,g,hp,hc,bI,ht,h,hl,oX,q⟩=>?_;subst e;haveI z:=k_ t g.toC5 f n;refine⟨tv,rfl,.ref p,rfl,p,_,dx,_,nV f,rfl,h.ob,(C.k 6).cl,bY (C.k 6) 0 rfl,rfl,nV n,rfl,?_⟩;refine⟨O,[aq t,nD f,nD n],⟨_,_,rfl,ht,_,_,rfl,rfl,_,_,rfl,rfl,rfl⟩,bI,rfl,?_⟩;rw[z];intro v H1 W rv;cases rv;refine⟨lS t f n,rfl,?_⟩;haveI L:d8 G H1 p c dx f a st m false y:=⟨W _ _ h.ob,W _ _ h.ls⟩;haveI B:=h.ne;haveI rest:∀(l:Nat) (I:Hp),l<=a.length->eP p c H I->d8 G I p c dx f a l m false y->(∀u,eP p c H u->if 16<a.length+1-l then d8 G u p c dx f (a++[n]) l m true y->E (G.xv 3) none u else d8 G u p c dx f (a++[n]) l m false y->Q .ah u)->ow (mX (sJ G.K "list" vc (md G.K (d5 1) "come") (eW (d5 2) eu))) (Ck (sF (fA (hP λi j=>.bl (decide (j<i))) (fA (hP λi j=>.int (i-j)) (li (vt G.K) (eW (md G.K (d5 1) "come") eu)) (md G.K (d5 1) "settled")) (tC (.int 16)))) (ow (yD G.K (d5 1) (tC (.bl true)) "too_much") (λ_ _ H=>E (G.xv 3) none H)) uU) {nx:=λ_ u=>Q .ah u,rt:=Q} (L2.start ["tables","pieces","code"] [tv,.ref p,nV n]) I:=by
  intro l I aex k2 Y q2;refine⟨.ref p,rfl,p,_,dx,_,.ref c,rfl,Y.ob,(C.k 6).cl,bY (C.k 6) 1 rfl,rfl,.inl ⟨rfl,_,.inl (.inl Y.ls)⟩,nV n,rfl,?_⟩;refine⟨c,_,nV n,rfl,rfl,Y.ls,by rw[bZ];haveI:bj=16777216:=gG;omega,?_⟩;haveI e3:(a.map nV++[nV n])=(a++[n]).map nV:=by simp
  rw[e3];haveI At:p≠c:=bK B;haveI M:d8 G (upd I c (.lst ((a++[n]).map nV))) p c dx f (a++[n]) l m false y:=⟨by rw[aD At];exact Y.ob,aW⟩;haveI k3:eP p c H (upd I c (.lst ((a++[n]).map nV))):=λd o S J T=>by rw[aD T];exact k2 d o S J T
  refine⟨.ref p,rfl,p,_,dx,_,.ref c,rfl,M.ob,(C.k 6).cl,bY (C.k 6) 1 rfl,rfl,c,_,rfl,.inl (.inl (.inl M.ls)),?_⟩;refine⟨.ref p,rfl,p,_,dx,_,nV l,rfl,M.ob,(C.k 6).cl,bY (C.k 6) 2 rfl,rfl,?_⟩;refine⟨_,_,rfl,rfl,_,_,rfl,rfl,_,rfl,?_⟩;haveI U:decide ((16:Int)<(((a++[n]).map nV).length:Nat)-(l:Int))=decide (16<a.length+1-l):=jq.mpr (by rw[bZ,kg];simp;omega);haveI hq:=q2;try dsimp only
  rw[U];by_cases Z:16<a.length+1-l
  ·rw[gT Z,ax rfl];refine⟨.ref p,rfl,p,_,dx,_,rfl,M.ob,(C.k 6).cl,bY (C.k 6) 4 rfl,(by show(6:Nat)<1000;omega),?_⟩;haveI k4:eP p c H (upd (upd I c (.lst ((a++[n]).map nV))) p (wZ G dx f c l m true y)):=λd o S J T=>by rw[aD J];exact k3 d o S J T
   haveI:=hq _ k4;rw[ax Z]at this;exact this ⟨aW,by rw[aD B];exact aW⟩
  ·rw[iC Z,ay bE];haveI:=hq _ k3;rw[ay Z]at this;exact this M
 cases hs:lS t f n with|true=>rw[hs]at q;refine⟨.ref p,rfl,p,_,dx,_,.ref c,rfl,L.ob,(C.k 6).cl,bY (C.k 6) 1 rfl,rfl,c,_,rfl,.inl (.inl (.inl L.ls)),?_⟩;refine⟨.ref p,rfl,p,_,dx,_,rfl,L.ob,(C.k 6).cl,bY (C.k 6) 2 rfl,(by show(6:Nat)<1000;omega),?_⟩;refine rest a.length _ (bR _) (λd o S J T=>by rw[aD J];exact W d o S) ⟨?_,by rw[aD B];exact L.ls⟩ (λu k'=>q u k');rw[aW,bZ];rfl|false=>rw[hs]at q;exact rest st H1 oX (eP.same W) L (λu k'=>q u k')
def O?(l:List Nat)(k:Nat):mf (l.map nV) none (some (k:Int))=(l.take k).map nV:=by delta mf;rw[HT.oC,HT.yI];simp
def O!(l:List Nat)(a:Nat):mf (l.map nV) (some (a:Int)) none=(l.drop a).map nV:=by
 delta mf;rw[HT.oC,HT.yI,bZ,Bq];by_cases b:a<=l.length;·rw[rD b,mJ (by simp)]
 ·rw[l4 (by simp;lia),l4 (by simp;lia)];simp
def Fk(G:Gx)(O:af->Prop)(H:Hp)(l:List Nat):aU G O H (l.map nD) (l.map nV):=by have:=aU.sN (G:=G) (O:=O) (H:=H) (l.map λn:Nat=>n);rw[fZ,fZ]at this;exact this
def Au(h:Rep G O H (al l) v):∃a,v=.ref a/\Rd H a (.lst (l.map nV))/\¬O a:=by
 obtain⟨a,vs,e,r,n,b⟩:=h;have:aU G O H ((l.map λn:Nat=>(n:Int)).map D.int) vs:=by rw[fZ];exact b
 have:=aU.ints this;rw[fZ]at this;subst this;exact⟨a,e,r,n⟩
inductive O0(G:Gx)(vs:List V)(H:Hp)(Q:VK)(E:XK):Prop|mk:∀O t tv p c dx f dA st told tm en k,vs=[tv,.ref p,nV k]->Good t->O p->O c->((∀a,O a->H a≠none))->Rep G O H (aq t) tv->d8 G H p c dx f dA st told tm en->dA.length<=1000->(∀v H',eP p c H H'->d8 G H' p c dx f dA st (cC t f (dA.take k)).length tm en->Rep G O H' (al ((cC t f (dA.take k)).drop told)) v->Q v H')->O0 G vs H Q E
abbrev Fl(G:Gx):Sp:=λvs H Q E=>O0 G vs H Q E
def O1:du ["tables","pieces","count","codes","fresh"] ["tables","pieces","count"] (bx (top 82)):=⟨rfl,rfl,rfl,by decide+kernel,rfl,by decide+kernel,by decide+kernel⟩
def P_{P:bA}{w:bB}{mg:ag->Option aj}{base:aZ}{G:Gx}{f:af}{X:eQ}(C:Txt mg base G)(F:cU G.K "put_out" "put_out" (top 82) f X)(m:bh P w mg base G aS 26 "form_of" 5 ["tables","form","text"] iM):bS P w G.K mg base aS 6 f X ["tables","pieces","count"] (Fl G):=by
 refine mG (N:=["tables","pieces","count","codes","fresh"]) (k:=5) F O1 (λvs H Q E ⟨O,t,Y,p,c,dx,f,j,st,l,Z,en,k,e,_,_,_,_,_,_,_,_⟩=>by rw[e];rfl) _ (λgw A outer s H E hr=>by have hN:=O1.nd;exact bV (iQ (i:=3) hN (cA (E:=E0) (j9 m) (hr.mono (by decide:5<=5)) aX (aV (pv 0) (aV (hf (G:=G) (pv 1)) (aV (uc (G:=G) (hf (G:=G) (pv 1)) CJ (u8 (pv 2))) bG))))) (bV (iQ (i:=4) hN (uc (G:=G) (pv 3) (u8 (hf (G:=G) (pv 1))) CJ)) (bV (ja (G:=G) (pv 1) (hlen (G:=G) (C.b 0) (pv 3))) (cK (ee (pv 4)))))) λvs H Q E ⟨O,t,Y,p,c,dx,f,j,st,l,Z,en,k,e,g,hp,hc,u,ht,h,hl,q⟩=>?_;subst e;have S:=h.ne;haveI x:=qM t g.toC5 f (j.take k) (by rw[Bb];lia);generalize cC t f (j.take k)=L at*
 refine⟨Y,rfl,.ref p,rfl,p,_,dx,_,nV f,rfl,h.ob,(C.k 6).cl,bY (C.k 6) 0 rfl,rfl,?_⟩;refine⟨.ref p,rfl,p,_,dx,_,.ref c,rfl,h.ob,(C.k 6).cl,bY (C.k 6) 1 rfl,rfl,nV k,rfl,(k:Int),rfl,c,_,rfl,.inl (.inl h.ls),λb hb=>?_⟩;rw[O?];have T:¬O b:=λz=>u b z hb;have U:aG H (upd H b (.lst ((j.take k).map nV))):=cY hb;refine⟨O,[aq t,nD f,al (j.take k)],⟨_,_,rfl,ht.keep U,_,_,rfl,rfl,_,_,rfl,⟨b,_,rfl,.inl aW,T,Fk G O _ _⟩,rfl⟩,λa z=>?_,rfl,?_⟩;·exact jX u U a z
 rw[x];intro v J s2 rv;obtain⟨a,rfl,ra,Fm⟩:=Au rv;have n:=U.trans s2;have M:d8 G J p c dx f j st l Z en:=⟨n _ _ h.ob,n _ _ h.ls⟩;refine⟨.ref a,rfl,.ref p,rfl,p,_,dx,_,nV l,rfl,M.ob,(C.k 6).cl,bY (C.k 6) 3 rfl,rfl,(l:Int),rfl,a,_,rfl,.inl ra,λb2 r=>?_⟩;rw[O!];have y:aG J (upd J b2 (.lst ((L.drop l).map nV))):=cY r;have W:Rd (upd J b2 (.lst ((L.drop l).map nV))) a (.lst (L.map nV)):=by
  rcases ra with z|⟨o,z⟩;·exact .inl (y _ _ z)
  ·exact .inr ⟨o,y _ _ z⟩
 refine⟨.ref a,rfl,a,_,rfl,.inl (.inl W),.ref p,rfl,p,_,dx,_,rfl,y _ _ M.ob,(C.k 6).cl,bY (C.k 6) 3 rfl,(by show(6:Nat)<1000;lia),?_⟩;refine⟨.ref b2,rfl,?_⟩;have B:b2≠p:=λz=>by rw[z,M.ob]at r;cases r
 have I:¬O b2:=λz=>jX u n b2 z r;refine q (.ref b2) _ (λd o ed n1 n2=>?_) ⟨?_,?_⟩ ⟨b2,_,rfl,.inl ?_,I,Fk G O _ _⟩;·rw[aD n1];exact y _ _ (n _ _ ed)
 ·rw[aW,bZ];rfl
 ·rw[aD S];exact y _ _ M.ls
 ·rw[aD B];exact aW
inductive O2(G:Gx)(vs:List V)(H:Hp)(Q:VK)(E:XK):Prop|mk:∀O t tv p c dx f dA st told tm en,vs=[tv,.ref p]->Good t->O p->O c->((∀a,O a->H a≠none))->Rep G O H (aq t) tv->d8 G H p c dx f dA st told tm en->dA.length<=1000->(∀v H',eP p c H H'->d8 G H' p c dx f dA st (cC t f dA).length tm true->Rep G O H' (al ((cC t f dA).drop told)) v->Q v H')->O2 G vs H Q E
abbrev O3(G:Gx):Sp:=λvs H Q E=>O2 G vs H Q E
def P?:du ["tables","pieces"] ["tables","pieces"] (bx (top 80)):=⟨rfl,rfl,rfl,by decide+kernel,rfl,by decide+kernel,by decide+kernel⟩
def P!{P:bA}{w:bB}{mg:ag->Option aj}{base:aZ}{G:Gx}{f:af}{y:eQ}(C:Txt mg base G)(F:cU G.K "end_pieces" "end_pieces" (top 80) f y)(j:ft P w mg base G aS 38 "put_out" 6 ["tables","pieces","count"] (Fl G)):bS P w G.K mg base aS 7 f y ["tables","pieces"] (O3 G):=by
 refine mG (N:=["tables","pieces"]) (k:=6) F P? (λvs H Q E ⟨O,t,n,p,c,dx,f,l,st,i,m,L,e,_,_,_,_,_,_,_,_⟩=>by rw[e];rfl) _ (λM A outer s H E S=>bV (ja (G:=G) (pv 1) uR) (cK (ee (cA (E:=E0) j (S.mono (by decide:6<=6)) aX (aV (pv 0) (aV (pv 1) (aV (hlen (G:=G) (C.b 0) (hf (G:=G) (pv 1))) bG))))))) λvs H Q E ⟨O,t,n,p,c,dx,f,l,st,i,m,L,e,g,B,I,r,T,h,U,q⟩=>?_;subst e;haveI u:=h.ne;refine⟨.ref p,rfl,p,_,dx,_,rfl,h.ob,(C.k 6).cl,bY (C.k 6) 5 rfl,(by show(6:Nat)<1000;lia),?_⟩;haveI k1:eP p c H (upd H p (wZ G dx f c st i m true)):=λd o W X n2=>by rw[aD X];exact W
 haveI x:d8 G (upd H p (wZ G dx f c st i m true)) p c dx f l st i m true:=⟨aW,by rw[aD u];exact h.ls⟩;refine⟨n,rfl,.ref p,rfl,.ref p,rfl,p,_,dx,_,.ref c,rfl,x.ob,(C.k 6).cl,bY (C.k 6) 1 rfl,rfl,c,_,rfl,.inl (.inl (.inl x.ls)),?_⟩;refine⟨O,t,n,p,c,dx,f,l,st,i,m,true,l.length,by rw[bZ];rfl,g,B,I,λa z=>?_,T.mono (k1.kp B I h) (λa z=>.inl z),x,U,?_⟩
 ·by_cases J:a=p;·rw[J,aW];simp
  ·rw[aD J];exact r a z
 ·rw[G7];intro v Y k2 Z r2;exact q v Y (k1.trans k2) Z r2
def vn{G:Gx}(a:PE X l tl)(b: ~~~(X.K=G.K)):PI X c l (Cs G.K tl):=by rw[<-b];exact Ix a
abbrev Q_(G:Gx)(O:af->Prop)(t:aN)(p c dx:af)(f:Nat)(b:Nat)(h:Bool)(H:Hp)(Q:VK)(E:XK)(r:Option (List Nat)):Prop:=match r with|none=>∀d e g,eP p c H d->d8 G d p c dx f e g b true h->E (G.xv 3) none d|some a=>∀v d,eP p c H d->d8 G d p c dx f a (ig t f a) (uF t f a).length false h->Rep G O d (al ((uF t f a).drop b)) v->Q v d
inductive O4(G:Gx)(vs:List V)(H:Hp)(Q:VK)(E:XK):Prop|mk:∀O t tv p c dx f dA told en xs xv,vs=[tv,.ref p,xv]->Good t->O p->O c->((∀a,O a->H a≠none))->Rep G O H (aq t) tv->d8 G H p c dx f dA (ig t f dA) told false en->Rep G O H (al xs) xv->dA.length<=200->(if 200<dA.length+xs.length then E (G.xv 6) none H else Q_ G O t p c dx f told en H Q E (kA t f dA xs))->O4 G vs H Q E
abbrev O5(G:Gx):Sp:=λvs H Q E=>O4 G vs H Q E
def O6:du ["tables","pieces","x","code"] ["tables","pieces","x"] (bx (top 79)):=⟨rfl,rfl,rfl,by decide+kernel,rfl,by decide+kernel,by decide+kernel⟩
inductive O7(G:Gx)(t:aN)(f:Nat)(dA xs:List Nat)(p c dx a:af)(tv:V)(told:Nat)(en:Bool)(H:Hp)(i m:Nat)(σ:L2.St)(H':Hp):Prop|mk:∀ci s3,i<=xs.length->m=xs.length-i->σ=[some tv,some (.ref p),some (.ref a),s3]->eP p c H H'->d8 G H' p c dx f ci (ig t f ci) told false en->kA t f dA xs=kA t f ci (xs.drop i)->ci.length=dA.length+i->O7 G t f dA xs p c dx a tv told en H i m σ H'
def Q?{P:bA}{w:bB}{mg:ag->Option aj}{base:aZ}{G:Gx}{f:af}{fd:eQ}(C:Txt mg base G)(F:cU G.K "put_piece" "put_piece" (top 79) f fd)(n:ft P w mg base G aS 38 "put_out" 6 ["tables","pieces","count"] (Fl G))(I:ft P w mg base G (bH P w) 37 "take_code" 5 ["tables","pieces","code"] (OZ G)):bS P w G.K mg base (bH P w) 7 f fd ["tables","pieces","x"] (O5 G):=by
 refine lO (N:=["tables","pieces","x","code"]) (k:=6) F O6 (λvs H Q E ⟨O,t,M,p,c,dx,f,d,j,en,xs,xv,e,_,_,_,_,_,_,_,_,_⟩=>by rw[e];rfl) _ (λgw A outer s H E hr=>by have Rx:=kH (P:=P) (w:=w) (K:=G.K) (mg:=mg) (base:=base) (N:=["tables","pieces","x","code"]) (qual:="put_piece") (scope:=bx (top 79)) (f:=f) (cd:=gw) (A:=A) (outer:=outer) (s:=s) (H:=H) (E:=E);have hN:=O6.nd;obtain⟨_,X6⟩:=(C.x 6);exact bV (ip (lb sE (ma Cy (hlen (G:=G) (C.b 0) (hf (G:=G) (pv 1))) (hlen (G:=G) (C.b 0) (pv 2))) (jb (C.c 21)) (eV _)) (cK (ug (G:=G) Rx X6.1 X6.2)) io) (bV (IB Rx.own rfl (vn (G:=G) (pv 2)) (oy (i:=3) hN rfl (by first|exact cy rfl|exact bM rfl)) (cK (iI (cA (E:=E) I (hr.mono (by decide:5<=6)) Rx.pass (aV (pv 0) (aV (pv 1) (aV (pv 3) bG))))))) (cK (ee (cA (E:=E0) n (hr.mono (by decide:6<=6)) aX (aV (pv 0) (aV (pv 1) (aV (hf (G:=G) (pv 1)) bG)))))))) λvs H Q E ⟨O,t,M,p,c,dx,f,d,j,en,xs,xv,e,g,hp,hc,bI,ht,h,hx,hl,q⟩=>?_;subst e;obtain⟨a,rfl,ra,Fm⟩:=Au hx;have O8:a≠p:=λz=>Fm (z▸hp);have w6:a≠c:=λz=>Fm (z▸hc);refine⟨.ref p,rfl,p,_,dx,_,.ref c,rfl,h.ob,(C.k 6).cl,bY (C.k 6) 1 rfl,rfl,c,_,rfl,.inl (.inl (.inl h.ls)),?_⟩;refine⟨.ref a,rfl,a,_,rfl,.inl (.inl ra),?_⟩;refine⟨_,_,rfl,rfl,_,_,rfl,rfl,_,rfl,?_⟩;have Fn:decide ((200:Int)<(((d.map nV).length:Nat):Int)+(((xs.map nV).length:Nat):Int))=decide (200<d.length+xs.length):=jq.mpr (by rw[bZ,bZ];omega);dsimp only;rw[Fn];by_cases hb:200<d.length+xs.length;·rw[gT hb,ax rfl];rw[ax hb]at q;exact q
 rw[iC hb,ay bE];rw[ay hb]at q;have nL:∀y,eP p c H y->Rd y a (.lst (xs.map nV)):=λy k=>by
  rcases ra with z|⟨o,z⟩;·exact .inl (k _ _ z O8 w6)
  ·exact .inr ⟨o,k _ _ z O8 w6⟩
 have Q!:∀y,eP p c H y->(∃u,y p=some u)->(∃u,y c=some u)->∀b,O b->y b≠none:=λy k ⟨u,e1⟩ ⟨u2,e2⟩ b z=>by
  by_cases h1:b=p;·rw[h1,e1];simp
  ·by_cases h2:b=c;·rw[h2,e2];simp
   ·cases e:H b with|none=>exact bw e (bI b z)|some o=>rw[k b o e h1 h2];simp
 dsimp only[uU,ow];refine⟨.ref a,rfl,a,rfl,⟨_,.inl ra⟩,O7 G t f d xs p c dx a M j en H,⟨xs.length,d,none,fK _,rfl,rfl,eP.refl _ _ _,h,rfl,rfl⟩,λi m σ y z=>?_⟩;obtain⟨l,s3,hi,hm,qs,Z,B,r,hcl⟩:=z;subst qs;have W:=nL y Z;have S:=Q! y Z ⟨_,B.ob⟩ ⟨_,B.ls⟩;have T:Rep G O y (aq t) M:=ht.mono (Z.kp hp hc h) λa z=>.inl z;by_cases fQ:i=xs.length;·left;refine⟨⟨_,.inl W,by rw[bZ];omega⟩,?_⟩;rw[fQ,Bh]at r;have R_:kA t f d xs=some l:=r;rw[R_]at q;refine⟨M,rfl,.ref p,rfl,.ref p,rfl,p,_,dx,_,nV (ig t f l),rfl,B.ob,(C.k 6).cl,bY (C.k 6) 2 rfl,rfl,?_⟩;refine⟨O,t,M,p,c,dx,f,l,_,j,false,en,ig t f l,rfl,g,hp,hc,S,T,B,by omega,λv H2 k2 h2 r2=>?_⟩;exact q v H2 (Z.trans k2) h2 r2
 ·right;have f6:i<xs.length:=by omega
  have U:(xs.map nV)[i]?=some (nV xs[i]):=by rw[jp,cI f6];rfl
  have X:xs.drop i=xs[i]::xs.drop (i+1):=lR f6;refine⟨⟨_,_,.inl W,U⟩,λet H2=>∃s3,et=[some M,some (.ref p),some (.ref a),s3]/\eP p c H H2/\d8 G H2 p c dx f (l++[xs[i]]) (ig t f (l++[xs[i]])) j false en/\kA t f d xs=kA t f (l++[xs[i]]) (xs.drop (i+1)),λet H2 ⟨R',e1,e2,e3,e4⟩=>⟨xs.length-(i+1),by omega,l++[xs[i]],R',by omega,rfl,e1,e2,e3,e4,by simp;omega⟩,λx H2 z5=>?_⟩;obtain⟨ex,ey⟩:=z5;subst ex;have J:=ey _ (.inl W);rw[U]at J;have J:=(eR J).symm;subst J;refine⟨M,rfl,.ref p,rfl,nV xs[i],rfl,?_⟩;have R?:=Sv t f l;refine⟨O,t,M,p,c,dx,f,l,ig t f l,j,en,xs[i],rfl,g,hp,hc,S,T,B,by omega,R?,λH3 k3=>?_⟩;rw[<-So];have Y:kA t f l (xs[i]::xs.drop (i+1))=if 16<l.length+1-ig t f (l++[xs[i]])then none else kA t f (l++[xs[i]]) (xs.drop (i+1)):=rfl;rw[X,Y]at r;by_cases L:16<l.length+1-ig t f (l++[xs[i]]);·rw[ax L];rw[ax L]at r;intro h3;rw[r]at q;exact q H3 _ _ (Z.trans k3) h3
  ·rw[ay L];rw[ay L]at r;intro h3;exact⟨_,rfl,Z.trans k3,h3,r⟩
abbrev R!:bp:=match(g7 (top 138)).getD 1 (.Pass ⟨0,0,0,0⟩)with|.Return (some (.Call _ _ [⟨_,e,_⟩] _)) _=>e|_=>.Constant .none 0 ⟨0,0,0,0⟩
abbrev qW:cj:=match R! with|.Lambda _ _ _ p=>p|_=>⟨0,0,0,0⟩
abbrev Fp:ag:=(gY "numbers_by_key" (bx (top 138)) 0 0 .none).qual++"<lambda>"
abbrev bJ(G:Gx):af:=G.fm 900
abbrev kR(G:Gx)(H:Hp)(A:af->Prop):Prop:=A (bJ G)/\∃ps,H (bJ G)=some (.fj ps)/\TriplesOk ps.toList/\(Bp qW ps.toList=none\/∃c,Bp qW ps.toList=some (.ref c)/\A c/\H c=some (mx c Fp))
abbrev Fq(o:HO):Prop:=(∃ps,o=.fj ps)\/∃c q,o=mx c q
def kR.move(h:kR G H A)(k:∀b o,H b=some o->Fq o->d b=some o)(gh:∀b,A b->e b):kR G d e:=by
 obtain⟨f,ps,g,i,a⟩:=h;refine⟨gh _ f,ps,k _ _ g (.inl ⟨ps,rfl⟩),i,?_⟩;rcases a with a|⟨c,j,l,m⟩;·simp_all
 ·exact .inr ⟨c,j,gh _ l,k _ _ m (.inr ⟨_,_,rfl⟩)⟩
def kR.keep(h:kR G H A)(s:aG H a):kR G a A:=h.move (λb o e _=>s b o e) λ_ z=>z
def Fs(h:Fq (.ins C dx fs)):False:=by
 rcases h with⟨_,h⟩|⟨_,_,h⟩;·cases h
 trivial
def S_(h:Fq (.lst vs)):False:=by
 rcases h with⟨_,h⟩|⟨_,_,h⟩;·cases h
 trivial
abbrev lP(G:Gx)(dx:af)(a pv:V):HO:=.ins (G.cm 9) dx [("tables",a),("pieces",pv)]
abbrev O9(t:aN)(q:FoFormSeed.Rec)(a:List Nat)(st b:Nat):Prop:=q.over=false->a=q.fed/\st=ig t q.f q.fed/\kU t q.f q.fed=false/\q.fed.length<=200/\(q.ended=false->b=(uF t q.f q.fed).length)
abbrev mH(G:Gx)(H:Hp)(A:af->Prop)(s:cJ)(pv:V):Prop:=match s.rec_ with|none=>pv=.ah|some q=>∃p c dx a st b,pv=.ref p/\A p/\A c/\d8 G H p c dx q.f a st b q.over q.ended/\O9 s.tab q a st b
structure gS(G:Gx)(H:Hp)(O A:af->Prop)(a:af)(s:cJ):Prop where
 mem:A a
 bI:∀b,(O b\/A b)->H b≠none
 good:Good s.tab
 tb:kR G H A
 ob:∃dx tv pv,H a=some (lP G dx tv pv)/\Rep G (λb=>O b\/A b) H (aq s.tab) tv/\mH G H A s pv
def d8.keep{st a:Nat}(h:d8 G H p c dx f b st a d e)(s:aG H g):d8 G g p c dx f b st a d e:=⟨s _ _ h.ob,s _ _ h.ls⟩
def mH.keep{pv:V}(h:mH G H A s pv)(d:aG H f):mH G f A s pv:=by
 delta mH at h⊢
 cases g:s.rec_ with|none=>simp_all|some q=>rw[g]at h;obtain⟨p,c,dx,a,st,b,e,i,j,k,l⟩:=h;exact⟨p,c,dx,a,st,b,e,i,j,k.keep d,l⟩
def gS.keep(h:gS G H O A a s)(b:aG H c):gS G c O A a s:=by obtain⟨dx,d,pv,e,r,p⟩:=h.ob;exact⟨h.mem,jX h.bI b,h.good,h.tb.keep b,dx,d,pv,b _ _ e,r.keep b,p.keep b⟩
abbrev w8(G:Gx)(O A:af->Prop)(a:af)(H:Hp)(Q:VK)(E:XK)(g:cJ)(r:R D):Prop:=match r with|.ok d=>∀v e f,Ext A H f e->gS G e O f a g->Rep G (λb=>O b\/f b) e d v->Q v e|.exc c=>∀e f,Ext A H f e->gS G e O f a g->E (G.xv c) none e|.bad=>False
@[reducible]def pu:=cJ->List D->cJ->R D->Prop
inductive Pa(G:Gx)(n:Nat)(Rel:pu)(vs:List V)(H:Hp)(Q:VK)(E:XK):Prop|mk:∀O A a s ds ws s' r,vs=.ref a::ws->ds.length=n->gS G H O A a s->aU G (λb=>O b\/A b) H ds ws->Rel s ds s' r->w8 G O A a H Q E s' r->Pa G n Rel vs H Q E
abbrev fH(G:Gx)(n:Nat)(a:pu):Sp:=λvs H Q E=>Pa G n a vs H Q E
def w8.same(h:w8 G O A a H Q E g r)(f:aG H i):w8 G O A a i Q E g r:=by
 delta w8 at h⊢
 cases r with|bad=>omega|exc c=>exactλb e ex d=>h b e ((Ext.of f).trans ex) d|ok d=>exactλv b e ex dd j=>h v b e ((Ext.of f).trans ex) dd j
def Av(h:Rep G O H (aO l) v):∃b,v=.ref b/\Rd H b (.lst (l.map V.int))/\¬O b:=by obtain⟨b,vs,e,r,n,a⟩:=h;have:=aU.ints a;simp_all
def Aw(r:Rd H b (.lst (l.map V.int)))(n:¬O b):Rep G O H (aO l) (.ref b):=⟨b,_,rfl,r,n,aU.sN _⟩
abbrev isList(r:R D):Prop:=match r with|.ok d=>∃l:List Int,d=aO l|.exc _=>True|.bad=>False
def S'(P:∀s ds m r,Good s.tab->u s ds m r->m=s/\isList r/\∀f,F (dD s.tab f::ds)=r)(I:i1 G 9 ["tables","pieces"])(h:fH G n u vs H Q E):gx G (n+1) F vs H Q E:=by
 obtain⟨O,A,a,s,ds,X,m,r,e,Y,j,S,x,k⟩:=h;obtain⟨y,J,T⟩:=P s ds m r j.good x;have y:=y.symm;subst e y;obtain⟨dx,U,pv,L,rt,ps⟩:=j.ob;let t:=λb=>(O b\/A b)/\b≠a;have gh:∀b,t b->(O b\/A b)\/H b=none:=λb z=>.inl z.1;obtain⟨f,B⟩:∃f,Rep G t H f pv:=by delta mH at ps;cases M:s.rec_ with|none=>rw[M]at ps;exact⟨.ah,ps⟩|some q=>rw[M]at ps;obtain⟨p,c,_,_,_,_,e,_⟩:=ps;exact⟨.adr p,e⟩
 haveI g:Rep G t H (dD s.tab f) (.ref a):=by refine⟨a,dx,[U,pv],rfl,?_,by rw[I.nm];rfl,λz=>z.2 rfl,_,_,rfl,rt.mono (Kp.of (aG.refl _)) gh,_,_,rfl,B,rfl⟩;rw[I.nm];exact L
 refine⟨t,dD s.tab f::ds,⟨_,_,rfl,g,S.mono (Kp.of (aG.refl _)) gh⟩,λb z=>j.bI b z.1,by simp_all,?_⟩;rw[T f];cases r with|bad=>exact J|exc c=>exactλC i=>k C A (Ext.of i) (j.keep i)|ok d=>obtain⟨l,rfl⟩:=J;intro v C i W;obtain⟨b,rfl,N,nb⟩:=Av W;refine k _ C A (Ext.of i) (j.keep i) (Aw N λz=>nb ⟨z,λq=>?_⟩);have:=i _ _ L;rcases N with w|⟨o,w⟩<;>rw[q,this]at w<;>nomatch w
def Ax(B:bh P w mg base G d t name k ps F)(e:ps.length=n+1)(f:i1 G 9 ["tables","pieces"])(g:∀s ds b r,Good s.tab->a s ds b r->b=s/\isList r/\∀i,F (dD s.tab i::ds)=r):ft P w mg base G d t name k ps (fH G n a):=by obtain⟨⟨j,c,l⟩,m,o⟩:=B;rw[e]at c;exact⟨⟨j,c.imp λvs H Q E h=>S' g f h,l⟩,m,o⟩
abbrev Pb(l:List Int):R D:=.ok (aO l)
inductive Ay(s:cJ)(ds:List D)(s':cJ)(r:R D):Prop|mk:∀f:Int,ds=[.int f]->(if dF 0 3 f=true then s'={s with rec_:=some ⟨f.toNat,[],false,false⟩}/\r=Pb []else s'=s/\r=.exc 0)->Ay s ds s' r
def S?:du ["desk","form"] ["desk","form"] (bx (top 153)):=⟨rfl,rfl,rfl,by trivial,rfl,by trivial,by trivial⟩
def S!{P:bA}{w:bB}{mg:ag->Option aj}{base:aZ}{G:Gx}{f:af}{fd:eQ}(C:Txt mg base G)(F:cU G.K "answer_open" "answer_open" (top 153) f fd)(h:bh P w mg base G (bH P w) 14 "check_form" 1 ["form"] qB)(m:qV P w mg base G aS 6 91 "Pieces" 1 ["self","form"] (OW G)):bS P w G.K mg base (bH P w) 3 f fd ["desk","form"] (fH G 1 Ay):=by
 refine lO (N:=["desk","form"]) (k:=2) F S? (λvs H Q E ⟨O,A,a,s,ds,ws,s',r,e,hn,u,rl,W,k⟩=>by rw[e,jj,<-rl.length,hn];rfl) _ (λgw A outer s H E hr=>by haveI Rx:=kH (P:=P) (w:=w) (K:=G.K) (mg:=mg) (base:=base) (N:=["desk","form"]) (qual:="answer_open") (scope:=bx (top 153)) (f:=f) (cd:=gw) (A:=A) (outer:=outer) (s:=s) (H:=H) (E:=E);exact bV (iI (cA (E:=E) (j9 h) (hr.mono (by lia:1<=2)) Rx.pass (aV (pv 1) bG))) (bV (ja (G:=G) (pv 0) (Ao (E:=E0) m (hr.mono (by decide:2<=2)) aX (aV (pv 1) bG))) (cK (ee (lg bG))))) λvs H Q E ⟨O,A,a,s,ds,ws,s',r,e,hn,u,rl,W,k⟩=>?_;obtain⟨f,rfl,j⟩:=W;obtain⟨v1,Pc,rfl,T_,hw⟩:=rl;cases T_;cases hw;subst e;haveI pw:=Ag f;refine⟨.int f,rfl,λb=>O b\/A b,[.int f],⟨_,_,rfl,rfl,rfl⟩,u.bI,rfl,?_⟩;rw[pw];delta c8;by_cases X:dF 0 3 f=true
 ·rw[ax X]at j⊢
  obtain⟨rfl,rfl⟩:=j;intro v y Y _;have i:=u.keep Y;obtain⟨dx,S,pv,ho,rt,ps⟩:=i.ob;have hfn:(f.toNat:Int)=f:=by delta dF at X;simp at X;exact RZ X.1
  refine⟨.int f,rfl,λx dy hx As sK=>?_⟩;refine⟨x,dy,f.toNat,by simp_all,aW,λc T hc I J=>?_⟩;haveI T':c≠x:=I.ne;have zD:c≠dy:=λz=>by rw[z,aD sK,aW]at hc;cases hc
  have hcn:y c=none:=by rw[aD T',aD zD]at hc;exact hc
  have k3:aG y T:=λb o eb=>by
   have t:b≠x:=λz=>by simp_all
   have T?:b≠dy:=λz=>by simp_all
   exact J b o (by rw[aD t,aD T?];lia) t
  refine⟨rfl,.ref a,rfl,a,_,dx,_,rfl,k3 _ _ ho,(C.k 9).cl,bY (C.k 9) 1 rfl,(by simp),?_⟩;refine⟨by simp,λb g=>?_⟩;have Z:a≠x:=λz=>by simp_all
  have w6:a≠c:=λz=>by simp_all
  have B:b≠a:=λz=>by rw[z,aW]at g;cases g
  have t:b≠x:=λz=>by rw[z,aD (bK Z),I.ob]at g;cases g
  have Fu:b≠c:=λz=>by rw[z,aD (bK w6),I.ls]at g;cases g
  let U:af->Prop:=λd=>A d\/d=x\/d=c;have kp:Kp A y (upd (upd T a (lP G dx S (.ref x))) b (.lst [])):=λd o n L=>by
   have p:d≠a:=by
    rcases L with z|z;·exactλw=>z (w▸u.mem)
    ·rintro rfl;rw[ho]at n;cases n;rcases z with⟨_,z⟩|⟨_,_,z⟩<;>cases z
   have q:d≠b:=λz=>by rw[z]at n;have:=k3 _ _ n;rw[aD B,this]at g;cases g
   rw[aD q,aD p];exact k3 _ _ n
  have ex:Ext A H U (upd (upd T a (lP G dx S (.ref x))) b (.lst [])):=(Ext.of Y).trans ⟨kp,λd z=>.inl z,λd z=>by grind⟩;have M:∀d,(O d\/U d)->(O d\/A d)\/y d=none:=λd z=>by grind
  have T!:Kp (λd=>O d\/A d) y (upd (upd T a (lP G dx S (.ref x))) b (.lst [])):=λd o n L=>kp d o n (L.imp (λz w=>z (.inr w)) id);have tb:kR G (upd (upd T a (lP G dx S (.ref x))) b (.lst [])) U:=i.tb.move (λd o n kd=>by
   have p:d≠a:=by rintro rfl;rw[ho]at n;cases n;exact(Fs kd).elim
   have q:d≠b:=λz=>by rw[z]at n;have:=k3 _ _ n;rw[aD B,this]at g;cases g
   rw[aD q,aD p];exact k3 _ _ n) λd z=>.inl z;have dk:gS G (upd (upd T a (lP G dx S (.ref x))) b (.lst [])) O U a {s with rec_:=some ⟨f.toNat,[],false,false⟩}:=by
   refine⟨.inl u.mem,λd z=>?_,u.good,tb,dx,S,.ref x,by rw[aD (bK B),aW],rt.mono T! M,x,c,dy,[],0,0,rfl,.inr (.inl rfl),.inr (.inr rfl),⟨by rw[aD (bK t),aD (bK Z)];exact I.ob,by rw[aD (bK Fu),aD (bK w6)];exact I.ls⟩,λ_=>⟨rfl,rfl,Su _ _,fK _,λ_=>?_⟩⟩
   ·by_cases q:d=b;·rw[q,aW];simp
    ·rw[aD q];by_cases p:d=a;·rw[p,aW];simp
     ·rw[aD p];rcases M d z with w|w;·cases e1:y d with|none=>exact bw e1 (i.bI d w)|some o=>rw[k3 d o e1];simp
      ·rcases z with z|z|z|z;·exact bw w (i.bI d (.inl z))
       ·exact bw w (i.bI d (.inr z))
       ·rw[z,I.ob];simp
       ·rw[z,I.ls];simp
   ·show 0=(cC s.tab f.toNat (([]:List Nat).take (ig s.tab f.toNat []))).length;rw[List.take_nil];have:=l6 s.tab u.good.dec u.good.pair f.toNat [];simp_all
  have wY:¬(O b\/U b):=λz=>by
   rcases M b z with w|w;·have:=i.bI b w;cases e1:y b with|none=>simp_all|some o=>rw[aD B,k3 b o e1]at g;cases g
   ·rcases z with z|z|z|z;·exact bw w (i.bI b (.inl z))
    ·exact bw w (i.bI b (.inr z))
    ·exact t z
    simp_all
  exact k (.ref b) _ U ex dk (Aw (l:=[]) (.inl aW) wY)
 ·rw[ay X]at j⊢
  obtain⟨rfl,rfl⟩:=j;exactλy Y=>k y A (Ext.of Y) (u.keep Y)
abbrev uh(G:Gx)(H:Hp)(Q:VK)(E:XK)(r:R D):Prop:=match r with|.ok _=>∀v a,aG H a->Q v a|.exc c=>∀a,aG H a->E (G.xv c) none a|.bad=>False
def Fv(i:Nat)(g:σ[i]?=some (some e))(o:Rep G l H (aO x) e)(a:∀b,l b->H b≠none)(h:uh G H Q E (F [.lst ([x].map aO)])):p1 (gx G 1 F) [] E (eW (yG (eW (d5 i) eu)) eu) σ H Q:=by refine⟨e,g,by simp,λb m=>?_⟩;have f:aG H (upd H b (.lst [e])):=cY m;have nb:=λz=>a b z m;refine⟨l,[.lst ([x].map aO)],⟨_,_,rfl,⟨b,[e],rfl,.inl aW,nb,_,_,rfl,o.keep f,rfl⟩,rfl⟩,jX a f,rfl,?_⟩;delta uh at h;cases n:F _ with|bad=>simp_all|exc c=>rw[n]at h;exactλj k=>h j (f.trans k)|ok d=>rw[n]at h;exactλv j k _=>h v j (f.trans k)
def Fw{st i:Nat}(m:gS G H O A a s)(n:H a=some (lP G r B (.ref p)))(rt:Rep G (λb=>O b\/A b) H (aq s.tab) B)(t:A p)(u:A c)(h:d8 G H p c dx f C st i L M)(k:eP p c H v)(w:d8 G v p c dx q.f d j g q.over q.ended)(J:O9 s.tab q d j g):gS G v O A a {s with rec_:=some q}/\Ext A H A v:=by
 have x:a≠p:=λz=>by have:=h.ob;rw[<-z,n]at this;delta lP wZ at this;lia
 have y:a≠c:=λz=>by haveI:=h.ls;rw[<-z,n]at this;nomatch this
 refine⟨⟨m.mem,λb z=>?_,m.good,m.tb.move (λb o l E=>k b o l (λz=>by rw[z,h.ob]at l;cases l;exact Fs E) (λz=>by rw[z,h.ls]at l;cases l;exact S_ E)) (λb z=>z),r,B,.ref p,k _ _ n x y,rt.mono (k.kp (.inr t) (.inr u) h) λb z=>.inl z,p,c,dx,d,j,g,rfl,t,u,w,J⟩,k.kp t u h,λb z=>z,λb z=>.inl z⟩;by_cases F:b=p;·rw[F,w.ob];simp
 ·by_cases I:b=c;·rw[I,w.ls];simp
  ·cases e:H b with|none=>exact bw e (m.bI b z)|some o=>rw[k b o e F I];simp
abbrev qX(s:cJ)(x:List Int):cJ×R D:=match s.rec_ with|none=>(s,.exc 1)|some q=>if ko iE x=true then(s,.exc 0)else if q.ended=true then(s,.exc 5)else if q.over=true then(s,.exc 3)else if gZ x=false then(s,.exc 2)else if 200<q.fed.length+x.length then(s,.exc 6)else if kU s.tab q.f (q.fed++bt x)=true then({s with rec_:=some {q with over:=true}},.exc 3)else({s with rec_:=some {q with fed:=q.fed++bt x}},.ok (al ((uF s.tab q.f (q.fed++bt x)).drop (uF s.tab q.f q.fed).length)))
inductive Az(s:cJ)(ds:List D)(s':cJ)(r:R D):Prop|mk:∀x:List Int,ds=[aO x]->x.length<=20000->qX s x=(s',r)->Az s ds s' r
def U_:du ["desk","x"] ["desk","x"] (bx (top 154)):=⟨rfl,rfl,rfl,by trivial,rfl,by trivial,by trivial⟩
def U'{P:bA}{w:bB}{mg:ag->Option aj}{base:aZ}{G:Gx}{f:af}{fd:eQ}(C:Txt mg base G)(F:cU G.K "answer_put" "answer_put" (top 154) f fd)(g:bh P w mg base G (bH P w) 19 "check_sizes" 1 ["texts"] zN)(h:bh P w mg base G (bH P w) 20 "check_codes" 2 ["texts"] tV)(U:ft P w mg base G (bH P w) 34 "check_going_on" 1 ["pieces"] (Fj G))(S:ft P w mg base G (bH P w) 35 "put_piece" 7 ["tables","pieces","x"] (O5 G)):bS P w G.K mg base (bH P w) 8 f fd ["desk","x"] (fH G 1 Az):=by
 refine lO (N:=["desk","x"]) (k:=7) F U_ (λvs H Q E ⟨O,A,a,s,ds,ws,s',r,e,hn,B,rl,W,k⟩=>by rw[e,jj,<-rl.length,hn];rfl) _ (λgw A outer s H E hr=>by haveI X:=kH (P:=P) (w:=w) (K:=G.K) (mg:=mg) (base:=base) (N:=["desk","x"]) (qual:="answer_put") (scope:=bx (top 154)) (f:=f) (cd:=gw) (A:=A) (outer:=outer) (s:=s) (H:=H) (E:=E);obtain⟨_,X1⟩:=(C.x 1);exact bV (ip (pY (HU (hf (G:=G) (pv 0)))) (cK (ug (G:=G) X X1.1 X1.2)) io) (bV (iI (cA (E:=E) (j9 g) (hr.mono (by lia:1<=7)) X.pass (aV (lg (aV (pv 1) bG)) bG))) (bV (iI (cA (E:=E) U (hr.mono (by lia:1<=7)) X.pass (aV (hf (G:=G) (pv 0)) bG))) (bV (iI (cA (E:=E) (j9 h) (hr.mono (by lia:2<=7)) X.pass (aV (lg (aV (pv 1) bG)) bG))) (cK (ee (cA (E:=E) S (hr.mono (by lia:7<=7)) X.pass (aV (hf (G:=G) (pv 0)) (aV (hf (G:=G) (pv 0)) (aV (pv 1) bG)))))))))) λvs H Q E ⟨O,A,a,s,ds,ws,s',r,e,hn,B,rl,W,k⟩=>?_;obtain⟨x,rfl,U?,d⟩:=W;obtain⟨xv,Pc,rfl,rx,hw⟩:=rl;cases hw;subst e;obtain⟨dx,tv,pv,ho,rt,ps⟩:=B.ob;refine⟨.ref a,rfl,a,_,dx,_,pv,rfl,ho,(C.k 9).cl,bY (C.k 9) 1 rfl,rfl,_,rfl,?_⟩;unfold mH at ps;unfold qX at d;cases I:s.rec_ with
 |none=>rw[I]at ps d;haveI i:=bz fL d;haveI j:=bz gj d;dsimp only at i j;subst i j ps;rw[gT rfl,ax rfl];exact k H A (Ext.refl _ _) B
 |some q=>
  rw[I]at ps d;dsimp only at ps d;obtain⟨p,c,Y,Z,st,J,rfl,hp,hc,At,U!⟩:=ps;rw[iC (by simp),ay bE];dsimp only[uU,ow,mX];refine Fv 1 rfl rx B.bI ?_;rw[NJ [x] (by simp)];unfold c8;cases m:ko iE x with
  |true=>rw[ax m]at d;haveI i:=bz fL d;haveI j:=bz gj d;dsimp only at i j;subst i j;simp only[nR,QJ,m,AZ,Bool.not_true,xT,if_false];exactλH1 sm=>k H1 A (Ext.of sm) (B.keep sm)
  |false=>
   rw[ay (by simp_all)]at d;simp only[nR,QJ,m,AZ,RJ,if_true];intro v1 H1 L;haveI o:=B.keep L;haveI V_:=L _ _ ho;haveI V':=At.keep L;refine⟨.ref a,rfl,a,_,dx,_,.ref p,rfl,V_,(C.k 9).cl,bY (C.k 9) 1 rfl,rfl,p,c,Y,q.f,Z,st,J,q.over,q.ended,rfl,V',?_⟩;cases t:q.ended with
   |true=>rw[ax t]at d;haveI i:=bz fL d;haveI j:=bz gj d;dsimp only at i j;subst i j;exact k H1 A (Ext.of L) o
   |false=>
    rw[ay (by simp_all)]at d;cases T:q.over with
    |true=>rw[ax T]at d;haveI i:=bz fL d;haveI j:=bz gj d;dsimp only at i j;subst i j;exact k H1 A (Ext.of L) o
    |false=>
     rw[ay (by simp_all)]at d;rw[ay bE,ay bE];refine Fv 1 rfl (rx.keep L) o.bI ?_;rw[ER [x] (by simp_all)];unfold c8;cases u:gZ x with
     |false=>rw[ax u]at d;haveI i:=bz fL d;haveI j:=bz gj d;dsimp only at i j;subst i j;simp only[nZ,G3,u,RL,xT,if_false];exactλH2 sm=>k H2 A (Ext.of (L.trans sm)) (o.keep sm)
     |true=>
      rw[ay (by simp_all)]at d;simp only[nZ,G3,u,RL,if_true];intro v2 H2 s2;haveI l:=L.trans s2;haveI v:=B.keep l;haveI y:=l _ _ ho;haveI n:=At.keep l;obtain⟨r1,r2,r3,r4,r5⟩:=U! T;haveI r5:=r5 t;rw[r1,r2,T,t]at n;refine⟨.ref a,rfl,a,_,dx,_,tv,rfl,y,(C.k 9).cl,bY (C.k 9) 0 rfl,rfl,.ref a,rfl,a,_,dx,_,.ref p,rfl,y,(C.k 9).cl,bY (C.k 9) 1 rfl,rfl,xv,rfl,?_⟩;haveI V?:Rep G (λb=>O b\/A b) H2 (al (bt x)) xv:=by rw[<-jH x u];exact rx.keep l
      refine⟨λb=>O b\/A b,s.tab,tv,p,c,Y,q.f,q.fed,J,false,bt x,xv,rfl,B.good,.inr hp,.inr hc,v.bI,rt.keep l,n,V?,r4,?_⟩;rw[dS];by_cases M:200<q.fed.length+x.length
      ·rw[ax M]at d⊢
       haveI i:=bz fL d;haveI j:=bz gj d;dsimp only at i j;subst i j;exact k H2 A (Ext.of l) v
      ·rw[ay M]at d⊢
       rw[HB s.tab q.f (bt x) q.fed r3];by_cases Pd:kU s.tab q.f (q.fed++bt x)=true
       ·rw[ax Pd]at d⊢
        haveI i:=bz fL d;haveI j:=bz gj d;dsimp only at i j;subst i j;intro H3 aey LO k3 h3;haveI:=Fw (q:={q with over:=true}) v y (rt.keep l) hp hc n k3 (by rw[t];omega) (λz=>by cases z);exact k H3 A ((Ext.of l).trans this.2) this.1
       ·rw[ay Pd]at d⊢
        haveI i:=bz fL d;haveI j:=bz gj d;dsimp only at i j;subst i j;intro v3 H3 k3 h3 AA;haveI:=Fw (q:={q with fed:=q.fed++bt x}) v y (rt.keep l) hp hc n k3 (by simp_all) (λ_=>⟨rfl,rfl,by simp_all,by rw[kg,dS];omega,λ_=>rfl⟩);rw[r5]at AA;exact k v3 H3 A ((Ext.of l).trans this.2) this.1 AA
def Fx(B:gN P w mg base G a c t name k ps n F):qV P w mg base G a c t name k ps (oM G c n F):=⟨B.ok,B.KQ,B.mg⟩
abbrev qY(s:cJ):cJ×R D:=match s.rec_ with|none=>(s,.exc 1)|some q=>if q.ended=true then(s,.exc 5)else if q.over=true then(s,.exc 3)else({s with rec_:=some {q with ended:=true}},.ok (al ((cC s.tab q.f q.fed).drop (uF s.tab q.f q.fed).length)))
abbrev Fy:pu:=λs ds a r=>ds=[]/\qY s=(a,r)
def V!:du ["desk"] ["desk"] (bx (top 155)):=⟨rfl,rfl,rfl,by simp,rfl,by trivial,by trivial⟩
def W_(C:Txt mg base G)(F:cU G.K "answer_end" "answer_end" (top 155) f fd)(u:ft P w mg base G (bH P w) 34 "check_going_on" 1 ["pieces"] (Fj G))(o:ft P w mg base G aS 36 "end_pieces" 7 ["tables","pieces"] (O3 G)):bS P w G.K mg base (bH P w) 8 f fd ["desk"] (fH G 0 Fy):=by refine lO (N:=["desk"]) (k:=7) F V! (λvs H Q E ⟨O,A,a,s,ds,ws,s',r,e,U,l,L,v,k⟩=>by rw[e,jj,<-L.length,U];rfl) _ (λM A outer s H E W=>by haveI X:=kH (P:=P) (w:=w) (K:=G.K) (mg:=mg) (base:=base) (N:=["desk"]) (qual:="answer_end") (scope:=bx (top 155)) (f:=f) (cd:=M) (A:=A) (outer:=outer) (s:=s) (H:=H) (E:=E);obtain⟨_,Y⟩:=(C.x 1);exact bV (ip (pY (HU (hf (G:=G) (pv 0)))) (cK (ug (G:=G) X Y.1 Y.2)) io) (bV (iI (cA (E:=E) u (W.mono (by lia:1<=7)) X.pass (aV (hf (G:=G) (pv 0)) bG))) (cK (ee (cA (E:=E0) o (W.mono (by lia:7<=7)) aX (aV (hf (G:=G) (pv 0)) (aV (hf (G:=G) (pv 0)) bG))))))) λvs H Q E ⟨O,A,a,s,ds,ws,s',r,e,U,l,L,v,k⟩=>?_;obtain⟨rfl,d⟩:=v;subst L;subst e;obtain⟨dx,Z,pv,y,rt,ps⟩:=l.ob;refine⟨.ref a,rfl,a,_,dx,_,pv,rfl,y,(C.k 9).cl,bY (C.k 9) 1 rfl,rfl,_,rfl,?_⟩;unfold mH at ps;unfold qY at d;cases m:s.rec_ with|none=>rw[m]at ps d;haveI g:=bz fL d;haveI h:=bz gj d;dsimp only at g h;subst g h ps;exact k H A (Ext.refl _ _) l|some q=>rw[m]at ps d;dsimp only at ps d;obtain⟨p,c,B,I,st,n,rfl,hp,hc,i,S⟩:=ps;refine⟨.ref a,rfl,a,_,dx,_,.ref p,rfl,y,(C.k 9).cl,bY (C.k 9) 1 rfl,rfl,p,c,B,q.f,I,st,n,q.over,q.ended,rfl,i,?_⟩;cases t:q.ended with|true=>rw[ax t]at d;haveI g:=bz fL d;haveI h:=bz gj d;dsimp only at g h;subst g h;exact k H A (Ext.refl _ _) l|false=>rw[ay (by simp_all)]at d;cases j:q.over with|true=>rw[ax j]at d;haveI g:=bz fL d;haveI h:=bz gj d;dsimp only at g h;subst g h;exact k H A (Ext.refl _ _) l|false=>rw[ay (by simp_all)]at d;haveI g:=bz fL d;haveI h:=bz gj d;dsimp only at g h;subst g h;obtain⟨r1,r2,r3,r4,T⟩:=S j;haveI T:=T t;rw[r1,r2,j,t]at i;refine⟨.ref a,rfl,a,_,dx,_,Z,rfl,y,(C.k 9).cl,bY (C.k 9) 0 rfl,rfl,.ref a,rfl,a,_,dx,_,.ref p,rfl,y,(C.k 9).cl,bY (C.k 9) 1 rfl,rfl,?_⟩;refine⟨λb=>O b\/A b,s.tab,Z,p,c,B,q.f,q.fed,_,n,false,false,rfl,l.good,.inr hp,.inr hc,l.bI,rt,i,by lia,λv3 H3 k3 h3 J=>?_⟩;haveI:=Fw (q:={q with ended:=true}) l y rt hp hc i k3 (by rw[j];omega) (λ_=>⟨rfl,rfl,r3,r4,λz=>by cases z⟩);rw[T]at J;exact k v3 H3 A this.2 this.1 J
def W?(h:gu t=some x):1<=x.1:=by delta gu at h;split at h<;>first|(haveI:=eR h;subst this;lia)|cases h
def W!(t:aN):([(dR t).1,(dR t).2]=[0,0])↔gu t=none:=by delta dR;cases h:gu t with|none=>simp|some x=>have:=W? h;simp;lia
abbrev qZ(s:cJ)(p d q z k w:List Int):cJ×R D:=if(rowsOf p d q z k w).all gd=true then((match gu (n8 p d q z k w)with|none=>⟨n8 p d q z k w,none⟩|some _=>s),.ok (al [(dR (n8 p d q z k w)).1,(dR (n8 p d q z k w)).2]))else(s,.exc 0)
inductive ui(s:cJ)(ds:List D)(s':cJ)(r:R D):Prop|mk:∀p d q z k w:List Int,ds=[.lst ([p,d,q,z,k,w].map aO)]->(∀r∈[p,d,q,z,k,w],r.length<=20000)->qZ s p d q z k w=(s',r)->ui s ds s' r
def Pe:du ["desk","rows","tables","broken"] ["desk","rows"] (bx (top 148)):=⟨rfl,rfl,rfl,by trivial,rfl,by trivial,by trivial⟩
def X_{P:bA}{w:bB}{mg:ag->Option aj}{base:aZ}{G:Gx}{f:af}{fd:eQ}(C:Txt mg base G)(F:cU G.K "answer_tables" "answer_tables" (top 148) f fd)(g:bh P w mg base G (bH P w) 23 "check_rows" 1 ["rows"] Ep)(h:gN P w mg base G aS 5 89 "Tables" 3 ["self","rows"] 1 wc)(j:bh P w mg base G aS 40 "first_broken" 8 ["tables"] Et):bS P w G.K mg base (bH P w) 9 f fd ["desk","rows"] (fH G 1 ui):=by
 refine lO (N:=["desk","rows","tables","broken"]) (k:=8) F Pe (λvs H Q E ⟨O,A,a,s,ds,ws,s',r,e,hn,l,rl,M,k⟩=>by rw[e,jj,<-rl.length,hn];rfl) _ (λgw A outer s H E hr=>by have Rx:=kH (P:=P) (w:=w) (K:=G.K) (mg:=mg) (base:=base) (N:=["desk","rows","tables","broken"]) (qual:="answer_tables") (scope:=bx (top 148)) (f:=f) (cd:=gw) (A:=A) (outer:=outer) (s:=s) (H:=H) (E:=E);have hN:=Pe.nd;exact bV (iI (cA (E:=E) (j9 g) (hr.mono (by omega:1<=8)) Rx.pass (aV (pv 1) bG))) (bV (iQ (i:=2) hN (Ao (E:=E0) (Fx h) (hr.mono (by omega:4<=8)) aX (aV (pv 1) bG))) (bV (iQ (i:=3) hN (cA (E:=E0) (j9 j) (hr.mono (by omega:8<=8)) aX (aV (pv 2) bG))) (bV (ip (lb (DK hr.units) (pv 3) (lg (aV fk (aV fk bG))) (eV _)) (bV (ja (G:=G) (pv 0) (pv 2)) (cK (ja (G:=G) (pv 0) HP))) io) (cK (ee (pv 3))))))) λvs H Q E ⟨O,A,a,s,ds,ws,s',r,e,hn,l,rl,M,k⟩=>?_;obtain⟨p,d,q,z,kk,w,rfl,hlen,c⟩:=M;obtain⟨rv,Pc,rfl,rr,S⟩:=rl;cases S;subst e;refine⟨rv,rfl,λb=>O b\/A b,[.lst ([p,d,q,z,kk,w].map aO)],⟨_,_,rfl,rr,rfl⟩,l.bI,rfl,?_⟩;rw[g_ p d q z kk w hlen];unfold c8;unfold qZ at c;by_cases B:(rowsOf p d q z kk w).all gd=true
 ·rw[ax B]at c⊢
  obtain⟨hT,sh⟩:=E! p d q z kk w B;generalize n8 p d q z kk w=t at*
  have m:=bz fL c;have T:=bz gj c;dsimp only at m T;subst T;intro v1 U s1 _;have W:=l.keep s1;refine⟨rv,rfl,λx dy hx As sK=>?_⟩;have sx:aG U (upd (upd U dy (.own x)) x (.ins (G.cm 5) dy [])):=λb o v=>by rw[aD (λw=>by simp_all),aD (λw=>by simp_all)];omega
  have X':¬(O x\/A x):=λw=>W.bI x w hx;refine⟨λb=>(O b\/A b)\/b=x,[.lst ([p,d,q,z,kk,w].map aO)],x,dy,[rv],rfl,aW,.inr rfl,⟨_,_,rfl,(rr.keep s1).mono (Kp.of sx) (λb w=>w.elim .inl λw=>.inr (w▸hx)),rfl⟩,λb w=>?_,rfl,?_⟩
  ·rcases w with w|w;·exact jX W.bI sx b w
   ·rw[w,aW];simp
  rw[hT];intro v2 H2 us oB X? X! zB Fz k2;refine⟨X?,?_⟩;have s2:aG U H2:=λb o v=>k2 b o (sx b o v) λw=>by simp_all
  have X:=s1.trans s2;have hd2:=l.keep X;have Y:Rep G (λb=>O b\/A b) H2 (aq t) (.ref x):=⟨x,oB,us,rfl,X!,zB,X',Fz.mono (Kp.of (aG.refl _)) λb w=>.inl (.inl w)⟩;refine⟨.ref x,rfl,λb=>O b\/A b,[aq t],⟨_,_,rfl,Y,rfl⟩,hd2.bI,rfl,?_⟩;rw[u_ t sh];intro v3 n s3 I;obtain⟨b3,rfl,Z,nb3⟩:=Au I;have Pf:=X.trans s3;have AB:=l.keep Pf;refine⟨.ref b3,rfl,by simp,λb4 Y_=>?_⟩;have J:aG n (upd n b4 (.lst [.int 0,.int 0])):=cY Y_;have Y':Rd (upd n b4 (.lst [.int 0,.int 0])) b3 (.lst ([(dR t).1,(dR t).2].map nV)):=by
   rcases Z with w|⟨o,w⟩;·exact .inl (J _ _ w)
   ·exact .inr ⟨o,J _ _ w⟩
  have u:=AB.keep J;have Y?:=Pf.trans J;have q0:Ext A H A (upd n b4 (.lst [.int 0,.int 0])):=Ext.of Y?;refine⟨b3,b4,[((dR t).1:Int),((dR t).2:Int)],[0,0],rfl,rfl,Y',.inl aW,_,rfl,?_⟩;have Fn:decide ([((dR t).1:Int),((dR t).2:Int)]=[0,0])=decide (gu t=none):=by refine jq.mpr (Iff.trans ?_ (W! t));simp
  dsimp only;rw[Fn];obtain⟨dx,tv,pv,ho,rt,ps⟩:=u.ob;have aez:b3≠a:=λw=>by have:=AB.ob;obtain⟨_,_,_,Y!,_⟩:=this;rcases Z with y|⟨o,y⟩<;>rw[w,Y!]at y<;>cases y
  cases S:gu t with
  |none=>
   rw[S]at m;dsimp only at m;subst m;rw[gT rfl,ax rfl];refine⟨.ref x,rfl,.ref a,rfl,a,_,dx,_,rfl,ho,(C.k 9).cl,bY (C.k 9) 0 rfl,(by simp),?_⟩;refine⟨.ref a,rfl,a,_,dx,_,rfl,aW,(C.k 9).cl,bY (C.k 9) 1 rfl,(by show(2:Nat)<1000;simp),?_⟩;rw[oj];refine⟨.ref b3,rfl,?_⟩;have L:∀(OO:af->Prop),OO a->Kp OO (upd n b4 (.lst [.int 0,.int 0])) (upd (upd n b4 (.lst [.int 0,.int 0])) a (lP G dx (.ref x) .ah)):=λOO Z_ b o v w=>by
    have:b≠a:=by
     rcases w with w|w;·exactλy=>w (y▸Z_)
     ·rintro rfl;rw[ho]at v;cases v;rcases w with⟨_,w⟩|⟨_,_,w⟩<;>cases w
    rw[aD this];omega
   have Z':Rep G (λb=>O b\/A b) (upd n b4 (.lst [.int 0,.int 0])) (aq t) (.ref x):=Y.keep (s3.trans J);have dk:gS G (upd (upd n b4 (.lst [.int 0,.int 0])) a (lP G dx (.ref x) .ah)) O A a ⟨t,none⟩:=by
    refine⟨l.mem,λb w=>?_,Oq t sh S,u.tb.move (λb o v kb=>by rw[aD (λz=>by rw[z,ho]at v;cases v;exact Fs kb)];omega) (λb z=>z),dx,.ref x,.ah,aW,Z'.mono (L _ (.inr l.mem)) λb w=>.inl w,rfl⟩;by_cases Pg:b=a;·rw[Pg,aW];simp
    ·rw[aD Pg];exact u.bI b w
   have rb:Rep G (λb=>O b\/A b) (upd (upd n b4 (.lst [.int 0,.int 0])) a (lP G dx (.ref x) .ah)) (al [(dR t).1,(dR t).2]) (.ref b3):=(I.keep J).mono (L _ (.inr l.mem)) λb w=>.inl w;exact k _ _ A (q0.trans ⟨L A l.mem,λb w=>w,λb w=>.inl w⟩) dk rb|some y=>rw[S]at m;dsimp only at m;subst m;rw[iC (by simp),ay bE];exact⟨.ref b3,rfl,k _ _ A q0 u (I.keep J)⟩
 ·rw[ay B]at c⊢
  have m:=bz fL c;have T:=bz gj c;dsimp only at m T;subst m T;exactλU sm=>k U A (Ext.of sm) (l.keep sm)
def Z?{G:Gx}{st:dm}(F:cU G.K x qual st f g)(i:du N ps (bx st))(len:∀vs H Q E,sp vs H Q E->vs.length=ps.length)(j:∃c,g.code=.ref c/\G8 base c T)(b:∀(a:af)(A:cG)(outer:List n6)(s:ar)(H:Hp)(E:XK),G8 base a T->bO k (A.deeper (gY qual (bx st) s.heap.objs.size f (.ref a)))->∃TT,df (hV aS P w G.K mg base N qual (bx st) f (.ref a) A outer s H E).kB (g7 st) TT/\∀vs Q,sp vs H Q E->TT {nx:=λ_ l=>Q .ah l,rt:=Q} (L2.start N vs) H):bS P w G.K mg base aS (k+1) f g ps sp:=by obtain⟨u,v,kV,m,y,z,n,ct,o,rfl,lk,d⟩:=F.ex;obtain⟨a,e,p⟩:=j;subst e;refine yH lk d i len λA outer s H vs Q E q h=>?_;obtain⟨TT,r,t⟩:=b a A outer s H E p q;exact⟨TT,r.kB,t vs Q h⟩
abbrev Ph(mg:ag->Option aj)(base:aZ)(T:af):Prop:=iB≠T/\∃bm o,mg "__builtins__"=some (.ref bm)/\bm≠rH/\bm≠iB/\bm≠T/\base.get? bm=some o/\o.cls=.type "module"/\o.dict=some rH/\o.data=.plain
inductive Pj(G:Gx)(vs:List V)(H:Hp)(Q:VK)(E:XK):Prop|mk:∀(O A:af->Prop)(t:aN)(tv:V)(level back:Nat)(ws:List x9)(wv:V),vs=[tv,nV level,nV back,wv]->Good t->((∀b,(O b\/A b)->H b≠none))->kR G H A->Rep G (λb=>O b\/A b) H (aq t) tv->Rep G (λb=>O b\/A b) H (.lst (ws.map al)) wv->ws.length<=1000->(∀w∈ws,w.length<=400)->(∀v H' A',Ext A H A' H'->kR G H' A'->(∀b,A' b->H' b≠none)->gt (bJ G) H H'->Rep G (λb=>O b\/A' b) H' (al (Bx t level back ws)) v->Q v H')->Pj G vs H Q E
abbrev Pk(G:Gx):Sp:=λvs H Q E=>Pj G vs H Q E
def Pl:du ["tables","level","back","texts","ranks","text"] ["tables","level","back","texts"] (bx (top 138)):=⟨rfl,rfl,rfl,by trivial,rfl,by trivial,by trivial⟩
inductive FA(H:Hp)(D:af)(t:aN)(level back:Nat)(ws:List (List Nat))(i:Nat)(H':Hp):Prop|mk:∀bs:List af,i<=ws.length->aG H H'->H' D=some (.lst (bs.map V.ref))->bs.length=i->(∀j b,bs[j]?=some b->b≠D/\Rd H' b (.lst ((cR t level back (ws.getD j [])).map nV)))->FA H D t level back ws i H'
def Z!{P:bA}{w:bB}{mg:ag->Option aj}{base:aZ}{G:Gx}{f:af}{fd:eQ}(C:Txt mg base G)(F:cU G.K "numbers_by_key" "numbers_by_key" (top 138) f fd)(aaa:∃c,fd.code=.ref c/\G8 base c (bJ G))(Pm:Ph mg base (bJ G))(aab:bh P w mg base G aS 57 "key_of" 8 ["tables","level","back","text"] jF):bS P w G.K mg base aS 9 f fd ["tables","level","back","texts"] (Pk G):=by
 refine Z? (N:=["tables","level","back","texts","ranks","text"]) (k:=8) F Pl (λvs H Q E ⟨O,A,t,tv,h,l,B,wv,e,_,_,_,_,_,_,_,_⟩=>by rw[e];rfl) aaa λc0 A outer s H E hC hr=>?_;have hN:=Pl.nd;refine⟨_,bV (iQ (i:=4) hN (H! (i:=5) [("text",5)] hN (vn (G:=G) (pv 3)) (Ek (N:=["tables","level","back","texts","ranks","text"]) (sc:=bx (top 138)) (by decide+kernel)) (λs H Cc cl fp=>oy (i:=5) hN rfl (by first|exact cy rfl|exact bM rfl)) (λs H Cc cl fp=>cA (E:=E0) (j9 aab) (hr.mono (by decide:8<=8)) aX (aV (pv 0) (aV (pv 1) (aV (pv 2) (aV (pv 5) bG))))))) (cK (ee (Yn (i:=4) rfl rfl (C.b 5) (hr.mono (by decide:3<=8)) (CI Yl rfl (C.b 3) boot_range (aV (hlen (G:=G) (C.b 0) (pv 3)) bG rfl)) (Yh (T:=bJ G) rfl hC rfl rfl rfl Pm.1 Pm.2) rfl rfl (by exact bM (cy rfl)) rfl rfl rfl rfl (by decide+kernel) rfl rfl (λv pm c ctv=>rfl) (by decide) (by decide) (by decide)))),?_⟩;intro vs Q ⟨O,A,t,tv,h,l,B,wv,e,g,bI,tb,rt,rw',hl,w9,q⟩;subst e;obtain⟨a,p,rfl,rd,na,rl⟩:=rw';have hlen:p.length=B.length:=by rw[<-rl.length,bZ]
 refine⟨.ref a,rfl,a,rfl,⟨p,.inl rd⟩,λD hD=>?_⟩;have haD:a≠D:=λz=>J5 rd (z▸hD);have nL:∀S,aG H S->Rd S a (.lst p):=λS Z=>by
  rcases rd with z|⟨o,z⟩;·exact .inl (Z _ _ z)
  ·exact .inr ⟨o,Z _ _ z⟩
 refine⟨λi m S=>m=B.length-i/\FA H D t h l B i S,⟨B.length,rfl,[],fK _,cY hD,aW,rfl,λj b z=>by simp at z⟩,λi m S z=>?_⟩;obtain⟨hm,bs,hi,Z,eD,Pn,Po⟩:=z;by_cases fQ:i=B.length
 ·left;refine⟨⟨p,.inl (nL S Z),by omega⟩,?_⟩;subst fQ;have hTD:bJ G≠D:=λz=>by obtain⟨_,ps,Y,_⟩:=tb;rw[z,hD]at Y;cases Y
  dsimp only[iT,yq];refine⟨.ref a,rfl,a,p,rfl,.inl (.inl (nL S Z)),_,rfl,λr px=>?_⟩;have s1:aG S (upd S r (.ik 0 (p.length:Nat))):=cY px;obtain⟨aT,ps,eT,tok,aac⟩:=tb;have FC:r≠bJ G:=λz=>by have:=Z _ _ eT;rw[z,this]at px;cases px
  have xa:upd S r (.ik 0 (p.length:Nat)) (bJ G)=some (.fj ps):=s1 _ _ (Z _ _ eT);have L:=Z.trans s1;have fin:∀(I:Hp) (A2:af->Prop) (fa:af),aG (λb=>if b=bJ G then none else upd S r (.ik 0 (p.length:Nat)) b) I->kR G I A2->(∀b,A b->A2 b)->(∀b,A2 b->A b\/H b=none)->(∀b,A2 b->I b≠none)->∀U,I U=none->Q (.ref U) (upd I U (.lst ((gC.sortI (kQ (keysOf t h l B)) (bU B.length)).map λi=>V.int (i:Nat)))):=by
   intro I A2 fa k2 Pp aad aae Pq U uj;have keep:∀b o,H b=some o->b≠bJ G->I b=some o:=λb o J nb=>k2 b o (by dsimp only;rw[ay nb];exact L b o J);have s3:aG I (upd I U (.lst ((gC.sortI (kQ (keysOf t h l B)) (bU B.length)).map λi=>V.int (i:Nat)))):=cY uj;have hDO:¬(O U\/A2 U):=λz=>by
    rcases z with z|z
    ·cases Y:H U with
     |none=>exact bI U (.inl z) Y
     |some o=>
      by_cases hz:U=bJ G;·obtain⟨_,ps2,e2,_⟩:=Pp;rw[hz,e2]at uj;cases uj
      ·rw[keep U o Y hz]at uj;cases uj
    ·exact Pq U z uj
   refine q (.ref U) _ A2 ⟨λb o J X=>?_,aad,aae⟩ (Pp.keep s3) (λb z=>jX Pq s3 b z) (λb o J nb=>s3 b o (keep b o J nb)) ?_
   ·refine s3 b o (keep b o J ?_);rcases X with X|X;·exactλz=>X (z▸aT)
    ·rintro rfl;rw[eT]at J;cases J;rcases X with⟨_,X⟩|⟨_,_,X⟩<;>cases X
   ·rw[Ov];refine⟨U,_,rfl,.inl aW,hDO,?_⟩;exact Fk G _ _ _
  have Pr:∀(I:Hp) (fa ca:af) (qual:ag) (M:rn) (body:bp) (scope:fe) (iK:List (ag×af)),I fa=some (qr fa qual M body scope iK ca)->I ca=some (mx ca qual)->I r=some (.ik 0 (p.length:Nat))->(∀b o,upd S r (.ik 0 (p.length:Nat)) b=some o->b≠bJ G->I b=some o)->(∀U,I U=none->Q (.ref U) (upd I U (.lst ((gC.sortI (kQ (keysOf t h l B)) (bU B.length)).map λi=>V.int (i:Nat)))))->∃(f c a0:af) (bs:List af) (vL:List (List Int)) (rk:Nat->Int),V.ref fa=.ref f/\I f=some (qr f qual M body scope iK c)/\I c=some (mx c qual)/\I r=some (.ik 0 (p.length:Nat))/\([some tv,some (nV h),some (nV l),some (.ref a),some (.ref D),none]:L2.St)[4]?=some (some (.ref a0))/\Rd I a0 (.lst (bs.map V.ref))/\bs.length=p.length/\(∀(j:Nat) (b:af),bs[j]?=some b->Rd I b (.lst ((vL.getD j []).map V.int)))/\(∀i j,i<p.length->j<p.length->HT.lexLt (vL.getD i []) (vL.getD j [])=decide (rk i<rk j))/\∀D,I D=none->Q (.ref D) (upd I D (.lst ((gC.sortI rk (bU p.length)).map λi=>V.int (i:Nat)))):=by
   intro I fa ca qual M body scope iK Y e2 e3 k2 hq;have FD:∀j,j<B.length->((keysOf t h l B).map λk=>k.map λn:Nat=>(n:Int)).getD j []=((keysOf t h l B).getD j []).map λn:Nat=>(n:Int):=λj hj=>by
    have hj':j<(keysOf t h l B).length:=by unfold keysOf;rw[bZ];exact hj
    rw[jf,jp,getD_at hj' []];rfl
   refine⟨fa,ca,D,bs,(keysOf t h l B).map λk=>k.map λn:Nat=>(n:Int),kQ (keysOf t h l B),rfl,Y,e2,e3,rfl,.inl (k2 D _ (s1 _ _ eD) (bK hTD)),by omega,λj b ej=>?_,λi j hi hj=>?_,by rw[hlen];exact hq⟩
   ·obtain⟨nb,rb⟩:=Po j b ej;have hj:j<B.length:=by have:=jt ej;omega
    have Ps:b≠bJ G:=λz=>by have:=Z _ _ eT;rcases rb with y|⟨o,y⟩<;>rw[z,this]at y<;>cases y
    rw[FD j hj];have hk:(keysOf t h l B).getD j []=cR t h l (B.getD j []):=by unfold keysOf;rw[jf,jp,getD_at hj []];rfl
    rw[hk,fZ];rcases rb with y|⟨o,y⟩;·exact .inl (k2 b _ (s1 _ _ y) Ps)
    ·exact .inr ⟨o,k2 b _ (s1 _ _ y) Ps⟩
   ·have lC:(keysOf t h l B).length=B.length:=by unfold keysOf;rw[bZ]
    rw[FD i (by omega),FD j (by omega)];exact Ot _ i j (by omega) (by omega)
  refine⟨r,p.length,rfl,aW,by omega,ps,xa,tok,?_⟩;rcases aac with AC|⟨c,Pt,hAc,hc⟩
  ·left;refine⟨AC,λc f hc hf pw=>?_⟩;have FE:c≠bJ G:=λz=>by rw[z,xa]at hc;cases hc
   have FG:f≠bJ G:=λz=>by rw[z,xa]at hf;cases hf
   have hcr:c≠r:=λz=>by rw[z,aW]at hc;cases hc
   have FH:f≠r:=λz=>by rw[z,aW]at hf;cases hf
   have hcH:H c=none:=by cases Y:H c with|none=>rfl|some o=>rw[L c o Y]at hc;cases hc
   have k2:∀(uf:HO) b o,upd S r (.ik 0 (p.length:Nat)) b=some o->b≠bJ G->upd (upd (upd (upd S r (.ik 0 (p.length:Nat))) (bJ G) (.fj (ps++#[gW qW.line,gW qW.col,.ref c]))) c (mx c Fp)) f uf b=some o:=λuf b o J nb=>by
    have Fu:b≠c:=λz=>by rw[z,hc]at J;cases J
    have FI:b≠f:=λz=>by rw[z,hf]at J;cases J
    rw[aD FI,aD Fu,aD nb];exact J
   refine Pr _ f c _ _ _ _ _ aW (by rw[aD pw];exact aW) (by rw[aD (bK FH),aD (bK hcr),aD FC];exact aW) (k2 _) (fin _ (λb=>A b\/b=c) f (λb o J=>?_) ⟨.inl aT,ps++#[gW qW.line,gW qW.col,.ref c],?_,?_,.inr ⟨c,?_,.inr rfl,?_⟩⟩ (λb z=>.inl z) (λb z=>z.elim .inl λz=>.inr (z▸hcH)) (λb z=>?_))
   ·dsimp only at J;by_cases X:b=bJ G;·rw[ax X]at J;cases J
    ·rw[ay X]at J;exact k2 _ b o J X
   ·rw[aD (bK FG),aD (bK FE),aW];rfl
   ·rw[acF];exact TriplesOk_snoc _ _ _ _ tok
   ·rw[acF];exact codeAmong_snoc _ tok AC
   ·rw[aD pw];exact aW
   ·rcases z with z|z
    ·by_cases X:b=bJ G;·rw[X,aD (bK FG),aD (bK FE),aW];simp
     ·cases Y:H b with
      |none=>exact bw Y (bI b (.inr z))
      |some o=>
       have hk:=k2 (qr f Fp ⟨[],[],none,[],[],none,[]⟩ (.Constant .none 0 ⟨0,0,0,0⟩) (bx (top 138)) [] c) b o (L b o Y) X;have FI:b≠f:=λz=>by rw[z]at Y;rw[L _ _ Y]at hf;cases hf
       rw[aD FI]at hk⊢
       intro z2;exact bw (hk.symm.trans z2) (by simp)
    ·rw[z,aD pw,aW];simp
  ·right;have FE:c≠bJ G:=λz=>by rw[z,eT]at hc;cases hc
   refine⟨c,Pt,L _ _ hc,λf hf=>?_⟩;have FG:f≠bJ G:=λz=>by rw[z,xa]at hf;cases hf
   have FH:f≠r:=λz=>by rw[z,aW]at hf;cases hf
   have pw:c≠f:=λz=>by rw[<-z,L _ _ hc]at hf;cases hf
   have sf:∀o,aG (upd S r (.ik 0 (p.length:Nat))) (upd (upd S r (.ik 0 (p.length:Nat))) f o):=λo=>cY hf;refine Pr _ f c _ _ _ _ _ aW (by rw[aD pw];exact L _ _ hc) (by rw[aD (bK FH)];exact aW) (λb o J nb=>sf _ b o J) (fin _ A f (λb o J=>?_) ⟨aT,ps,sf _ _ _ xa,tok,.inr ⟨c,Pt,hAc,by rw[aD pw];exact L _ _ hc⟩⟩ (λb z=>z) (λb z=>.inl z) (λb z=>?_))
   ·dsimp only at J;by_cases X:b=bJ G;·rw[ax X]at J;cases J
    ·rw[ay X]at J;exact sf _ b o J
   ·cases Y:H b with|none=>exact bw Y (bI b (.inr z))|some o=>rw[sf _ b o (L b o Y)];simp
 ·right;have f6:i<B.length:=by omega
  have vM:i<p.length:=by omega
  refine⟨⟨p,p[i],.inl (nL S Z),cI vM⟩,λI=>FA H D t h l B (i+1) I,λI z=>⟨B.length-(i+1),by omega,rfl,z⟩,λx I ⟨ex,ey⟩=>?_⟩;subst ex;have hx:=ey _ (.inl (nL I Z));rw[cI vM]at hx;have hx:=eR hx;refine⟨rfl,?_⟩;dsimp only[sL];rw[ax rfl];refine⟨tv,rfl,nV h,rfl,nV l,rfl,x,rfl,?_⟩;obtain⟨xv,AD,rx⟩:=rl.get (i:=i) (d:=al (B.getD i [])) (by rw[jp,getD_at f6 []];rfl);rw[cI vM,hx]at AD;have AD:=eR AD;subst AD;have gh:∀b,((O b\/A b)\/b=D)->(O b\/A b)\/H b=none:=λb z=>z.elim .inl λz=>.inr (z▸hD);have hwi:(B.getD i []).length<=400:=w9 _ (fY (getD_at f6 []));refine⟨λb=>(O b\/A b)\/b=D,[aq t,nD h,nD l,al (B.getD i [])],⟨_,_,rfl,rt.mono (Kp.of Z) gh,_,_,rfl,rfl,_,_,rfl,rfl,_,_,rfl,rx.mono (Kp.of Z) gh,rfl⟩,λb z=>?_,rfl,?_⟩
  ·rcases z with z|z;·exact jX bI Z b z
   ·rw[z,eD];simp
  rw[wU t g h l _ hwi];intro v H3 s3 rv;obtain⟨b,rfl,rb,nb⟩:=Au rv;have AE:b≠D:=λz=>nb (.inr z);have Pu:∀(b0:af) (o:HO) (u:HO),b0≠D->Rd H3 b0 u->Rd (upd H3 D o) b0 u:=λb0 o u Pw z=>by
   rcases z with z|⟨o2,z⟩;·exact .inl (by rw[aD Pw];exact z)
   ·exact .inr ⟨o2,by rw[aD Pw];exact z⟩
  refine⟨bs.map V.ref,s3 _ _ eD,by rw[bZ];have:bj=16777216:=gG;omega,bs++[b],by omega,λd o ed=>?_,by rw[aW,lZ];rfl,by simp[Pn],λj b' ej=>?_⟩;·rw[aD (λz=>by rw[z,hD]at ed;cases ed)];exact s3 _ _ (Z _ _ ed)
  ·by_cases hji:j<bs.length
   ·rw[AX hji]at ej;obtain⟨z1,z2⟩:=Po j b' ej;refine⟨z1,Pu b' _ _ z1 ?_⟩;rcases z2 with z|⟨o2,z⟩;·exact .inl (s3 _ _ z)
    ·exact .inr ⟨o2,s3 _ _ z⟩
   ·have hj:j=bs.length:=by have:=jt ej;simp at this;omega
    subst hj;rw[RG (bR _),RY]at ej;have ej:=eR ej;subst ej;refine⟨AE,Pu b _ _ AE ?_⟩;rw[Pn];exact rb
def aaf(d:gS G H O A a s)(ex:Ext A H j f)(t:kR G f j)(v:∀b,j b->f b≠none)(k:gt (bJ G) H f):gS G f O j a s:=by
 obtain⟨dx,x,pv,u,rt,ps⟩:=d.ob;obtain⟨I,J,L,_⟩:=d.tb;have l:∀b o,H b=some o->(∀q,o≠.fj q)->b≠bJ G:=λb o e n z=>by grind
 have m:Kp (λb=>O b\/A b) H f:=λb o e z=>ex.1 b o e (z.imp (λz w=>z (.inr w)) id);refine⟨ex.2.1 _ d.mem,λb z=>?_,d.good,t,dx,x,pv,k _ _ u (l _ _ u λq z=>by trivial),rt.mono m (λb z=>z.elim (λz=>.inl (.inl z)) λz=>(ex.2.2 b z).imp .inr id),?_⟩
 ·rcases z with z|z
  ·by_cases y:b=bJ G;·obtain⟨_,M,N,_⟩:=t;lia
   ·cases e:H b with|none=>exact bw e (d.bI b (.inl z))|some o=>rw[k b o e y];simp
  simp_all
 ·unfold mH at ps⊢
  cases B:s.rec_ with|none=>simp_all|some q=>rw[B]at ps;obtain⟨p,c,r,g,st,h,e,C,E,i,F⟩:=ps;exact⟨p,c,r,g,st,h,e,ex.2.1 _ C,ex.2.1 _ E,⟨k _ _ i.ob (l _ _ i.ob λq z=>by trivial),k _ _ i.ls (l _ _ i.ls λq z=>by cases z)⟩,F⟩
def Px(i:Nat)(a:σ[i]?=some (some v))(j:Rep G f H d v)(e:∀b,f b->H b≠none)(h:uh G H Q E (F [d])):p1 (gx G 1 F) [] E (eW (d5 i) eu) σ H Q:=by refine⟨v,a,f,[d],⟨_,_,rfl,j,rfl⟩,e,rfl,?_⟩;delta uh at h;cases g:F [d]with|bad=>simp_all|exc c=>rw[g]at h;exact h|ok d=>rw[g]at h;exactλv k l _=>h v k l
def aag{v1 v2:V}(i j:Nat)(e:σ[i]?=some (some v1))(a:σ[j]?=some (some v2))(n:Rep G f H k v1)(o:Rep G f H l v2)(g:∀b,f b->H b≠none)(h:uh G H Q E (F [k,l])):p1 (gx G 2 F) [] E (eW (d5 i) (eW (d5 j) eu)) σ H Q:=by refine⟨v1,e,v2,a,f,[k,l],⟨_,_,rfl,n,_,_,rfl,o,rfl⟩,g,rfl,?_⟩;delta uh at h;cases m:F _ with|bad=>simp_all|exc c=>rw[m]at h;exact h|ok d=>rw[m]at h;exactλv p q _=>h v p q
abbrev re(l b:Int)(n x:List Int):Bool:=rZ l b&&(n.all (λ(k:Int)=>decide (0<=k))&&Bv n==(x.length:Int)&&decide (n.length<=iE))
abbrev Py(s:cJ)(l b:Int)(n x:List Int):R D:=res (re l b n x) [x] (kq (Bx s.tab l.toNat b.toNat (mS (bt n) (bt x))))
inductive AF(s:cJ)(ds:List D)(s':cJ)(r:R D):Prop|mk:∀(l b:Int)(n x:List Int),ds=[.int l,.int b,aO n,aO x]->n.length<=20000->x.length<=20000->s'=s->r=Py s l b n x->AF s ds s' r
def aah(x:List Int)(h:x.all (λ(k:Int)=>decide (0<=k))=true):aO x=al (bt x):=by delta bt aO al;rw[fZ];congr 1;refine uA λn a=>?_;grind
def FJ:∀(n:List Nat)(x:x9),(mS n x).length=n.length/\∀w∈mS n x,w.length<=x.length|[],x=>⟨rfl,λw h=>by cases h⟩|k::n,x=>by obtain⟨a,b⟩:=FJ n (x.drop k);refine⟨by unfold mS;simp_all,λw h=>?_⟩;unfold mS at h;grind
def aai:du ["desk","level","back","lengths","x"] ["desk","level","back","lengths","x"] (bx (top 158)):=⟨rfl,rfl,rfl,by trivial,rfl,by trivial,by trivial⟩
def aaj{P:bA}{w:bB}{mg:ag->Option aj}{base:aZ}{G:Gx}{f:af}{fd:eQ}(C:Txt mg base G)(F:cU G.K "answer_order" "answer_order" (top 158) f fd)(B1:bh P w mg base G (bH P w) 16 "check_level" 1 ["level"] qC)(B2:bh P w mg base G (bH P w) 17 "check_back" 1 ["back"] wd)(B3:bh P w mg base G (bH P w) 21 "check_lengths" 1 ["lengths","x"] Eo)(B4:bh P w mg base G (bH P w) 18 "check_texts" 3 ["texts"] kN)(B5:bh P w mg base G aS 65 "cut_text" 1 ["lengths","x"] Eu)(B6:ft P w mg base G aS 64 "numbers_by_key" 9 ["tables","level","back","texts"] (Pk G)):bS P w G.K mg base (bH P w) 10 f fd ["desk","level","back","lengths","x"] (fH G 4 AF):=by
 refine lO (N:=["desk","level","back","lengths","x"]) (k:=9) F aai (λvs H Q E ⟨O,A,a,s,ds,ws,s',r,e,hn,m,Y,L,k⟩=>by rw[e,jj,<-Y.length,hn];rfl) _ (λZ A outer s H E I=>by haveI X:=kH (P:=P) (w:=w) (K:=G.K) (mg:=mg) (base:=base) (N:=["desk","level","back","lengths","x"]) (qual:="answer_order") (scope:=bx (top 158)) (f:=f) (cd:=Z) (A:=A) (outer:=outer) (s:=s) (H:=H) (E:=E);exact bV (iI (cA (E:=E) (j9 B1) (I.mono (by lia:1<=9)) X.pass (aV (pv 1) bG))) (bV (iI (cA (E:=E) (j9 B2) (I.mono (by lia:1<=9)) X.pass (aV (pv 2) bG))) (bV (iI (cA (E:=E) (j9 B3) (I.mono (by lia:1<=9)) X.pass (aV (pv 3) (aV (pv 4) bG)))) (bV (iI (cA (E:=E) (j9 B4) (I.mono (by lia:3<=9)) X.pass (aV (lg (aV (pv 4) bG)) bG))) (cK (ee (cA (E:=E0) B6 (I.mono (by lia:9<=9)) aX (aV (hf (G:=G) (pv 0)) (aV (pv 1) (aV (pv 2) (aV (cA (E:=E0) (j9 B5) (I.mono (by lia:1<=9)) aX (aV (pv 3) (aV (pv 4) bG))) bG))))))))))) λvs H Q E ⟨O,A,a,s,ds,ws,s',r,e,hn,m,Y,L,k⟩=>?_;obtain⟨l,b,n,x,rfl,hnl,U?,es,rfl⟩:=L;have es:=es.symm;subst es;obtain⟨lv,FK,rfl,r1,bv,ws2,rfl,r2,nv,ws3,rfl,r3,xv,ws4,rfl,r4,hw⟩:=Y;cases r1;cases r2;cases hw;subst e;delta Py res at k;dsimp only[ow,mX];refine Px (d:=.int l) 1 rfl rfl m.bI ?_;rw[Ah l];have p:∀q,aG H q->re l b n x=false->E (G.xv 0) none q:=λq o M=>by rw[ax (.inl M)]at k;exact k q A (Ext.of o) (m.keep o)
 delta c8;cases hl:dF 1 3 l with|false=>exactλq o=>p q o (by delta re rZ;simp_all)|true=>rw[ax rfl];intro v1 q o;haveI zz:=m.keep o;refine Px (d:=.int b) 2 rfl rfl zz.bI ?_;rw[EO b];delta c8;cases M:dF 0 1 b with|false=>exactλH2 s2=>p H2 (o.trans s2) (by delta re rZ;simp_all)|true=>
 rw[ax rfl];intro v2 H2 s2;haveI c:=o.trans s2;haveI hd2:=m.keep c;refine aag 3 4 rfl rfl (r3.keep c) (r4.keep c) hd2.bI ?_;rw[e! n x hnl];delta c8;have S:re l b n x=(n.all (λ(k:Int)=>decide (0<=k))&&Bv n==(x.length:Int)&&decide (n.length<=iE)):=by delta re rZ;rw[hl,M];rfl
 rw[<-S];cases g:re l b n x with|false=>exactλH3 s3=>p H3 (c.trans s3) g|true=>rw[ax rfl];intro v3 H3 s3;have h:=c.trans s3;have t:=m.keep h;refine Fv 4 rfl (r4.keep h) t.bI ?_;rw[NL [x] (by simp) (by simp_all)];rw[g]at k;cases i:[x].any (ko iE)with|true=>rw[i,ax (.inr rfl)]at k;rw[ax rfl];exactλJ u=>k J A (Ext.of (h.trans u)) (t.keep u)|false=>rw[i,ay (λz=>z.elim Bz Bz)]at k;rw[ay bE];delta c8;cases v:[x].all gZ with|false=>rw[v,ax rfl]at k;exactλJ u=>k J A (Ext.of (h.trans u)) (t.keep u)|true=>
 rw[v,ay Bz]at k;rw[ax rfl];intro v4 J u;have j:=h.trans u;have y:=m.keep j;obtain⟨dx,tv,pv,ho,rt,ps⟩:=y.ob;have hpx:gZ x=true:=by simpa using v
 have aeA:=qU x (by simp_all);rw[S]at g;simp only[d0]at g;obtain⟨⟨hn0,_⟩,T⟩:=g;have aeB:n.length<=100:=by unfold iE at T;simpa using T
 refine⟨.ref a,rfl,a,_,dx,_,tv,rfl,ho,(C.k 9).cl,bY (C.k 9) 0 rfl,rfl,.int l,rfl,.int b,rfl,nv,rfl,xv,rfl,?_⟩;have AA:Rep G (λb=>O b\/A b) J (al (bt n)) nv:=by rw[<-aah n hn0];exact r3.keep j
 have r4':Rep G (λb=>O b\/A b) J (al (bt x)) xv:=by rw[<-jH x hpx];exact r4.keep j
 refine⟨λb=>O b\/A b,[al (bt n),al (bt x)],⟨_,_,rfl,AA,_,_,rfl,r4',rfl⟩,y.bI,rfl,?_⟩;rw[v_cut _ _ (by rw[dS];lia)];intro v5 H5 s5 r5;have B:=y.keep s5;obtain⟨c1,c2⟩:=FJ (bt n) (bt x);have el:V.int l=nV l.toNat:=by unfold dF at hl;simp at hl;show V.int l=V.int ((l.toNat:Nat):Int);rw[RZ (by lia)]
 have eb:V.int b=nV b.toNat:=by unfold dF at M;simp at M;show V.int b=V.int ((b.toNat:Nat):Int);rw[RZ (by lia)]
 refine⟨O,A,s.tab,tv,l.toNat,b.toNat,mS (bt n) (bt x),v5,by grind,m.good,B.bI,B.tb,rt.keep s5,r5,by rw[c1,dS];lia,λw hw=>?_,λv6 H6 A6 U tb6 W k6 r6=>?_⟩;·have:=c2 w hw;rw[dS]at this;lia
 ·rw[<-pk]at r6;exact k v6 H6 A6 ((Ext.of (j.trans s5)).trans U) (aaf B U tb6 W k6) r6
def eqT(h:n=k):decide (V.int n=V.int k)=true:=by lia
def mI(h:n≠k):decide (V.int n=V.int k)=false:=iC λz=>h (V.int.inj z)
def FL(b:Bool)(l:List (List Int))(a:List Int):isList (res b l a):=by
 delta res;split;·trivial
 ·split;·trivial
  ·exact⟨a,rfl⟩
abbrev xb:pu:=λs ds b r=>∃(n f:Int) (a:List (List Int)),ds=[fV n [f] a]/\(∀x∈a,x.length<=20000)/\b=s/\((n=2/\∃x,a=[x]/\r=res (dF 0 3 f) [x] (kq (cC s.tab f.toNat (bt x))))\/(n=3/\∃x,a=[x]/\r=res (dF 0 3 f) [x] (bit (cC s.tab f.toNat (bt x)==bt x)))\/(n=4/\∃x y,a=[x,y]/\r=res (f==0||f==2) [x,y] (bit (cC s.tab f.toNat (bt x)==cC s.tab f.toNat (bt y))))\/(n=5/\∃x y,a=[x,y]/\r=res (dF 0 3 f) [x,y] (kq (cC s.tab f.toNat (bt x++bt y)))))
def aak:∀s ds e r,Good s.tab->xb s ds e r->e=s/\isList r/\∀a,Ev (dD s.tab a::ds)=r:=by
 rintro s ds e r g ⟨n,f,c,rfl,b,i,h⟩;refine⟨i,?_,λa=>?_⟩;·rcases h with⟨_,x,_,rfl⟩|⟨_,x,_,rfl⟩|⟨_,x,y,_,rfl⟩|⟨_,x,y,_,rfl⟩<;>exact FL _ _ _
 ·rw[E_ s.tab g a n f c b (by rcases h with⟨h,x,d,_⟩|⟨h,x,d,_⟩|⟨h,x,y,d,_⟩|⟨h,x,y,d,_⟩<;>subst d<;>simp[h])];rcases h with⟨rfl,x,rfl,rfl⟩|⟨rfl,x,rfl,rfl⟩|⟨rfl,x,y,rfl,rfl⟩|⟨rfl,x,y,rfl,rfl⟩;·rw[ax rfl];exact B! s.tab g a f x (b x (by simp))
  ·rw[ay (by decide),ax rfl];exact C_ s.tab g a f x (b x (by simp))
  ·rw[ay (by decide),ay (by decide),ax rfl];exact C? s.tab g a f x y (b x (by simp)) (b y (by simp))
  ·rw[ay (by decide),ay (by decide),ay (by decide)];exact C! s.tab g a f x y (b x (by simp)) (b y (by simp))
inductive AG(s:cJ)(ds:List D)(s':cJ)(r:R D):Prop|mk:∀(l b:Int)(x:List Int),ds=[.int l,.int b,aO x]->x.length<=20000->s'=s->r=res (rZ l b) [x] (kq (cR s.tab l.toNat b.toNat (bt x)))->AG s ds s' r
def aal:∀s ds a r,Good s.tab->AG s ds a r->a=s/\isList r/\∀c,Ex (dD s.tab c::ds)=r:=by rintro s ds a r g ⟨l,b,x,rfl,d,e,rfl⟩;exact⟨e,FL _ _ _,λc=>D_ s.tab g c l b x d⟩
inductive AH(s:cJ)(ds:List D)(s':cJ)(r:R D):Prop|mk:∀(l b:Int)(x y:List Int),ds=[.int l,.int b,aO x,aO y]->x.length<=20000->y.length<=20000->s'=s->r=res (rZ l b) [x,y] [(Bw s.tab l.toNat b.toNat (bt x) (bt y):Int)]->AH s ds s' r
def aam:∀s ds a r,Good s.tab->AH s ds a r->a=s/\isList r/\∀c,Ey (dD s.tab c::ds)=r:=by rintro s ds a r g ⟨l,b,x,y,rfl,d,e,f,rfl⟩;exact⟨f,FL _ _ _,λc=>D? s.tab g c l b x y d e⟩
abbrev findR(t:aN)(l:Int)(x y:List Int):R D:=if findB l x y=false then .exc 0 else if[x,y].all gZ=false then .exc 2 else if((cR t l.toNat 0 (bt y)).all λw=>w==1)=true then .exc 4 else .ok (findD (uq t l.toNat (bt x) (bt y)))
inductive AI(s:cJ)(ds:List D)(s':cJ)(r:R D):Prop|mk:∀(l:Int)(x y:List Int),ds=[.int l,aO x,aO y]->x.length<=20000->y.length<=20000->s'=s->r=findR s.tab l x y->AI s ds s' r
def aan:∀s ds a r,Good s.tab->AI s ds a r->a=s/\isList r/\∀b,Ez (dD s.tab b::ds)=r:=by
 rintro s ds a r g ⟨l,x,y,rfl,c,d,e,rfl⟩;refine⟨e,?_,λb=>D! s.tab g b l x y c d⟩;delta findR;split;·trivial
 ·split;·trivial
  ·split;·trivial
   ·delta findD;split;·rename_i r _;exact⟨kq _,(pk _).symm⟩
    ·exact⟨kq [0],(pk _).symm⟩
def FM(j:i1 G 7 ["number","arguments","rows"])(h:Rep G f H (fV n args b) k):∃d dx ab c a,k=.ref d/\H d=some (.ins (G.cm 7) dx [("number",.int n),("arguments",.ref ab),("rows",.ref c)])/\Rd H ab (.lst (args.map V.int))/\Rd H c (.lst a)/\aU G f H (b.map aO) a/\Rep G f H (.lst (b.map aO)) (.ref c):=by obtain⟨d,dx,vs,e,g,v,nb,v1,w,l,m,v2,x,o,p,v3,y,q,i,z⟩:=h;subst m;subst l o q;obtain⟨ab,rfl,r,_⟩:=Av p;obtain⟨c,a,rfl,s,t,u⟩:=id i;rw[j.nm]at g;exact⟨d,dx,ab,c,a,e,g,r,s,u,i⟩
def py{a:List (List Int)}(f:aU G g H (a.map aO) b){j:Nat}(h:a[j]?=some x):∃c,ew b (j:Int)=some c/\Rep G g H (aO x) c:=by obtain⟨c,e,r⟩:=f.get (i:=j) (d:=aO x) (by simp_all);have k:=jt e;delta ew h0;simp_all
abbrev xf:pu:=λs ds b r=>∃(n:Int) (args:List Int) (a:List (List Int)),ds=[fV n args a]/\((n=6/\∃f,args=[f]/\Ay s [.int f] b r)\/(n=7/\∃x,a=[x]/\Az s [aO x] b r)\/(n=8/\Fy s [] b r))
def aao:du ["desk","call"] ["desk","call"] (bx (top 146)):=⟨rfl,rfl,rfl,by decide+kernel,rfl,by decide+kernel,by decide+kernel⟩
def aap(C:Txt mg base G)(F:cU G.K "answer_of_pieces" "answer_of_pieces" (top 146) f y)(z:ft P w mg base G (bH P w) 77 "answer_open" 3 ["desk","form"] (fH G 1 Ay))(B:ft P w mg base G (bH P w) 78 "answer_put" 8 ["desk","x"] (fH G 1 Az))(I:ft P w mg base G (bH P w) 79 "answer_end" 8 ["desk"] (fH G 0 Fy)):bS P w G.K mg base (bH P w) 9 f y ["desk","call"] (fH G 1 xf):=by
 refine lO (N:=["desk","call"]) (k:=8) F aao (λvs H Q E ⟨O,A,a,s,ds,J,i,r,e,q,l,g,b,k⟩=>by rw[e,jj,<-g.length,q];rfl) _ (λm A outer s H E o=>by haveI p:=kH (P:=P) (w:=w) (K:=G.K) (mg:=mg) (base:=base) (N:=["desk","call"]) (qual:="answer_of_pieces") (scope:=bx (top 146)) (f:=f) (cd:=m) (A:=A) (outer:=outer) (s:=s) (H:=H) (E:=E);exact bV (ip (lb oz (hf (G:=G) (pv 1)) (jb (C.c 27)) (eV _)) (cK (ee (cA (E:=E) z (o.mono (by decide:3<=8)) p.pass (aV (pv 0) (aV (fQ (G:=G) (hf (G:=G) (pv 1)) fk) bG))))) io) (bV (ip (lb oz (hf (G:=G) (pv 1)) (jb (C.c 28)) (eV _)) (cK (ee (cA (E:=E) B (o.mono (by decide:8<=8)) p.pass (aV (pv 0) (aV (fQ (G:=G) (hf (G:=G) (pv 1)) fk) bG))))) io) (cK (ee (cA (E:=E) I (o.mono (by decide:8<=8)) p.pass (aV (pv 0) bG)))))) λvs H Q E ⟨O,A,a,s,ds,J,i,r,e,q,l,g,b,k⟩=>?_;obtain⟨n,args,t,rfl,b⟩:=b;obtain⟨Z,L,rfl,M,S⟩:=g;cases S;subst e;obtain⟨d,dx,ab,u,T,rfl,h,U,W,g,r3⟩:=FM (C.k 7) M;haveI cl:=(C.k 7).cl;refine⟨.ref d,rfl,d,_,dx,_,.int n,rfl,h,cl,bY (C.k 7) 0 rfl,rfl,rfl,_,rfl,?_⟩;rcases b with⟨rfl,f,rfl,b⟩|⟨rfl,x,rfl,b⟩|⟨rfl,b⟩;·rw[eqT rfl];(try dsimp only);(try rw[ax rfl]);refine⟨.ref a,rfl,.ref d,rfl,d,_,dx,_,.ref ab,rfl,h,cl,bY (C.k 7) 1 rfl,rfl,.inl ⟨ab,_,0,.int f,rfl,rfl,.inl U,rfl,?_⟩⟩;exact⟨O,A,a,s,[.int f],[.int f],i,r,rfl,rfl,l,⟨_,_,rfl,rfl,rfl⟩,b,k⟩
 ·rw[mI (by decide)];(try dsimp only);refine⟨.ref d,rfl,d,_,dx,_,.int 7,rfl,h,cl,bY (C.k 7) 0 rfl,rfl,rfl,_,rfl,?_⟩;rw[eqT rfl];(try dsimp only);(try rw[ax rfl]);obtain⟨v,X,Y⟩:=py (j:=0) g rfl;refine⟨.ref a,rfl,.ref d,rfl,d,_,dx,_,.ref u,rfl,h,cl,bY (C.k 7) 2 rfl,rfl,.inl ⟨u,_,0,v,rfl,rfl,.inl W,X,?_⟩⟩;exact⟨O,A,a,s,[aO x],[v],i,r,rfl,rfl,l,⟨_,_,rfl,Y,rfl⟩,b,k⟩
 ·rw[mI (by decide)];(try dsimp only);refine⟨.ref d,rfl,d,_,dx,_,.int 8,rfl,h,cl,bY (C.k 7) 0 rfl,rfl,rfl,_,rfl,?_⟩;rw[mI (by decide)];(try dsimp only);(try rw[ay bE]);refine⟨.ref a,rfl,?_⟩;exact⟨O,A,a,s,[],[],i,r,rfl,rfl,l,rfl,b,k⟩
abbrev xg:pu:=λs ds c r=>∃(n:Int) (args:List Int) (a:List (List Int)),ds=[fV n args a]/\((n=9/\∃l b x,args=[l,b]/\a=[x]/\AG s [.int l,.int b,aO x] c r)\/(n=10/\∃l b x y,args=[l,b]/\a=[x,y]/\AH s [.int l,.int b,aO x,aO y] c r)\/(n=11/\∃l b x y,args=[l,b]/\a=[x,y]/\AF s [.int l,.int b,aO x,aO y] c r)\/(n=12/\∃l x y,args=[l]/\a=[x,y]/\AI s [.int l,aO x,aO y] c r))
def Pz:du ["desk","call","level"] ["desk","call"] (bx (top 147)):=⟨rfl,rfl,rfl,by decide+kernel,rfl,by decide+kernel,by decide+kernel⟩
def aaq{P:bA}{w:bB}{mg:ag->Option aj}{base:aZ}{G:Gx}{f:af}{fd:eQ}(C:Txt mg base G)(F:cU G.K "answer_of_keys" "answer_of_keys" (top 147) f fd)(B9:ft P w mg base G (bH P w) 80 "answer_key" 9 ["desk","level","back","x"] (fH G 3 AG))(Z:ft P w mg base G (bH P w) 81 "answer_cmp" 10 ["desk","level","back","x","y"] (fH G 4 AH))(B11:ft P w mg base G (bH P w) 82 "answer_order" 10 ["desk","level","back","lengths","x"] (fH G 4 AF))(B12:ft P w mg base G (bH P w) 83 "answer_find" 10 ["desk","level","x","y"] (fH G 3 AI)):bS P w G.K mg base (bH P w) 11 f fd ["desk","call"] (fH G 1 xg):=by
 refine lO (N:=["desk","call","level"]) (k:=10) F Pz (λvs H Q E ⟨O,A,a,s,ds,ws,L,r,e,hn,M,o,d,k⟩=>by rw[e,jj,<-o.length,hn];rfl) _ (λgw A outer s H E X=>by have Y:=kH (P:=P) (w:=w) (K:=G.K) (mg:=mg) (base:=base) (N:=["desk","call","level"]) (qual:="answer_of_keys") (scope:=bx (top 147)) (f:=f) (cd:=gw) (A:=A) (outer:=outer) (s:=s) (H:=H) (E:=E);have hN:=Pz.nd;exact bV (iQ (i:=2) hN (fQ (G:=G) (hf (G:=G) (pv 1)) fk)) (bV (ip (lb oz (hf (G:=G) (pv 1)) (jb (C.c 30)) (eV _)) (cK (ee (cA (E:=E) B9 (X.mono (by decide:9<=10)) Y.pass (aV (pv 0) (aV (pv 2) (aV (fQ (G:=G) (hf (G:=G) (pv 1)) fk) (aV (fQ (G:=G) (hf (G:=G) (pv 1)) fk) bG))))))) io) (bV (ip (lb oz (hf (G:=G) (pv 1)) (jb (C.c 31)) (eV _)) (cK (ee (cA (E:=E) Z (X.mono (by decide:10<=10)) Y.pass (aV (pv 0) (aV (pv 2) (aV (fQ (G:=G) (hf (G:=G) (pv 1)) fk) (aV (fQ (G:=G) (hf (G:=G) (pv 1)) fk) (aV (fQ (G:=G) (hf (G:=G) (pv 1)) fk) bG)))))))) io) (bV (ip (lb oz (hf (G:=G) (pv 1)) (jb (C.c 32)) (eV _)) (cK (ee (cA (E:=E) B11 (X.mono (by decide:10<=10)) Y.pass (aV (pv 0) (aV (pv 2) (aV (fQ (G:=G) (hf (G:=G) (pv 1)) fk) (aV (fQ (G:=G) (hf (G:=G) (pv 1)) fk) (aV (fQ (G:=G) (hf (G:=G) (pv 1)) fk) bG)))))))) io) (cK (ee (cA (E:=E) B12 (X.mono (by decide:10<=10)) Y.pass (aV (pv 0) (aV (pv 2) (aV (fQ (G:=G) (hf (G:=G) (pv 1)) fk) (aV (fQ (G:=G) (hf (G:=G) (pv 1)) fk) bG))))))))))) λvs H Q E ⟨O,A,a,s,ds,ws,L,r,e,hn,M,o,d,k⟩=>?_;obtain⟨n,args,rows,rfl,d⟩:=d;obtain⟨cv,FK,rfl,rc,hw⟩:=o;cases hw;subst e;obtain⟨u,dx,ab,rb,PB,rfl,ho,ra,rr,o,r3⟩:=FM (C.k 7) rc;have cl:=(C.k 7).cl;have m:∀{σ:L2.St} {p:Bool->Hp->Prop} {kk:Int},σ[1]?=some (some (.ref u))->p (decide (V.int n=V.int kk)) H->sF (fA CA (md G.K (d5 1) "number") (tC (.int kk))) σ H p:=λ{σ p kk} q S=>⟨.ref u,q,u,_,dx,_,.int n,rfl,ho,cl,bY (C.k 7) 0 rfl,rfl,rfl,_,rfl,S⟩;have z:∀{σ:L2.St} {p:VK} {j:Nat} {B:Int} {v:Int},B=j->σ[1]?=some (some (.ref u))->args[j]?=some v->p (.int v) H->fA (p9 G.K) (md G.K (d5 1) "arguments") (tC (.int B)) σ H p:=λ{σ p j B v} hj q hv S=>by subst hj;exact⟨.ref u,q,u,_,dx,_,.ref ab,rfl,ho,cl,bY (C.k 7) 1 rfl,rfl,.inl ⟨ab,_,j,_,rfl,rfl,.inl ra,OE hv,S⟩⟩
 have h:∀{σ:L2.St} {p:VK} {j:Nat} {B:Int} {t:V},B=j->σ[1]?=some (some (.ref u))->ew PB (j:Int)=some t->p t H->fA (p9 G.K) (md G.K (d5 1) "rows") (tC (.int B)) σ H p:=λ{σ p j B t} hj q hv S=>by subst hj;exact⟨.ref u,q,u,_,dx,_,.ref rb,rfl,ho,cl,bY (C.k 7) 2 rfl,rfl,.inl ⟨rb,_,j,_,rfl,rfl,.inl rr,hv,S⟩⟩
 have hl:∃l,args[0]?=some l:=by rcases d with⟨_,l,b,x,rfl,_⟩|⟨_,l,b,x,y,rfl,_⟩|⟨_,l,b,x,y,rfl,_⟩|⟨_,l,x,y,rfl,_⟩<;>exact⟨l,rfl⟩
 obtain⟨l0,g⟩:=hl;refine z (j:=0) rfl rfl g ?_;refine m rfl ?_;rcases d with⟨rfl,l,b,x,rfl,rfl,d⟩|⟨rfl,l,b,x,y,rfl,rfl,d⟩|⟨rfl,l,b,x,y,rfl,rfl,d⟩|⟨rfl,l,x,y,rfl,rfl,d⟩;·have g:=eR g;subst g;rw[eqT rfl];(try dsimp only);(try rw[ax rfl]);obtain⟨t,I,J⟩:=py (j:=0) o rfl;refine⟨.ref a,rfl,.int l,rfl,z (j:=1) rfl rfl rfl (h (j:=0) rfl rfl I ?_)⟩;exact⟨O,A,a,s,[.int l,.int b,aO x],[.int l,.int b,t],L,r,rfl,rfl,M,⟨_,_,rfl,rfl,_,_,rfl,rfl,_,_,rfl,J,rfl⟩,d,k⟩
 ·have g:=eR g;subst g;rw[mI (by decide)];(try dsimp only);(try rw[ay bE]);refine m rfl ?_;rw[eqT rfl];(try dsimp only);(try rw[ax rfl]);obtain⟨t,I,J⟩:=py (j:=0) o rfl;obtain⟨T,U,W⟩:=py (j:=1) o rfl;refine⟨.ref a,rfl,.int l,rfl,z (j:=1) rfl rfl rfl (h (j:=0) rfl rfl I (h (j:=1) rfl rfl U ?_))⟩;exact⟨O,A,a,s,[.int l,.int b,aO x,aO y],[.int l,.int b,t,T],L,r,rfl,rfl,M,⟨_,_,rfl,rfl,_,_,rfl,rfl,_,_,rfl,J,_,_,rfl,W,rfl⟩,d,k⟩
 ·have g:=eR g;subst g;rw[mI (by decide)];(try dsimp only);(try rw[ay bE]);refine m rfl ?_;rw[mI (by decide)];(try dsimp only);(try rw[ay bE]);refine m rfl ?_;rw[eqT rfl];(try dsimp only);(try rw[ax rfl]);obtain⟨t,I,J⟩:=py (j:=0) o rfl;obtain⟨T,U,W⟩:=py (j:=1) o rfl;refine⟨.ref a,rfl,.int l,rfl,z (j:=1) rfl rfl rfl (h (j:=0) rfl rfl I (h (j:=1) rfl rfl U ?_))⟩;exact⟨O,A,a,s,[.int l,.int b,aO x,aO y],[.int l,.int b,t,T],L,r,rfl,rfl,M,⟨_,_,rfl,rfl,_,_,rfl,rfl,_,_,rfl,J,_,_,rfl,W,rfl⟩,d,k⟩
 ·have g:=eR g;subst g;rw[mI (by decide)];(try dsimp only);(try rw[ay bE]);refine m rfl ?_;rw[mI (by decide)];(try dsimp only);(try rw[ay bE]);refine m rfl ?_;rw[mI (by decide)];(try dsimp only);(try rw[ay bE]);obtain⟨t,I,J⟩:=py (j:=0) o rfl;obtain⟨T,U,W⟩:=py (j:=1) o rfl;refine⟨.ref a,rfl,.int l,rfl,h (j:=0) rfl rfl I (h (j:=1) rfl rfl U ?_)⟩;exact⟨O,A,a,s,[.int l,aO x,aO y],[.int l,t,T],L,r,rfl,rfl,M,⟨_,_,rfl,rfl,_,_,rfl,J,_,_,rfl,W,rfl⟩,d,k⟩
abbrev xh:pu:=λs ds b r=>∃(n:Int) (args:List Int) (a:List (List Int)),ds=[fV n args a]/\((n=1/\ui s [.lst (a.map aO)] b r)\/((n=2\/n=3\/n=4\/n=5)/\xb s [fV n args a] b r)\/((n=6\/n=7\/n=8)/\xf s [fV n args a] b r)\/((n=9\/n=10\/n=11\/n=12)/\xg s [fV n args a] b r))
def aar:du ["desk","call"] ["desk","call"] (bx (top 144)):=⟨rfl,rfl,rfl,by decide+kernel,rfl,by decide+kernel,by decide+kernel⟩
def zq{G:Gx}(c:PE X a d)(e:PE X b f)(g:iD .In b=false)(h: ~~~(X.K=G.K)):PT X (.Compare a [.In] [b] pos) (sF (fA (vb G.K false) d f)):=by rw[<-h];exact lb Jv c e g
def aas{P:bA}{w:bB}{mg:ag->Option aj}{base:aZ}{G:Gx}{f:af}{M:eQ}(C:Txt mg base G)(F:cU G.K "answer_taken" "answer_taken" (top 144) f M)(X:ft P w mg base G (bH P w) 72 "answer_tables" 9 ["desk","rows"] (fH G 1 ui))(Y:ft P w mg base G (bH P w) 69 "answer_of_forms" 7 ["desk","call"] (fH G 1 xb))(Z:ft P w mg base G (bH P w) 70 "answer_of_pieces" 9 ["desk","call"] (fH G 1 xf))(B4:ft P w mg base G (bH P w) 71 "answer_of_keys" 11 ["desk","call"] (fH G 1 xg)):bS P w G.K mg base (bH P w) 12 f M ["desk","call"] (fH G 1 xh):=by
 refine lO (N:=["desk","call"]) (k:=11) F aar (λvs H Q E ⟨O,A,a,s,ds,ws,l,r,e,S,o,u,b,k⟩=>by rw[e,jj,<-u.length,S];rfl) _ (λB A outer s H E v=>by have x:=kH (P:=P) (w:=w) (K:=G.K) (mg:=mg) (base:=base) (N:=["desk","call"]) (qual:="answer_taken") (scope:=bx (top 144)) (f:=f) (cd:=B) (A:=A) (outer:=outer) (s:=s) (H:=H) (E:=E);exact bV (ip (lb oz (hf (G:=G) (pv 1)) (jb (C.c 22)) (eV _)) (cK (ee (cA (E:=E) X (v.mono (by decide:9<=11)) x.pass (aV (pv 0) (aV (hf (G:=G) (pv 1)) bG))))) io) (bV (ip (zq (G:=G) (hf (G:=G) (pv 1)) (sH (aV (jb (C.c 23)) (aV (jb (C.c 24)) (aV (jb (C.c 25)) (aV (jb (C.c 26)) bG))))) (by rfl)) (cK (ee (cA (E:=E) Y (v.mono (by decide:7<=11)) x.pass (aV (pv 0) (aV (pv 1) bG))))) io) (bV (ip (zq (G:=G) (hf (G:=G) (pv 1)) (sH (aV (jb (C.c 27)) (aV (jb (C.c 28)) (aV (jb (C.c 29)) bG)))) (by rfl)) (cK (ee (cA (E:=E) Z (v.mono (by decide:9<=11)) x.pass (aV (pv 0) (aV (pv 1) bG))))) io) (cK (ee (cA (E:=E) B4 (v.mono (by decide:11<=11)) x.pass (aV (pv 0) (aV (pv 1) bG)))))))) λvs H Q E ⟨O,A,a,s,ds,ws,l,r,e,S,o,u,b,k⟩=>?_;obtain⟨n,args,d,rfl,b⟩:=b;obtain⟨cv,FK,rfl,y,hw⟩:=u;cases hw;subst e;obtain⟨i,dx,ab,T,PB,rfl,z,ra,rr,u,r3⟩:=FM (C.k 7) y;have cl:=(C.k 7).cl;refine⟨.ref i,rfl,i,_,dx,_,.int n,rfl,z,cl,bY (C.k 7) 0 rfl,rfl,rfl,_,rfl,?_⟩;by_cases U:n=1
 ·rw[eqT U];(try dsimp only);(try rw[ax rfl]);have g:ui s [.lst (d.map aO)] l r:=by
   rcases b with⟨_,b⟩|⟨h,_⟩|⟨h,_⟩|⟨h,_⟩;·exact b
   ·omega
   ·omega
   ·omega
  refine⟨.ref a,rfl,.ref i,rfl,i,_,dx,_,.ref T,rfl,z,cl,bY (C.k 7) 2 rfl,rfl,?_⟩;exact⟨O,A,a,s,[.lst (d.map aO)],[.ref T],l,r,rfl,rfl,o,⟨_,_,rfl,r3,rfl⟩,g,k⟩
 rw[mI U];(try dsimp only);(try rw[ay bE]);refine⟨.ref i,rfl,i,_,dx,_,.int n,rfl,z,cl,bY (C.k 7) 0 rfl,rfl,by show 4<=bj;rw[gG];omega,λp hp=>?_⟩;have q:aG H (upd H p (.tup [.int 2,.int 3,.int 4,.int 5])):=cY hp;refine⟨p,_,rfl,.inr (.inl (.inl aW)),rfl,rfl,_,rfl,?_⟩;by_cases h2:n=2\/n=3\/n=4\/n=5
 ·have I:oF (.int n) [.int 2,.int 3,.int 4,.int 5]=true:=by rcases h2 with h|h|h|h<;>subst h<;>rfl
  rw[ay bE,I];(try dsimp only);(try rw[ax rfl]);have g:xb s [fV n args d] l r:=by
   rcases b with⟨h,_⟩|⟨_,b⟩|⟨h,_⟩|⟨h,_⟩;·omega
   ·exact b
   ·omega
   ·omega
  refine⟨.ref a,rfl,.ref i,rfl,?_⟩;exact⟨O,A,a,s,[fV n args d],[.ref i],l,r,rfl,rfl,o.keep q,⟨_,_,rfl,y.keep q,rfl⟩,g,k.same q⟩
 have t:(n=6\/n=7\/n=8)\/(n=9\/n=10\/n=11\/n=12):=by
  rcases b with⟨h,_⟩|⟨h,_⟩|⟨h,_⟩|⟨h,_⟩;·omega
  ·omega
  ·exact .inl h
  ·exact .inr h
 have I:oF (.int n) [.int 2,.int 3,.int 4,.int 5]=false:=by rcases t with(h|h|h)|(h|h|h|h)<;>subst h<;>rfl
 rw[ay bE,I];(try dsimp only);(try rw[ay bE]);refine⟨.ref i,rfl,i,_,dx,_,.int n,rfl,q _ _ z,cl,bY (C.k 7) 0 rfl,rfl,by show 3<=bj;rw[gG];omega,λW J=>?_⟩;have s2:aG (upd H p (.tup [.int 2,.int 3,.int 4,.int 5])) (upd (upd H p (.tup [.int 2,.int 3,.int 4,.int 5])) W (.tup [.int 6,.int 7,.int 8])):=cY J;have j:=q.trans s2;refine⟨W,_,rfl,.inr (.inl (.inl aW)),rfl,rfl,_,rfl,?_⟩;rcases t with L|L
 ·have m:oF (.int n) [.int 6,.int 7,.int 8]=true:=by rcases L with h|h|h<;>subst h<;>rfl
  rw[ay bE,m];(try dsimp only);(try rw[ax rfl]);have g:xf s [fV n args d] l r:=by
   rcases b with⟨h,_⟩|⟨h,_⟩|⟨_,b⟩|⟨h,_⟩;·omega
   ·omega
   ·exact b
   ·omega
  refine⟨.ref a,rfl,.ref i,rfl,?_⟩;exact⟨O,A,a,s,[fV n args d],[.ref i],l,r,rfl,rfl,o.keep j,⟨_,_,rfl,y.keep j,rfl⟩,g,k.same j⟩
 ·have m:oF (.int n) [.int 6,.int 7,.int 8]=false:=by rcases L with h|h|h|h<;>subst h<;>rfl
  rw[ay bE,m];(try dsimp only);(try rw[ay bE]);have g:xg s [fV n args d] l r:=by
   rcases b with⟨h,_⟩|⟨h,_⟩|⟨h,_⟩|⟨_,b⟩;·omega
   ·omega
   ·omega
   ·exact b
  refine⟨.ref a,rfl,.ref i,rfl,?_⟩;exact⟨O,A,a,s,[fV n args d],[.ref i],l,r,rfl,rfl,o.keep j,⟨_,_,rfl,y.keep j,rfl⟩,g,k.same j⟩
abbrev pz(r:R D):Prop:=match r with|.ok d=>∃l:List Int,d=aO l/\l.length<=100000|.exc c=>c<=6|.bad=>False
abbrev uk(s:cJ):Prop:=∀q,s.rec_=some q->q.fed.length<=200
def rf(h:(∀x∈l,x.length<=100)->a.length<=100000):pz (res b l a):=by
 delta res;split;·exact(by lia:0<=6)
 ·split;·exact(by lia:2<=6)
  ·refine⟨a,rfl,h λx d=>?_⟩;cases c:ko _ x with|false=>exact qU x c|true=>simp_all
def xi(l:List Nat):(kq l).length=l.length:=by simp[kq]
def xj(h:l.length<=100000):pz (.ok (al l)):=⟨kq l,(pk l).symm,by rw[xi];exact h⟩
def aat(t:aN)(a b:Nat)(w:List x9):(Bx t a b w).length=w.length:=by rw[Ov,(gC.sortI_perm _ _).length_eq,Bk]
def aau(h:ui s ds b r):pz r:=by
 obtain⟨p,d,q,z,k,w,_,_,e⟩:=h;delta qZ at e;split at e;·haveI a:=bz gj e;subst a;exact xj (by simp)
 ·haveI a:=bz gj e;subst a;exact(by lia:0<=6)
def aav(g:Good s.tab)(h:xb s ds d r):pz r:=by
 obtain⟨n,f,b,_,_,_,h⟩:=h;rcases h with⟨_,x,_,rfl⟩|⟨_,x,_,rfl⟩|⟨_,x,y,_,rfl⟩|⟨_,x,y,_,rfl⟩;·refine rf λa=>?_;have:=l6 s.tab g.dec g.pair f.toNat (bt x);have c:=a x (by simp);rw[xi];rw[dS]at this;lia
 ·exact rf λa=>by simp[bit]
 ·exact rf λa=>by simp[bit]
 ·refine rf λa=>?_;haveI:=l6 s.tab g.dec g.pair f.toNat (bt x++bt y);have c:=a x (by simp);have e:=a y (by simp);rw[xi];rw[kg,dS,dS]at this;lia
def aaw(t:aN)(g:Good t)(f:Nat)(x:List Nat):(uF t f x).length<=4*x.length:=by refine gI (l6 t g.dec g.pair f _) ?_;grind
def PD(g:Good s.tab)(a:uk s)(h:xf s ds i r):pz r/\uk i/\Good i.tab:=by
 obtain⟨n,args,j,_,h⟩:=h;rcases h with⟨_,f,_,o,_,h⟩|⟨_,x,_,l,_,_,h⟩|⟨_,_,h⟩
 ·split at h;·obtain⟨rfl,rfl⟩:=h;refine⟨⟨[],rfl,by simp⟩,λq m=>?_,g⟩;grind
  ·obtain⟨rfl,rfl⟩:=h;exact⟨(by lia:0<=6),a,g⟩
 ·delta qX at h;cases e:s.rec_ with
  |none=>rw[e]at h;haveI b:=bz fL h;haveI c:=bz gj h;subst b c;exact⟨(by lia:1<=6),a,g⟩
  |some q=>
   rw[e]at h;dsimp only at h;repeat' split at h
   all_goals(haveI b:=bz fL h;haveI c:=bz gj h;subst b c)
   ·exact⟨(by lia:0<=6),a,g⟩
   ·exact⟨(by lia:5<=6),a,g⟩
   ·exact⟨(by lia:3<=6),a,g⟩
   ·exact⟨(by lia:2<=6),a,g⟩
   ·exact⟨(by lia:6<=6),a,g⟩
   ·refine⟨(by lia:3<=6),λk d=>?_,g⟩;lia
   ·refine⟨xj ?_,λk d=>?_,g⟩;·haveI:=aaw s.tab g q.f (q.fed++bt l);rw[kg,dS]at this;grind
    ·haveI:=eR d;subst this;rw[kg,dS];lia
 ·delta qY at h;cases e:s.rec_ with
  |none=>rw[e]at h;haveI b:=bz fL h;haveI c:=bz gj h;subst b c;exact⟨(by lia:1<=6),a,g⟩
  |some q=>
   rw[e]at h;dsimp only at h;haveI m:=a q e;repeat' split at h
   all_goals(haveI b:=bz fL h;haveI c:=bz gj h;subst b c)
   ·exact⟨(by lia:5<=6),a,g⟩
   ·exact⟨(by lia:3<=6),a,g⟩
   ·refine⟨xj ?_,λk d=>?_,g⟩;·haveI:=l6 s.tab g.dec g.pair q.f q.fed;grind
    lia
def aax(g:Good s.tab)(h:xg s ds e r):pz r/\e=s:=by
 obtain⟨n,args,d,_,h⟩:=h;rcases h with⟨_,_,_,_,_,_,l,b,x,_,_,a,rfl⟩|⟨_,_,_,_,_,_,_,l,b,x,y,_,_,_,a,rfl⟩|⟨_,_,_,_,_,_,_,l,b,m,x,_,f,_,a,rfl⟩|⟨_,_,_,_,_,_,l,x,y,_,_,_,a,rfl⟩;·refine⟨rf λc=>?_,a⟩;haveI:=Oh s.tab g l.toNat b.toNat (bt x);have i:=c x (by simp);rw[xi];rw[dS]at this;lia
 ·exact⟨rf λc=>by simp,a⟩
 ·refine⟨rf λc=>?_,a⟩;rw[xi,aat,(FJ _ _).1,dS];lia
 ·refine⟨?_,a⟩;delta findR;split;·exact(by lia:0<=6)
  ·split;·exact(by lia:2<=6)
   ·split;·exact(by lia:4<=6)
    ·delta findD;split;·exact xj (by simp)
     ·exact xj (by simp)
def PF(g:Good s.tab)(a:uk s)(h:xh s ds c r):pz r/\uk c:=by
 obtain⟨n,args,b,_,h⟩:=h;rcases h with⟨_,h⟩|⟨_,h⟩|⟨_,h⟩|⟨_,h⟩
 ·refine⟨aau h,?_⟩;obtain⟨p,d,q,z,k,w,_,_,e⟩:=h;delta qZ at e;split at e
  ·haveI f:=bz fL e;subst f;split;·intro q i;contradiction
   ·exact a
  simp_all
 ·refine⟨aav g h,?_⟩;obtain⟨_,_,_,_,_,j,_⟩:=h;simp_all
 ·exact⟨(PD g a h).1,(PD g a h).2.1⟩
 ·obtain⟨l,m⟩:=aax g h;simp_all
abbrev xn(c:Nat):Int:=if c=0 then-1 else if c=1 then-2 else if c=2 then-3 else if c=3 then-4 else if c=4 then-4 else if c=5 then-5 else-6
abbrev pA(r:R D):R D:=match r with|.ok (.lst ds)=>.ok (.lst (.int 0::ds))|.exc c=>.ok (aO [xn c])|_=>.bad
abbrev PJ:pu:=λs ds a b=>uk s/\∃r,xh s ds a r/\b=pA r
structure FN(G:Gx):Prop where
 one:∀i j,i<7->j<7->Gg G.K (G.xv i) (G.xv j)=some (decide (G.xv i=G.xv j))
 inj:∀i j,i<7->j<7->G.xv i=G.xv j->i=j
def aay:du ["desk","call"] ["desk","call"] (bx (top 143)):=⟨rfl,rfl,rfl,by decide+kernel,rfl,by decide+kernel,by decide+kernel⟩
abbrev PL(k:Int):Ends->Hp->Prop:=λD H=>∀p,H p=none->D.rt (.ref p) (upd H p (.lst [.int k]))
def rg:df X [.Return (some (.List [.UnaryOp .USub (.Constant (.int n) j a) b] c)) d] (λD _ H=>PL (-n) D H):=DA (cK (ee (lg (aV (ID IH fk) bG)))) λD σ H h=>⟨n,rfl,by simp,h⟩
inductive Kn(G:Gx)(cls:aj):Prop|mk:∀k,k<7->cls=G.xv k->Kn G cls
def lad{K:aj->Prop}{v:Nat->aj}(u:∀i j,i<7->j<7->i≠j->¬v i=v j)(c:Nat)(w:c<=6)(a:K (v c))(b:c=0->d)(e:c=1->f)(g:c=2->h)(k:c=3->l)(m:c=4->n)(o:c=5->r)(s:c=6->t):K (v c)/\if v c=v 0 then d else K (v c)/\if v c=v 1 then f else K (v c)/\if v c=v 2 then h else K (v c)/\if v c=v 3 then l else K (v c)/\if v c=v 4 then n else K (v c)/\if v c=v 5 then r else K (v c)/\if v c=v 6 then t else False:=by
 have step:∀(j:Nat) (p q:Prop),j<7->(c=j->p)->(c≠j->q)->(if v c=v j then p else q):=λj p q x y z=>by grind
 refine⟨a,step 0 _ _ (by lia) b λA=>⟨a,step 1 _ _ (by lia) e λB=>⟨a,step 2 _ _ (by lia) g λC=>⟨a,step 3 _ _ (by lia) k λE=>⟨a,step 4 _ _ (by lia) m λF=>⟨a,step 5 _ _ (by lia) o λG=>⟨a,step 6 _ _ (by lia) s λH=>?_⟩⟩⟩⟩⟩⟩⟩;lia
def aaz{P:bA}{w:bB}{mg:ag->Option aj}{base:aZ}{G:Gx}{f:af}{Z:eQ}(C:Txt mg base G)(X7:FN G)(F:cU G.K "answer_call" "answer_call" (top 143) f Z)(B:ft P w mg base G (bH P w) 68 "answer_taken" 12 ["desk","call"] (fH G 1 xh)):bS P w G.K mg base aS 13 f Z ["desk","call"] (fH G 1 PJ):=by
 obtain⟨c0,x0,o0⟩:=(C.x 0);obtain⟨c1,x1,o1⟩:=(C.x 1);obtain⟨c2,x2,o2⟩:=(C.x 2);obtain⟨c3,x3,o3⟩:=(C.x 3);obtain⟨c4,x4,o4⟩:=(C.x 4);obtain⟨c5,x5,o5⟩:=(C.x 5);obtain⟨c6,x6,o6⟩:=(C.x 6);haveI gh:∀j,j<7->∀cls,Kn G cls->Gg G.K cls (G.xv j)=some (decide (cls=G.xv j)):=λj J cls ⟨k,hk,e⟩=>by rw[e];exact X7.one k j hk J
 refine mG (N:=["desk","call"]) (k:=12) F aay (λvs H Q E ⟨O,A,a,s,ds,ws,L,r,e,hn,I,M,u,k⟩=>by rw[e,jj,<-M.length,hn];rfl) _ (λgw A outer s H E hr=>cK (WQ λpins D=>cK (ee (ma KZ (lg (aV fk bG)) (cA (E:=λcls _ H=>_) B (hr.mono (by decide:12<=12)) (WP rfl rfl (qo (Kn G) (o0.bound.trans (by rw[x0])) rfl (gh 0 (by omega)) (λe=>rg) (qo (Kn G) (o1.bound.trans (by rw[x1])) rfl (gh 1 (by omega)) (λe=>rg) (qo (Kn G) (o2.bound.trans (by rw[x2])) rfl (gh 2 (by omega)) (λe=>rg) (qo (Kn G) (o3.bound.trans (by rw[x3])) rfl (gh 3 (by omega)) (λe=>rg) (qo (Kn G) (o4.bound.trans (by rw[x4])) rfl (gh 4 (by omega)) (λe=>rg) (qo (Kn G) (o5.bound.trans (by rw[x5])) rfl (gh 5 (by omega)) (λe=>rg) (qo (Kn G) (o6.bound.trans (by rw[x6])) rfl (gh 6 (by omega)) (λe=>rg) WO)))))))) (aV (pv 0) (aV (pv 1) bG))))))) λvs H Q E ⟨O,A,a,s,ds,ws,L,r,e,hn,I,M,u,k⟩=>?_;obtain⟨so,S,m,rfl⟩:=u;obtain⟨hlen,_⟩:=PF I.good so m;obtain⟨n,args,y,T,_⟩:=id m;subst T;obtain⟨cv,FK,rfl,rc,U⟩:=M;cases U;subst e;refine⟨by simp,λb hb=>?_⟩;have X:aG H (upd H b (.lst [.int 0])):=cY hb;have nb:¬(O b\/A b):=λz=>I.bI b z hb;refine⟨.ref a,rfl,cv,rfl,O,A,a,s,[fV n args y],[cv],L,S,rfl,rfl,I.keep X,⟨_,_,rfl,rc.keep X,rfl⟩,m,?_⟩;have fin:∀(l:List Int) (g:Hp) (o:af->Prop),Ext A (upd H b (.lst [.int 0])) o g->gS G g O o a L->pA S=.ok (aO l)->∀p,g p=none->Q (.ref p) (upd g p (.lst (l.map V.int))):=by intro l g o ex q U p t;rw[U]at k;have s2:aG g (upd g p (.lst (l.map V.int))):=cY t;exact k (.ref p) _ o (((Ext.of X).trans ex).trans (Ext.of s2)) (q.keep s2) (Aw (.inl aW) λz=>q.bI p z t)
 cases S with
 |bad=>exact hlen
 |ok d=>
  obtain⟨l,rfl,hl⟩:=hlen;intro v g o ex q rv;obtain⟨c,rfl,rd,nc⟩:=Av rv;have Y:g b=some (.lst [.int 0]):=ex.1 b _ aW (.inl λz=>nb (.inr z));refine⟨b,c,[.int 0],l.map V.int,rfl,rfl,.inl Y,rd,?_,λp t=>?_⟩;·rw[bZ];show 1+l.length<=bj;rw[gG];omega
  ·exact fin (0::l) g o ex q rfl p t|exc c=>intro g o ex q;have out:PL (xn c) {nx:=λ_ g=>Q .ah g,rt:=Q} g:=λp t=>fin [xn c] g o ex q rfl p t;have ne:∀i j,i<7->j<7->i≠j->¬G.xv i=G.xv j:=λi j hi J h z=>h (X7.inj i j hi J z);have hc:c<=6:=hlen;have kn:Kn G (G.xv c):=⟨c,by omega,rfl⟩;refine lad (K:=Kn G) (v:=G.xv) ne c hc kn (λe=>?_) (λe=>?_) (λe=>?_) (λe=>?_) (λe=>?_) (λe=>?_) (λe=>?_);all_goals(rw[e]at out;exact out)
end FO
namespace FO
open PySem L2 DL
open FoFormSeed(tells no of_ nums nats within levels long TEXT points truth)
def PM(l:List Nat):pA (.ok (al l))=.ok (aO (tells (nums l))):=by rw[<-pk];rfl
def rh(b:Bool)(l:List (List Int))(a:List Int):pA (res b l a)=.ok (aO (of_ b l (λ_=>tells a))):=by
 delta res of_;split;·rfl
 ·split;·rfl
  ·rfl
inductive jc(s:cJ)(n:Int)(args:List Int)(rows:List (List Int))(x:cJ×List Int):Prop|mk:∀r,xh s [fV n args rows] x.1 r->pA r=.ok (aO x.2)->jc s n args rows x
def aaA(s:cJ)(p d q z k w:List Int)(h:∀r∈[p,d,q,z,k,w],r.length<=20000):jc s 1 [] [p,d,q,z,k,w] (iF s (.tables p d q z k w)):=by
 haveI b:=g? p d q z k w;haveI e:iF s (.tables p d q z k w)=if jS 1 p=false\/jS 4 d=false\/jS 3 q=false\/jS 3 z=false\/jS 6 k=false\/jS 3 w=false\/w.all (within 0 65535)=false then(s,no 1)else(match gu _ with|some x=>(s,tells _)|none=>(⟨n8 p d q z k w,none⟩,tells [0,0])):=rfl;rw[e];refine⟨(qZ s p d q z k w).2,⟨1,[],_,rfl,.inl ⟨rfl,p,d,q,z,k,w,rfl,h,?_⟩⟩,?_⟩
 ·delta qZ;by_cases a:(rowsOf p d q z k w).all gd=true;·rw[ax a,ay (λy=>by rw[b.mp y]at a;cases a)];cases gu _<;>rfl
  lia
 ·delta qZ;by_cases a:(rowsOf p d q z k w).all gd=true;·rw[ax a,ay (λy=>by rw[b.mp y]at a;cases a)];delta dR;cases gu _<;>rfl
  ·rw[ay a,ax (b.mpr (by lia))];rfl
def aaB(s:cJ)(f:Int)(x:List Int)(h:x.length<=20000):jc s 2 [f] [x] (iF s (.form_ f x)):=⟨_,⟨2,_,_,rfl,.inr (.inl ⟨by lia,2,f,_,rfl,by simp_all,rfl,.inl ⟨rfl,x,rfl,rfl⟩⟩)⟩,rh _ _ _⟩
def aaC(s:cJ)(f:Int)(x:List Int)(h:x.length<=20000):jc s 3 [f] [x] (iF s (.is_ f x)):=⟨_,⟨3,_,_,rfl,.inr (.inl ⟨by lia,3,f,_,rfl,by simp_all,rfl,.inr (.inl ⟨rfl,x,rfl,rfl⟩)⟩)⟩,rh _ _ _⟩
def aaD(s:cJ)(f:Int)(x y:List Int)(h:x.length<=20000)(a:y.length<=20000):jc s 4 [f] [x,y] (iF s (.same f x y)):=⟨_,⟨4,_,_,rfl,.inr (.inl ⟨by lia,4,f,_,rfl,by simp_all,rfl,.inr (.inr (.inl ⟨rfl,x,y,rfl,rfl⟩))⟩)⟩,rh _ _ _⟩
def aaE(s:cJ)(f:Int)(x y:List Int)(h:x.length<=20000)(a:y.length<=20000):jc s 5 [f] [x,y] (iF s (.join f x y)):=⟨_,⟨5,_,_,rfl,.inr (.inl ⟨by lia,5,f,_,rfl,by simp_all,rfl,.inr (.inr (.inr ⟨rfl,x,y,rfl,rfl⟩))⟩)⟩,rh _ _ _⟩
def aaF(s:cJ)(f:Int):jc s 6 [f] [] (iF s (.open_ f)):=by
 haveI e:iF s (.open_ f)=if within 0 3 f=true then({s with rec_:=some _},tells [])else(s,no 1):=rfl;rw[e];by_cases h:within 0 3 f=true;·rw[ax h];refine⟨Pb [],⟨6,_,_,rfl,.inr (.inr (.inl ⟨by lia,6,[f],[],rfl,.inl ⟨rfl,f,rfl,f,rfl,?_⟩⟩))⟩,rfl⟩;simp_all
 ·rw[ay h];refine⟨.exc 0,⟨6,_,_,rfl,.inr (.inr (.inl ⟨by lia,6,[f],[],rfl,.inl ⟨rfl,f,rfl,f,rfl,?_⟩⟩))⟩,rfl⟩;simp_all
def aaG(s:cJ)(x:List Int)(h:x.length<=20000):jc s 7 [] [x] (iF s (.put x)):=by
 haveI key:(qX s x).1=(iF s (.put x)).1/\pA (qX s x).2=.ok (aO (iF s (.put x)).2):=by
  delta qX;show _=(match s.rec_ with|none=>(s,no 2)|some q=>if long TEXT x=true then(s,no 1)else if q.ended=true then(s,no 5)else if q.over=true then(s,no 4)else if points x=false then(s,no 3)else if R0<q.fed.length+x.length then(s,no 6)else if kU s.tab q.f _=true then({s with rec_:=some _},no 4)else({s with rec_:=some _},tells _)).1/\_=R.ok (aO (match s.rec_ with|none=>(s,no 2)|some q=>if long TEXT x=true then(s,no 1)else if q.ended=true then(s,no 5)else if q.over=true then(s,no 4)else if points x=false then(s,no 3)else if R0<q.fed.length+x.length then(s,no 6)else if kU s.tab q.f _=true then({s with rec_:=some _},no 4)else({s with rec_:=some _},tells _)).2);cases s.rec_ with
  |none=>exact⟨rfl,rfl⟩
  |some q=>
   dsimp only;haveI i:R0=200:=rfl;rw[i];by_cases a:long TEXT x=true;·rw[ax a,ax a];exact⟨rfl,rfl⟩
   rw[ay a,ay a];by_cases b:q.ended=true;·rw[ax b,ax b];exact⟨rfl,rfl⟩
   rw[ay b,ay b];by_cases c:q.over=true;·rw[ax c,ax c];exact⟨rfl,rfl⟩
   rw[ay c,ay c];by_cases d:points x=false;·rw[ax d,ax d];exact⟨rfl,rfl⟩
   rw[ay d,ay d];by_cases e:200<q.fed.length+x.length;·rw[ax e,ax e];exact⟨rfl,rfl⟩
   rw[ay e,ay e];by_cases g:kU s.tab q.f (q.fed++nats x)=true;·rw[ax g,ax g];exact⟨rfl,rfl⟩
   rw[ay g,ay g];exact⟨rfl,PM _⟩
 refine⟨(qX s x).2,⟨7,_,_,rfl,.inr (.inr (.inl ⟨by lia,7,[],[x],rfl,.inr (.inl ⟨rfl,x,rfl,x,rfl,h,?_⟩)⟩))⟩,key.2⟩;rw[<-key.1]
def aaH(s:cJ):jc s 8 [] [] (iF s .end_):=by
 haveI key:(qY s).1=(iF s .end_).1/\pA (qY s).2=.ok (aO (iF s .end_).2):=by
  delta qY;show _=(match s.rec_ with|none=>(s,no 2)|some q=>if q.ended=true then(s,no 5)else if q.over=true then(s,no 4)else({s with rec_:=some _},tells _)).1/\_=R.ok (aO (match s.rec_ with|none=>(s,no 2)|some q=>if q.ended=true then(s,no 5)else if q.over=true then(s,no 4)else({s with rec_:=some _},tells _)).2);cases s.rec_ with
  |none=>exact⟨rfl,rfl⟩
  |some q=>
   dsimp only;by_cases a:q.ended=true;·rw[ax a,ax a];exact⟨rfl,rfl⟩
   rw[ay a,ay a];by_cases b:q.over=true;·rw[ax b,ax b];exact⟨rfl,rfl⟩
   rw[ay b,ay b];exact⟨rfl,PM _⟩
 refine⟨(qY s).2,⟨8,_,_,rfl,.inr (.inr (.inl ⟨by lia,8,[],[],rfl,.inr (.inr ⟨rfl,rfl,?_⟩)⟩))⟩,key.2⟩;rw[<-key.1]
def aaI(s:cJ)(l b:Int)(x:List Int)(h:x.length<=20000):jc s 9 [l,b] [x] (iF s (.key l b x)):=⟨_,⟨9,_,_,rfl,.inr (.inr (.inr ⟨by lia,9,_,_,rfl,.inl ⟨rfl,l,b,x,rfl,rfl,l,b,x,rfl,h,rfl,rfl⟩⟩))⟩,rh _ _ _⟩
def aaJ(s:cJ)(l b:Int)(x y:List Int)(h:x.length<=20000)(a:y.length<=20000):jc s 10 [l,b] [x,y] (iF s (.cmp l b x y)):=⟨_,⟨10,_,_,rfl,.inr (.inr (.inr ⟨by lia,10,_,_,rfl,.inr (.inl ⟨rfl,l,b,x,y,rfl,rfl,l,b,x,y,rfl,h,a,rfl,rfl⟩)⟩))⟩,rh _ _ _⟩
def aaK(s:cJ)(l b:Int)(n x:List Int)(h:n.length<=20000)(a:x.length<=20000):jc s 11 [l,b] [n,x] (iF s (.order l b n x)):=⟨_,⟨11,_,_,rfl,.inr (.inr (.inr ⟨by lia,11,_,_,rfl,.inr (.inr (.inl ⟨rfl,l,b,n,x,rfl,rfl,l,b,n,x,rfl,h,a,rfl,rfl⟩))⟩))⟩,rh _ _ _⟩
def aaL(s:cJ)(g:Good s.tab)(l:Int)(x y:List Int)(h:x.length<=20000)(j:y.length<=20000):jc s 12 [l] [x,y] (iF s (.find l x y)):=by
 refine⟨findR s.tab l x y,⟨12,_,_,rfl,.inr (.inr (.inr ⟨by omega,12,_,_,rfl,.inr (.inr (.inr ⟨rfl,l,x,y,rfl,rfl,l,x,y,rfl,h,j,rfl,rfl⟩))⟩))⟩,?_⟩;show _=R.ok (aO (of_ (findB l x y) [x,y] (λ(_)=>if Fo.ps s.tab (nats y)=[]/\(l<2\/Fo.ss s.tab 0 (nats y)=[])/\(l<3\/Fo.us s.tab (nats y)=[])then no 4 else match uq s.tab l.toNat (nats x) (nats y)with|some r=>tells [1,(r.1),(r.2)]|none=>tells [0])));delta findR of_;cases c:findB l x y;·rfl
 haveI a:¬([x,y].any (long TEXT)=true):=by delta findB pL at c;simp at c;delta ko iE;simp;lia
 have f:1<=l/\l<=3:=by delta findB dF at c;simp at c;lia
 rw[ay (show¬(true=false\/[x,y].any (long TEXT)=true) fromλz=>z.elim Bz a)];by_cases d:[x,y].all points=false;·rw[ax d,ax d];rfl
 rw[ay d,ay d];haveI i:=SD s.tab g.wt l.toNat (nats y);have b:(Fo.ps s.tab (nats y)=[]/\(l.toNat<2\/Fo.ss s.tab 0 (nats y)=[])/\(l.toNat≠3\/Fo.us s.tab (nats y)=[]))↔(Fo.ps s.tab (nats y)=[]/\(l<2\/Fo.ss s.tab 0 (nats y)=[])/\(l<3\/Fo.us s.tab (nats y)=[])):=by
  have k:l.toNat<2↔l<2:=by omega
  have m:l.toNat≠3↔l<3:=by omega
  rw[k,m]
 by_cases e:((cR s.tab l.toNat 0 (nats y)).all λw=>w==1)=true;·rw[ax e,ax (b.mp (i.mp e))];rfl
 ·rw[ay e,ay (λz=>e (i.mpr (b.mpr z)))];cases uq s.tab l.toNat (nats x) (nats y)with|some r=>rfl|none=>rfl
abbrev aaM(s:cJ)(n:Int)(args:List Int)(a:List (List Int)):Prop:=G9 ((n::args)::a)=true->(∀x∈a,x.length<=20000)->jc s n args a (mT s ((n::args)::a))
def aaN(s:cJ)(g:Good s.tab)(n:Int)(args:List Int)(b:List (List Int)):aaM s n args b:=by
 rcases n with(_|_|_|_|_|_|_|_|_|_|_|_|_|_)|_<;>try exactλh=>bw h bE
 all_goals
  rcases args with _|⟨_,_|⟨_,_|_⟩⟩<;>try exactλh=>bw h bE
  rcases b with _|⟨_,_|⟨_,_|⟨_,_|⟨_,_|⟨_,_|⟨_,_|_⟩⟩⟩⟩⟩⟩<;>try exactλh=>bw h bE
 ·exactλ_ a=>aaA s _ _ _ _ _ _ a
 ·exactλ_ a=>aaB s _ _ (a _ (.head _))
 ·exactλ_ a=>aaC s _ _ (a _ (.head _))
 ·exactλ_ a=>aaD s _ _ _ (a _ (.head _)) (a _ (.tail _ (.head _)))
 ·exactλ_ a=>aaE s _ _ _ (a _ (.head _)) (a _ (.tail _ (.head _)))
 ·exactλ_ a=>aaF s _
 ·exactλ_ a=>aaG s _ (a _ (.head _))
 ·exactλ_ a=>aaH s
 ·exactλ_ a=>aaI s _ _ _ (a _ (.head _))
 ·exactλ_ a=>aaJ s _ _ _ _ (a _ (.head _)) (a _ (.tail _ (.head _)))
 ·exactλ_ a=>aaK s _ _ _ _ (a _ (.head _)) (a _ (.tail _ (.head _)))
 ·exactλ_ a=>aaL s g _ _ _ (a _ (.head _)) (a _ (.tail _ (.head _)))
def aaO(s:cJ)(g:Good s.tab)(n:Int)(args:List Int)(a:List (List Int))(h:G9 ((n::args)::a)=true)(b:∀x∈a,x.length<=20000):jc s n args a (mT s ((n::args)::a)):=aaN s g n args a h b
end FO
namespace FO
open PySem PySem.Spec PyProof.Rows L2 DL
def PN(d:gS G H O A a s)(k:gt r H i)(M:O r)(v:¬A r)(N:H r=some x)(P:¬oH x)(Q:i r≠none):gS G i O A a s:=by
 obtain⟨dx,y,pv,B,rt,ps⟩:=d.ob;obtain⟨n,C,E,j,t⟩:=d.tb;have f:∀b,A b->b≠r:=λb z w=>v (w▸z);haveI l:Kp (λb=>O b\/A b) H i:=λb o e z=>k b o e (by lia);refine⟨d.mem,λb z=>?_,d.good,⟨n,C,k _ _ E (f _ n),j,?_⟩,dx,y,pv,k _ _ B (f _ d.mem),rt.mono l λb z=>.inl z,?_⟩
 ·by_cases F:b=r;·simp_all
  ·cases e:H b with|none=>exact bw e (d.bI b z)|some o=>rw[k b o e F];simp
 ·rcases t with t|⟨c,I,u,J⟩;·simp_all
  ·exact .inr ⟨c,I,u,k _ _ J (f _ u)⟩
 ·unfold mH at ps⊢
  cases L:s.rec_ with|none=>simp_all|some q=>rw[L]at ps;obtain⟨p,c,m,g,st,h,e,z1,z2,z3,z4⟩:=ps;exact⟨p,c,m,g,st,h,e,z1,z2,⟨k _ _ z3.ob (f _ z1),k _ _ z3.ls (f _ z2)⟩,z4⟩
def aaP(c:List (List Int)):acG c=c:=by
 rcases c with _|⟨_|⟨(_|_|_|_|_|_|_|_|_|_|_|_|_|_)|_,a⟩,r⟩<;>try rfl
 all_goals
  rcases a with _|⟨_,_|⟨_,_|_⟩⟩<;>try rfl
  rcases r with _|⟨_,_|⟨_,_|⟨_,_|⟨_,_|⟨_,_|⟨_,_|_⟩⟩⟩⟩⟩⟩<;>rfl
def aaQ(a:List (List (List Int))):a.map acG=a:=by have:=funext aaP;simp_all
def aaR{l:List Int}(h:pM js f (l.drop k)=some e)(g:k<l.length):∃p args a rest b i,e=((p::args)::a)::b/\ya js (l.drop k)=some ((p::args)::a,rest)/\pM js i rest=some b:=by
 haveI j:=lR g;rw[j]at h⊢
 cases f with
 |zero=>trivial
 |succ f=>
  unfold pM at h;cases cA:ya _ _ with
  |none=>simp_all
  |some z=>
   obtain⟨c,t⟩:=z;rw[cA]at h;dsimp only at h;cases d:pM js f t with
   |none=>simp_all
   |some b=>
    rw[d]at h;haveI m:∃p args a,c=(p::args)::a:=by
     delta ya at cA;dsimp only at cA;split at cA;·lia
     ·split at cA;·lia
      ·split at cA;·contradiction
       ·haveI:=bz fL (eR cA);exact⟨_,_,_,this.symm⟩
    grind
def PP:∀{m:Nat}{l:List Int}{xs:List (List Int)}{t:List Int},n9 m l=some (xs,t)->∀x∈xs,x.length<=l.length
 |0,l,xs,t,h,x,a=>by haveI:=bz fL (eR h);grind
 |m+1,l,xs,t,h,x,a=>by
  haveI b:n9 (m+1) (l.drop 0)=some (xs,t):=h;obtain⟨c,f,g,i,d,e⟩:=OM b;subst d;rcases ff.mp a with rfl|a;·grind
  ·haveI:=PP e x a;grind
inductive PR(G:Gx)(D:af)(kvs:List (L2.Key×V))(vs:List V)(H:Hp)(Q:VK)(E:XK):Prop|mk:∀(n:af)(l:List Int)(ps:Array aj),vs=[.ref n]->Rd H n (.lst (l.map V.int))->l.length<=17000->Ha l=true->Rd H D (.dK kvs)->H (bJ G)=some (.fj ps)->TriplesOk ps.toList->Bp qW ps.toList=none->(∀v H',(∀b o,H b=some o->b≠bJ G->H' b=some o)->Rep G (λ_=>False) H' (aO (r8 l)) v->Q v H')->PR G D kvs vs H Q E
abbrev AJ(G:Gx)(D:af)(kvs:List (L2.Key×V)):Sp:=λvs H Q E=>PR G D kvs vs H Q E
inductive PU(G:Gx)(H:Hp)(l:List Int)(n x r qa dr:af)(m:Nat)(σ:L2.St)(Hc:Hp):Prop|mk(A:af->Prop)(s k cs f)(out:List Int)(s4):m=l.length-k->k<=l.length->σ=[some (.ref n),some (.ref x),some (.ref r),some (.ref qa),s4]->gS G Hc (λb=>b=r\/b=qa) A x s->uk s->Hc r=some (gH G dr (.ref n) (k:Nat))->Hc qa=some (.lst (out.map V.int))->((∀c o,H c=some o->c≠bJ G->¬A c)/\¬A r/\¬A qa)->pM js f (l.drop k)=some cs->cs.all G9=true->cs.length<=100->out.length<=100010*(100-cs.length)->out++uG (uH mT s cs)=r8 l->(∀b o,H b=some o->b≠bJ G->Hc b=some o)->PU G H l n x r qa dr m σ Hc
inductive PV(G:Gx)(H:Hp)(l:List Int)(n x r qa dr:af)(k:Nat)(s':cJ)(f':Nat)(AK:List (List (List Int)))(et:L2.St)(H':Hp):Prop|mk(A:af->Prop)(k':Nat)(xl:List Int)(s4):k<k'->k'<=l.length->et=[some (.ref n),some (.ref x),some (.ref r),some (.ref qa),s4]->gS G H' (λb=>b=r\/b=qa) A x s'->H' r=some (gH G dr (.ref n) (k':Nat))->H' qa=some (.lst (xl.map V.int))->((∀c o,H c=some o->c≠bJ G->¬A c)/\¬A r/\¬A qa)->pM js f' (l.drop k')=some AK->xl.length<=100010*(100-AK.length)->xl++uG (uH mT s' AK)=r8 l->(∀b o,H b=some o->b≠bJ G->H' b=some o)->PV G H l n x r qa dr k s' f' AK et H'
def PX:du ["calls","desk","reader","told","answer"] ["calls"] (bx (top 142)):=⟨rfl,rfl,rfl,by trivial,rfl,by trivial,by trivial⟩
def aaS{P:bA}{w:bB}{mg:ag->Option aj}{base:aZ}{G:Gx}{f:af}{fd:eQ}{D:af}{kvs:List (L2.Key×V)}(C:Txt mg base G)(F:cU G.K "answers" "answers" (top 142) f fd)(aaT:gN P w mg base G aS 9 102 "Desk" 6 ["self"] 0 EB)(W:qV P w mg base G aS 8 93 "Reader" 1 ["self","numbers"] (Oz G))(aaU:pr P w mg base G aS 8 94 "has_more" 1 ["self"] (OB G))(aaV:pr P w mg base G aS 8 97 "take_call" 3 ["self"] (OK G D kvs))(aaW:ft P w mg base G aS 67 "answer_call" 13 ["desk","call"] (fH G 1 PJ)):bS P w G.K mg base aS 14 f fd ["calls"] (AJ G D kvs):=by
 refine mG (N:=["calls","desk","reader","told","answer"]) (k:=13) F PX (λvs H Q E ⟨n,l,ps,e,_,_,_,_,_,_,_,_⟩=>by rw[e];rfl) _ (λgw A outer s H E X=>by have hN:=PX.nd;exact bV (iQ (i:=1) hN (F_ (E:=E0) (Fx aaT) (X.mono (by decide:7<=13)) aX)) (bV (iQ (i:=2) hN (Ao (E:=E0) W (X.mono (by decide:2<=13)) aX (aV (pv 0) bG))) (bV (iQ (i:=3) hN (lg bG)) (bV (Ir jT (uT (ue (E:=E0) aaU (X.mono (by decide:1<=13)) aX (pv 2))) (bV (iQ (i:=4) hN (cA (E:=E0) aaW (X.mono (by decide:13<=13)) aX (aV (pv 1) (aV (ue (E:=E0) aaV (X.mono (by decide:3<=13)) aX (pv 2)) bG)))) (bV (Ow (G:=G) (pv 3) (hlen (G:=G) (C.b 0) (pv 4))) (cK (F? (G:=G) (pv 3) (pv 4)))))) (cK (ee (pv 3))))))) λvs H Q E ⟨n,l,ps,e,hn,hl,a,hD,hT,aaX,AC,q⟩=>?_;subst e;obtain⟨cs0,aaY,aaZ,aa0,aa1⟩:∃cs,pM js l.length (l.drop 0)=some cs/\cs.all G9=true/\cs.length<=100/\r8 l=uG (uH mT acH cs):=by
  unfold Ha acI at a;unfold r8 acI;rw[RU];cases hc:pM js l.length l with
  |none=>rw[hc]at a;cases a
  |some cs=>
   rw[hc]at a;dsimp only at a⊢
   rw[aaQ]at a⊢
   unfold FormNeutral.asked PyFlat.atMost at a;simp only[d0,jK]at a;exact⟨cs,rfl,a.2.1,a.1,rfl⟩
 have FP:n≠bJ G:=λz=>by rcases hn with y|⟨o,y⟩<;>rw[z,hT]at y<;>cases y
 have FQ:D≠bJ G:=λz=>by rcases hD with y|⟨o,y⟩<;>rw[z,hT]at y<;>cases y
 intro x dx hx FR sK;have hxT:x≠bJ G:=λz=>by rw[z,hT]at hx;cases hx
 have hdT:dx≠bJ G:=λz=>by rw[z,hT]at FR;cases FR
 have s0:aG H (upd (upd H dx (.own x)) x (.ins (G.cm 9) dx [])):=λb o M=>by rw[aD (λw=>by rw[w,hx]at M;cases M),aD (λw=>by rw[w,FR]at M;cases M)];exact M
 refine⟨λb=>b=x\/b=bJ G,[],x,dx,[],rfl,aW,.inl rfl,rfl,λb z=>?_,rfl,?_⟩
 ·rcases z with z|z;·rw[z,aW];simp
  ·rw[z,s0 _ _ hT];simp
 rw[d_];intro v1 H2 us oB ev1 Z zB Fz k2;refine⟨ev1,?_⟩;obtain⟨tv,us1,rfl,rt2,pv,us2,rfl,hpv,FS⟩:=Fz;cases hpv;cases FS;rw[(C.k 9).nm]at Z;have s2:aG H H2:=λb o M=>k2 b o (s0 b o M) λw=>by rw[w,hx]at M;cases M
 refine⟨.ref n,rfl,λr S X ni aeC=>?_⟩;refine⟨r,S,.ref n,rfl,aW,rfl,?_⟩;rw[oj];have s3:aG H2 (upd (upd H2 S (.own r)) r (gH G S (.ref n) 0)):=λb o M=>by rw[aD (λw=>by rw[w,X]at M;cases M),aD (λw=>by rw[w,ni]at M;cases M)];exact M
 refine⟨by show 0<=bj;omega,λt hq=>?_⟩;have s4:aG (upd (upd H2 S (.own r)) r (gH G S (.ref n) 0)) (upd (upd (upd H2 S (.own r)) r (gH G S (.ref n) 0)) t (.lst [])):=cY hq;have PY:r≠t:=λz=>by rw[<-z,aW]at hq;cases hq
 have Y:H2 t=none:=by cases e1:H2 t with|none=>rfl|some o=>rw[s3 _ _ e1]at hq;cases hq
 have AL:=s3.trans s4;have FT:=s2.trans AL;have J:∀{b:af} {o:HO},H2 b=some o->b≠r/\b≠t:=λ{b o} e=>⟨(λz=>by rw[z,X]at e;cases e),(λz=>by rw[z,Y]at e;cases e)⟩;have hnn:∃o,H n=some o:=by rcases hn with y|⟨o,y⟩<;>exact⟨_,y⟩
 have hDD:∃o,H D=some o:=by rcases hD with y|⟨o,y⟩<;>exact⟨_,y⟩
 obtain⟨on,en⟩:=hnn;obtain⟨oD,eD⟩:=hDD;obtain⟨hnr,hnq⟩:=J (s2 _ _ en);obtain⟨Fh,hDq⟩:=J (s2 _ _ eD);have hnx:n≠x:=λz=>by rw[z,hx]at en;cases en
 have hDx:D≠x:=λz=>by rw[z,hx]at eD;cases eD
 have hrx:r≠x:=λz=>by rw[z,Z]at X;cases X
 have hqx:t≠x:=λz=>by rw[z,Z]at Y;cases Y
 have FC:r≠bJ G:=λz=>by rw[z,s2 _ _ hT]at X;cases X
 have hqT:t≠bJ G:=λz=>by rw[z,s2 _ _ hT]at Y;cases Y
 have P0:bj=16777216:=gG;have nL:∀{H':Hp} {b:af} {u:HO},(∀b o,H b=some o->b≠bJ G->H' b=some o)->b≠bJ G->Rd H b u->Rd H' b u:=λ{H' b u} k nb z=>by
  rcases z with z|⟨o,z⟩;·exact .inl (k _ _ z nb)
  ·exact .inr ⟨o,k _ _ z nb⟩
 refine⟨PU G H l n x r t S,⟨l.length,λb=>b=x\/b=bJ G,acH,0,cs0,l.length,[],none,rfl,fK _,rfl,?_,(λq hq=>by cases hq),?_,aW,⟨(λc o O nc z=>z.elim (λz=>by rw[z,hx]at O;cases O) nc),λz=>z.elim hrx FC,λz=>z.elim hqx hqT⟩,aaY,aaZ,aa0,fK _,by rw[Qy];exact aa1.symm,λb o M _=>FT b o M⟩,?_⟩
 ·refine⟨.inl rfl,λb z=>?_,good0,⟨.inr rfl,ps,FT _ _ hT,aaX,.inl AC⟩,oB,tv,.ah,AL _ _ Z,rt2.mono (Kp.of AL) (λb z=>?_),rfl⟩
  ·rcases z with(z|z)|(z|z);·rw[z,s4 r _ aW];simp
   ·rw[z,aW];simp
   ·rw[z,AL _ _ Z];simp
   ·rw[z,FT _ _ hT];simp
  ·rcases z with(z|z)|z;·exact .inr (z▸X)
   ·exact .inr (z▸Y)
   ·exact .inl z
 ·exact s4 r _ aW
 rintro m σ Hc ⟨A,s,k,cs,f,out,s4',hm,hk,qs,hd,P1,px,P2,⟨P4,FU,FW⟩,B,FX,hlen,aa2,P5,L⟩;subst qs;have R1:jI G Hc r n S l k:=⟨px,nL L FP hn⟩;refine⟨.ref r,rfl,r,S,_,rfl,px,rfl,r,n,S,l,k,rfl,R1,_,rfl,?_⟩;by_cases lC:k<l.length
 ·rw[gT lC];show if true=true then _ else _;rw[ax rfl];obtain⟨p,args,g,rest,h,f',rfl,cA,aa3⟩:=aaR B lC;simp only[nZ,d0]at FX;have aeD:h.length+1<=100:=hlen;have hrl:∀y∈g,y.length<=20000:=λy hy=>by obtain⟨m,kk,_,_,_,_,aa4⟩:=ON cA;have:=PP aa4 y hy;rw[RH]at this;omega
  obtain⟨r0,T,I⟩:=aaO s hd.good p args g FX.1 hrl;have oX:=(PF hd.good P1 T);generalize aa5:mT s ((p::args)::g)=st at T I oX;obtain⟨s',j⟩:=st;dsimp only at T I oX;have aeE:j.length<=100001:=by have h1:=oX.1;unfold pz at h1;cases r0 with|bad=>exact h1.elim|exc c=>have e1:=R.ok.inj I;have e2:=DL.D.lst.inj e1;have e3:=bz ki e2;simp at e3;omega|ok d=>obtain⟨l1,rfl,sT⟩:=h1;have e1:=R.ok.inj I;have e2:=DL.D.lst.inj e1;have e3:=bz ki e2;simp at e3;omega
  have aa6:uG (uH mT s (((p::args)::g)::h))=((j.length:Int)::j)++uG (uH mT s' h):=by show uG ((mT s ((p::args)::g)).2::uH mT (mT s ((p::args)::g)).1 h)=_;rw[aa5];rfl
  refine⟨PV G H l n x r t S k s' f' h,λet H' ⟨A,k',xl,s4,b1,b2,b3,b4,b5,b6,b7,b8,b9,AM,FY⟩=>⟨l.length-k',by omega,A,s',k',h,f',xl,s4,rfl,b2,b3,b4,oX.2,b5,b6,b7,b8,FX.2,by omega,b9,AM,FY⟩,?_⟩;refine⟨.ref x,rfl,.ref r,rfl,r,S,_,rfl,px,rfl,?_⟩;refine⟨λb=>(b=r\/b=t)\/A b,r,n,S,l,k,p,args,g,rest,rfl,.inl (.inl rfl),hd.bI,R1,nL L FQ hD,by omega,cA,λv H3 k' FZ aa7 zE aa8 F0 zC=>?_⟩;have AB:gS G H3 (λb=>b=r\/b=t) A x s:=PN hd FZ (.inl rfl) FU px (λz=>by rcases z with⟨_,z⟩|⟨_,_,z⟩<;>(unfold gH at z;cases z)) (by rw[F0];simp);have F1:H3 t=some (.lst (out.map V.int)):=FZ _ _ P2 (bK PY);refine⟨λb=>b=r\/b=t,A,x,s,[fV p args g],[v],s',pA r0,rfl,rfl,AB,⟨_,_,rfl,zC,rfl⟩,⟨P1,r0,T,rfl⟩,?_⟩;rw[I];intro v4 H4 A4 q0 dk4 rv4;obtain⟨b,rfl,P6,nb⟩:=Av rv4;have F2:H4 t=some (.lst (out.map V.int)):=q0.1 _ _ F1 (.inl FW);have Fi:H4 r=some (gH G S (.ref n) (k':Nat)):=q0.1 _ _ F0 (.inl FU);have P7:b≠t:=λz=>nb (.inl (.inr z));have U:∀c o,H3 c=some o->¬A c->¬A4 c:=λc o O hc z=>by
   rcases q0.2.2 c z with z|z;·exact hc z
   ·rw[O]at z;cases z
  have P8:∀c o,H c=some o->c≠bJ G->H3 c=some o:=λc o O nT=>FZ _ _ (L _ _ O nT) (J (s2 _ _ O)).1;have aa9:∀c o,H c=some o->c≠bJ G->H4 c=some o:=λc o O nT=>q0.1 _ _ (P8 c o O nT) (.inl (P4 c o O nT));have aba:(((p::args)::g)::h).length=h.length+1:=rfl;rw[aba]at aa2;have hob:out.length+100010<=100010*(100-h.length):=by
   have:100-h.length=(100-(h.length+1))+1:=by omega
   rw[this,Nat.mul_add];omega
  have aeF:100010*(100-h.length)<=10001000:=by
   have:100-h.length<=100:=by omega
   have:=Nat.mul_le_mul_left 100010 this;omega
  refine⟨.ref t,rfl,.inl ⟨rfl,_,.inl (.inl F2)⟩,.ref b,rfl,b,_,rfl,.inl (.inl P6),t,_,_,rfl,rfl,F2,by rw[bZ,P0];omega,?_⟩;have abb:∀o,Rd (upd H4 t o) b (.lst (j.map V.int)):=λo=>by
   rcases P6 with z|⟨o2,z⟩;·exact .inl (by rw[aD P7];exact z)
   ·exact .inr ⟨o2,by rw[aD P7];exact z⟩
  refine⟨.ref t,rfl,.inl ⟨rfl,_,.inl (.inl aW)⟩,.ref b,rfl,t,b,_,j.map V.int,rfl,rfl,aW,abb _,by rw[kg,bZ,bZ,P0];simp;omega,?_⟩;rw[oj];have e5:out.map V.int++[V.int ((j.map V.int).length:Nat)]++j.map V.int=(out++((j.length:Int)::j)).map V.int:=by simp
  rw[e5];have dk5:gS G (upd H4 t (.lst ((out++((j.length:Int)::j)).map V.int))) (λb=>b=r\/b=t) A4 x s':=PN dk4 Ff (.inr rfl) (U _ _ F1 FW) F2 (λz=>by rcases z with⟨_,z⟩|⟨_,_,z⟩<;>cases z) (by rw[aW];simp);refine⟨A4,k',out++((j.length:Int)::j),some (.ref b),zE,aa8,rfl,dk5,by rw[aD PY];exact Fi,aW,⟨λc o O nT=>U _ _ (P8 c o O nT) (P4 c o O nT),U _ _ F0 FU,U _ _ F1 FW⟩,by rw[aa7];exact aa3,by simp;omega,by rw[RT,<-aa6];exact P5,λc o O nT=>?_⟩;have hcq:c≠t:=(J (s2 _ _ O)).2;rw[aD hcq];exact aa9 c o O nT
 ·rw[iC lC];show if false=true then _ else _;rw[ay bE];have hke:k=l.length:=by omega
  rw[hke,Bh]at B;have hcs:cs=[]:=by cases f<;>(unfold pM at B;exact(eR B).symm)
  subst hcs;have:out=r8 l:=by have:=P5;simp[uH,uG]at this;exact this
  refine⟨.ref t,rfl,q (.ref t) Hc L (Aw (.inl ?_) id)⟩;rw[<-this];exact P2
section
variable{P:bA}{w:bB}{mg:ag->Option aj}{base:aZ}{G:Gx}(W:Wd mg base G)
include W
def b0:bh P w mg base G aS 0 "is_code_point" 1 ["number"] jE:=fD W 0 rfl [] λa b=>aE (bi (nr (o9 aR (ae 0) (bP (W.c 0))) (kG (ts (o9 (bP (W.c 1)) (ae 0) (bP (W.c 2)))))))
def b1:bh P w mg base G aS 1 "is_syllable" 1 ["code"] qy:=fD W 1 rfl [] λa b=>aE (bi (o9 (bP (W.c 3)) (ae 0) (bP (W.c 4))))
def b2:bh P w mg base G aS 2 "is_lead" 1 ["code"] tU:=fD W 2 rfl [] λa b=>aE (bi (o9 (bP (W.c 5)) (ae 0) (bP (W.c 6))))
def b3:bh P w mg base G aS 3 "is_vowel" 1 ["code"] qz:=fD W 3 rfl [] λa b=>aE (bi (o9 (bP (W.c 7)) (ae 0) (bP (W.c 8))))
def b4:bh P w mg base G aS 4 "is_tail" 1 ["code"] vZ:=fD W 4 rfl [] λa b=>aE (bi (o9 (bP (W.c 9)) (ae 0) (bP (W.c 10))))
def b5:bh P w mg base G aS 5 "touches_syllables" 1 ["first","last"] v8:=fD W 5 rfl ["kept","low","high"] λd a=>aC (cP 2 a (h9 (ak (h9 (ak (bP (W.c 3)) (ak (bP (W.c 4)) aw))) (ak (h9 (ak (bP (W.c 5)) (ak (bP (W.c 6)) aw))) (ak (h9 (ak (bP (W.c 7)) (ak (bP (W.c 8)) aw))) (ak (h9 (ak (bP (W.c 9)) (ak (bP (W.c 10)) aw))) aw)))))) (aE (bi (oU (W.b 1) (cg (fE [("low",3),("high",4)] a (DG (ae 2)) (bk a) (⟨_,Ks (Dt (y8 3) (Dt (y8 4) (Kr))),λ_ _ _ _ _=>Io rfl (Cn (oy (i:=3) a rfl (by first|exact cy rfl|exact bM rfl)) (Cn (oy (i:=4) a rfl (by first|exact cy rfl|exact bM rfl)) (Im)))⟩) fR (λ_ _ _ _ _=>(nr (vC (ae 0) (ae 4)) (kG (vC (ae 3) (ae 1))))))))))
def b6:bh P w mg base G aS 6 "syllable_parts" 1 ["syllable"] zF:=fD W 6 rfl ["offset","lead","vowel","tail","parts"] λb a=>aC (cP 1 a (lu (ae 0) (bP (W.c 3)))) (aC (cP 2 a (vB (vB (ae 1) (bP (W.c 12))) (bP (W.c 11)))) (aC (cP 3 a (tj (vB (ae 1) (bP (W.c 12))) (bP (W.c 11)))) (aC (cP 4 a (tj (ae 1) (bP (W.c 12)))) (aC (nu 5 a (ak (ga (bP (W.c 5)) (ae 2)) (ak (ga (bP (W.c 7)) (ae 3)) aw))) (aC (bQ (lw (ae 4) aR) (aE (oV 5 (ga (bP (W.c 13)) (ae 4)))) bW) (aE (lz 5)))))))
def b7:bh P w mg base G aS 7 "syllable_of" 2 ["first","second"] v9:=fD W 7 rfl [] λa b=>aC (bQ (gz (lx (dO (bb (b2 W) a aX (ak (ae 0) aw))) (mq (dO (bb (b3 W) a aX (ak (ae 1) aw)))))) (aE (bi (ga (bP (W.c 3)) (DB (lu (ga (DB (lu (ae 0) (bP (W.c 5))) (bP (W.c 11))) (ae 1)) (bP (W.c 7))) (bP (W.c 12)))))) bW) (aC (bQ (gz (lx (dO (bb (b1 W) a aX (ak (ae 0) aw))) (lx (jD (tj (lu (ae 0) (bP (W.c 3))) (bP (W.c 12))) aR) (mq (dO (bb (b4 W) a aX (ak (ae 1) aw))))))) (aE (bi (lu (ga (ae 0) (ae 1)) (bP (W.c 13))))) bW) (aE (bi vA)))
def b9:bh P w mg base G aS 9 "records_of" 1 ["row","size"] kM:=fD W 9 rfl ["at"] λc a=>aE (bi (fE [("at",2)] a (LS (W.b 3) (ak aR (ak (gr (W.b 0) (ae 0)) (ak (ae 1) aw)))) (bk a) (e9 2 a) fR (λ_ _ _ _ _=>(mu (cg (ae 0)) (iY (ae 2)) (iY (ga (ae 2) (ae 1)))))))
def b84:gN P w mg base G aS 0 84 "Dec" 1 ["self","record","pool"] 2 zG:=fI W 84 rfl [] λa b C=>aC (cQ 0 0 (C.k 0) (bX (ae 1) aR)) (aC (cQ 0 1 (C.k 0) (bX (ae 1) aR)) (aC (cQ 0 2 (C.k 0) (bX (ae 1) aR)) (aC (cQ 0 3 (C.k 0) (bX (ae 1) aR)) (aC (cQ 0 4 (C.k 0) (mu (cg (ae 2)) (iY (ib 0 2 (C.k 0))) (iY (ga (ib 0 2 (C.k 0)) (ib 0 3 (C.k 0)))))) (aE (cQ 0 5 (C.k 0) (gb (ak (ib 0 0 (C.k 0)) (ak (ib 0 1 (C.k 0)) aw)))))))))
def b85:gN P w mg base G aS 1 85 "Pair" 1 ["self","record"] 1 zH:=fI W 85 rfl [] λa b C=>aC (cQ 0 0 (C.k 1) (bX (ae 1) aR)) (aC (cQ 0 1 (C.k 1) (bX (ae 1) aR)) (aC (cQ 0 2 (C.k 1) (bX (ae 1) aR)) (aE (cQ 0 3 (C.k 1) (gb (ak (ib 0 0 (C.k 1)) (ak (ib 0 1 (C.k 1)) aw)))))))
def b86:gN P w mg base G aS 2 86 "Marks" 1 ["self","record"] 1 zI:=fI W 86 rfl [] λa b C=>aC (cQ 0 0 (C.k 2) (bX (ae 1) aR)) (aC (cQ 0 1 (C.k 2) (bX (ae 1) aR)) (aE (cQ 0 2 (C.k 2) (bX (ae 1) aR))))
def b87:gN P w mg base G aS 3 87 "Key" 1 ["self","record"] 1 zJ:=fI W 87 rfl [] λa b C=>aC (cQ 0 0 (C.k 3) (bX (ae 1) aR)) (aC (cQ 0 1 (C.k 3) (bX (ae 1) aR)) (aC (cQ 0 2 (C.k 3) (bX (ae 1) aR)) (aC (cQ 0 3 (C.k 3) (mu (cg (ae 1)) (iY aR) vE)) (aE (cQ 0 4 (C.k 3) (ib 0 3 (C.k 3)))))))
def F3:gN P w mg base G aS 4 88 "Weight" 1 ["self","record"] 1 qA:=fI W 88 rfl [] λa b C=>aC (cQ 0 0 (C.k 4) (bX (ae 1) aR)) (aC (cQ 0 1 (C.k 4) (bX (ae 1) aR)) (aE (cQ 0 2 (C.k 4) (bX (ae 1) aR))))
def AM:bh P w mg base G aS 10 "rows_of_kind" 1 ["decs","kind"] wb:=fD W 10 rfl ["rows","dec"] λb a=>aC (KR 2 a) (aC (iL jT (dZ (ae 0)) (gB 3 a) (aE (bQ (jD (aI 1 (W.k 0) (ae 3)) (ae 1)) (aE (LR 2 (fB b) (aI 0 (W.k 0) (ae 3)) (aI 4 (W.k 0) (ae 3)))) bW))) (aE (lz 2)))
def FY:bh P w mg base G aS 11 "wholes_by_parts" 1 ["pairs"] zK:=fD W 11 rfl ["wholes","pair"] λb a=>aC (KS 1 a) (aC (iL jT (dZ (ae 0)) (gB 2 a) (aE (YG 1 (fB b) (ak (aI 0 (W.k 1) (ae 2)) (ak (aI 1 (W.k 1) (ae 2)) aw)) (aI 2 (W.k 1) (ae 2))))) (aE (lz 1)))
def b12:bh P w mg base G aS 12 "seconds_of_pairs" 1 ["pairs"] zL:=fD W 12 rfl ["seconds","pair"] λb a=>aC (KR 1 a) (aC (iL jT (dZ (ae 0)) (gB 2 a) (aE (LR 1 (fB b) (aI 1 (W.k 1) (ae 2)) d7))) (aE (lz 1)))
def b13:bh P w mg base G aS 13 "weights_by_keys" 1 ["weighed","weights"] zM:=fD W 13 rfl ["by_codes","key"] λc a=>aC (KS 2 a) (aC (iL jT (dZ (ae 0)) (gB 3 a) (aE (YR 2 (fB c) (LU (W.b 11) (cg (mu (cg (aI 3 (W.k 3) (ae 3))) vE (iY (aI 0 (W.k 3) (ae 3)))))) (mu (cg (ae 1)) (iY (aI 1 (W.k 3) (ae 3))) (iY (ga (aI 1 (W.k 3) (ae 3)) (aI 2 (W.k 3) (ae 3)))))))) (aE (lz 2)))
def P9:gN P w mg base G aS 5 89 "Tables" 3 ["self","rows"] 1 wc:=fI W 89 rfl ["record"] λa d C=>aC (cQ 0 0 (C.k 5) (WF (C.b 4) (cg (bX (ae 1) aR)))) (aC (cQ 0 1 (C.k 5) (fE [("record",2)] d (dZ (bb ((b9 W).at _) a aX (ak (bX (ae 1) aR) (ak (bX (oR (C.t 0)) aR) aw)))) (bk d) (e9 2 d) fR (λ_ _ _ _ _=>(kL ((b84 W).at _) a (ak (ae 2) (ak (ib 0 0 (C.k 5)) aw)))))) (aC (cQ 0 2 (C.k 5) (fE [("record",2)] d (dZ (bb ((b9 W).at _) a aX (ak (bX (ae 1) aR) (ak (bX (oR (C.t 0)) aR) aw)))) (bk d) (e9 2 d) fR (λ_ _ _ _ _=>(kL ((b85 W).at _) a (ak (ae 2) aw))))) (aC (cQ 0 3 (C.k 5) (fE [("record",2)] d (dZ (bb ((b9 W).at _) a aX (ak (bX (ae 1) aR) (ak (bX (oR (C.t 0)) aR) aw)))) (bk d) (e9 2 d) fR (λ_ _ _ _ _=>(kL ((b86 W).at _) a (ak (ae 2) aw))))) (aC (cQ 0 4 (C.k 5) (fE [("record",2)] d (dZ (bb ((b9 W).at _) a aX (ak (bX (ae 1) aR) (ak (bX (oR (C.t 0)) aR) aw)))) (bk d) (e9 2 d) fR (λ_ _ _ _ _=>(kL ((b87 W).at _) a (ak (ae 2) aw))))) (aC (cQ 0 5 (C.k 5) (fE [("record",2)] d (dZ (bb ((b9 W).at _) a aX (ak (bX (ae 1) aR) (ak (bX (oR (C.t 0)) aR) aw)))) (bk d) (e9 2 d) fR (λ_ _ _ _ _=>(kL ((F3 W).at _) a (ak (ae 2) aw))))) (aC (cQ 0 6 (C.k 5) (bb ((AM W).at _) a aX (ak (ib 0 1 (C.k 5)) (ak (bP (C.c 14)) aw)))) (aC (cQ 0 7 (C.k 5) (bb ((AM W).at _) a aX (ak (ib 0 1 (C.k 5)) (ak (bP (C.c 15)) aw)))) (aC (cQ 0 8 (C.k 5) (bb ((FY W).at _) a aX (ak (ib 0 2 (C.k 5)) aw))) (aC (cQ 0 9 (C.k 5) (bb ((b12 W).at _) a aX (ak (ib 0 2 (C.k 5)) aw))) (aE (cQ 0 10 (C.k 5) (bb ((b13 W).at _) a aX (ak (ib 0 4 (C.k 5)) (ak (ib 0 5 (C.k 5)) aw))))))))))))))
def b8:bh P w mg base G aS 8 "empty_tables" 5 [] Em:=fD W 8 rfl ["size"] λb a=>aE (bi (kL (P9 W) b (ak (fE [("size",0)] a (DG (oR (W.t 0))) (bk a) (e9 0 a) fR (λ_ _ _ _ _=>(gb aw))) aw)))
def AN:bh P w mg base G (bH P w) 14 "check_form" 1 ["form"] qB:=fX W 14 rfl [] λb c a=>aE (bQ (gM (wy aR (ae 0) aR)) (aE (kO W.toTxt 0 a)) bW)
def b15:bh P w mg base G (bH P w) 15 "check_apart_form" 1 ["form"] En:=fX W 15 rfl [] λb c a=>aE (bQ (DF (ae 0) (h9 (ak aR (ak aR aw))) (by rfl)) (aE (kO W.toTxt 0 a)) bW)
def AO:bh P w mg base G (bH P w) 16 "check_level" 1 ["level"] qC:=fX W 16 rfl [] λb c a=>aE (bQ (gM (wy aR (ae 0) aR)) (aE (kO W.toTxt 0 a)) bW)
def F4:bh P w mg base G (bH P w) 17 "check_back" 1 ["back"] wd:=fX W 17 rfl [] λb c a=>aE (bQ (DF (ae 0) (h9 (ak aR (ak aR aw))) (by rfl)) (aE (kO W.toTxt 0 a)) bW)
def Qa:bh P w mg base G (bH P w) 19 "check_sizes" 1 ["texts"] zN:=fX W 19 rfl ["text"] λe a d=>aE (bQ (dO (oU (W.b 1) (cg (fE [("text",1)] a (dZ (ae 0)) (bk a) (e9 1 a) fR (λ_ _ _ _ _=>(Wv (gr (W.b 0) (ae 1)) (bP (W.c 16)))))))) (aE (kO W.toTxt 0 d)) bW)
def F5:bh P w mg base G (bH P w) 20 "check_codes" 2 ["texts"] tV:=fX W 20 rfl ["text","number"] λd a c=>aE (iL c.own (dZ (ae 0)) (gB 1 a) (aE (bQ (gM (dO (tD (W.b 2) (cg (fE [("number",2)] a (dZ (ae 1)) (bk a) (e9 2 a) fR (λ_ _ _ _ _=>(bb (b0 W) d aX (ak (ae 2) aw)))))))) (aE (kO W.toTxt 2 c)) bW)))
def ri:bh P w mg base G (bH P w) 18 "check_texts" 3 ["texts"] kN:=fX W 18 rfl [] λa c b=>aC (gO (bb (Qa W) a (fF b.pass) (ak (ae 0) aw))) (aE (gO (bb (F5 W) a (fF b.pass) (ak (ae 0) aw))))
def b21:bh P w mg base G (bH P w) 21 "check_lengths" 1 ["lengths","x"] Eo:=fX W 21 rfl ["length"] λe a d=>aC (bQ (gz (ly (tp (gr (W.b 0) (ae 0)) (bP (W.c 17))) (mr (dO (oU (W.b 1) (cg (fE [("length",2)] a (dZ (ae 0)) (bk a) (e9 2 a) fR (λ_ _ _ _ _=>(Wu (ae 2) aR))))))))) (aE (kO W.toTxt 0 d)) bW) (aE (bQ (lw (YI (W.b 9) (cg (ae 0))) (gr (W.b 0) (ae 1))) (aE (kO W.toTxt 0 d)) bW))
def b22:bh P w mg base G (bH P w) 22 "check_search" 1 ["x","y"] zO:=fX W 22 rfl [] λd e a=>aE (bQ (gz (ly (tp (gr (W.b 0) (ae 0)) (bP (W.c 18))) (mr (gM (wy aR (gr (W.b 0) (ae 1)) (bP (W.c 18))))))) (aE (kO W.toTxt 0 a)) bW)
def b23:bh P w mg base G (bH P w) 23 "check_rows" 1 ["rows"] Ep:=fX W 23 rfl ["row","size","greatest","number"] λe a d=>aE (iL d.own (Zk (W.b 6) (ak (ae 0) (ak (oR (W.t 0)) (ak (oR (W.t 1)) aw)))) (DI (qk (gB 1 a) (qk (gB 2 a) (qk (gB 3 a) DH)))) (aC (bQ (gz (ly (lw (tj (gr (W.b 0) (ae 1)) (ae 2)) aR) (mr (tp (gr (W.b 0) (ae 1)) (DB (bP (W.c 19)) (ae 2)))))) (aE (kO W.toTxt 0 d)) bW) (aE (bQ (gM (dO (tD (W.b 2) (cg (fE [("number",4)] a (dZ (ae 1)) (bk a) (e9 4 a) fR (λ_ _ _ _ _=>(o9 aR (ae 4) (ae 3)))))))) (aE (kO W.toTxt 0 d)) bW))))
def Qb:bh P w mg base G aS 24 "is_loose_form" 1 ["form"] oZ:=fD W 24 rfl [] λa b=>aE (bi (Ww (ae 0) aR))
def Qd:bh P w mg base G aS 25 "is_together_form" 1 ["form"] we:=fD W 25 rfl [] λa b=>aE (bi (oT (tj (ae 0) aR) aR))
def ka:tE P w mg base G aS 5 90 "class_of" 1 ["self","code"] ek:=fM W 90 rfl ["low","high","middle"] λc a=>aC (cP 2 a aR) (aC (cP 3 a (gr (W.b 0) (aI 3 (W.k 5) (ae 0)))) (aC (LQ (fuel:=λ_=>200) jT (ze (ae 2) (ae 3)) (aC (cP 4 a (vB (ga (ae 2) (ae 3)) aR)) (aE (bQ (ze (aI 1 (W.k 2) (bX (aI 3 (W.k 5) (ae 0)) (ae 4))) (ae 1)) (aE (cP 2 a (ga (ae 4) aR))) (aE (cP 3 a (ae 4))))))) (aC (bQ (gz (lx (ze (ae 2) (gr (W.b 0) (aI 3 (W.k 5) (ae 0)))) (mq (DC (aI 0 (W.k 2) (bX (aI 3 (W.k 5) (ae 0)) (ae 2))) (ae 1))))) (aE (bi (aI 2 (W.k 2) (bX (aI 3 (W.k 5) (ae 0)) (ae 2))))) bW) (aE (bi aR)))))
def Qe:Ef P w mg base G 5 90 "class_of" 1 ["self","code"] ek:=haveI B:=ka (P:=P) (w:=w) W;⟨B.ok,⟨B.mt.at_,B.mt.fn,W.bm.1,W.bm.2,rfl⟩,B.cl,B.no⟩
def F6:bh P w mg base G aS 30 "put_in_order" 4 ["tables","codes"] lF:=fD W 30 rfl ["ordered","stretch","code"] λc a=>aC (nu 2 a aw) (aC (nu 3 a aw) (aC (iL jT (dZ (ae 1)) (gB 4 a) (aE (bQ (tp (i7 (ka W) c aX (ae 0) (ak (ae 4) aw)) aR) (aE (oV 3 (ae 4))) (aC (vN 2 (cg (Ma (W.b 5) (Qe W) c (sZ 3) (ae 0)))) (aC (oV 2 (ae 4)) (aE (nu 3 a aw))))))) (aE (bi (K0 (sZ 2) (cg (Ma (W.b 5) (Qe W) c (sZ 3) (ae 0))))))))
def F7:bh P w mg base G aS 28 "parts_of" 2 ["tables","code","loosely"] mB:=fD W 28 rfl [] λa b=>aC (bQ (gz (lx (dO (ae 2)) (mq (KJ (fB a) (ae 1) (aI 7 (W.k 5) (ae 0)))))) (aE (bi (zh (fB a) (aI 7 (W.k 5) (ae 0)) (ae 1)))) bW) (aC (bQ (KJ (fB a) (ae 1) (aI 6 (W.k 5) (ae 0))) (aE (bi (zh (fB a) (aI 6 (W.k 5) (ae 0)) (ae 1)))) bW) (aC (bQ (dO (bb (b1 W) a aX (ak (ae 1) aw))) (aE (bi (bb (b6 W) a aX (ak (ae 1) aw)))) bW) (aE (bi (gb (ak (ae 1) aw))))))
def F8:bh P w mg base G aS 27 "apart" 3 ["tables","text","loosely"] lG:=fD W 27 rfl ["codes","code"] λb a=>aC (nu 3 a aw) (aC (iL jT (dZ (ae 1)) (gB 4 a) (aE (vN 3 (cg (bb (F7 W) b aX (ak (ae 0) (ak (ae 4) (ak (ae 2) aw)))))))) (aE (lz 3)))
def b32:bh P w mg base G aS 32 "reaches_base" 2 ["tables","out","base","code"] tW:=fD W 32 rfl [] λa c=>aC (bQ (jD (ae 2) (lu (gr (W.b 0) (ae 1)) aR)) (aE (bi d7)) bW) (aE (bi (DE (q:=λi j=>decide (i<j)) (r:=λi j=>decide (i<j)) u4 u4 aR (i7 (ka W) a aX (ae 0) (ak (bX (ae 1) (D8 aR)) aw)) (i7 (ka W) a aX (ae 0) (ak (ae 3) aw)))))
def b33:bh P w mg base G aS 33 "whole_of" 3 ["tables","first","second"] tX:=fD W 33 rfl [] λa b=>aC (bQ (WA (fB a) (ak (ae 1) (ak (ae 2) aw)) (aI 8 (W.k 5) (ae 0))) (aE (bi (WD (fB a) (aI 8 (W.k 5) (ae 0)) (ak (ae 1) (ak (ae 2) aw))))) bW) (aE (bi (bb (b7 W) a aX (ak (ae 1) (ak (ae 2) aw)))))
def b31:bh P w mg base G aS 31 "together" 4 ["tables","codes"] zP:=fD W 31 rfl ["out","base","code","whole"] λc a=>aC (nu 2 a aw) (aC (cP 3 a vA) (aC (iL jT (dZ (ae 1)) (gB 4 a) (aC (cP 5 a vA) (aC (bQ (gz (lx (DD (ae 3)) (mq (dO (YT 2 (bb (b32 W) c aX (ak (ae 0) (ak (ae 2) (ak (ae 3) (ak (ae 4) aw)))))))))) (aE (cP 5 a (bb (b33 W) c aX (ak (ae 0) (ak (KO (sZ 2) (ae 3)) (ak (ae 4) aw)))))) bW) (aE (bQ (DD (ae 5)) (aE (YF 2 (ae 3) (ae 5))) (aC (bQ (jD (i7 (ka W) c aX (ae 0) (ak (ae 4) aw)) aR) (aE (cP 3 a (WE (W.b 0) (sZ 2)))) bW) (aE (oV 2 (ae 4))))))))) (aE (lz 2))))
def rj:bh P w mg base G aS 26 "form_of" 5 ["tables","form","text"] iM:=fD W 26 rfl ["codes"] λa b=>aC (cP 3 b (bb (F6 W) a aX (ak (ae 0) (ak (bb (F8 W) a aX (ak (ae 0) (ak (ae 2) (ak (bb (Qb W) a aX (ak (ae 1) aw)) aw)))) aw)))) (aC (bQ (dO (bb (Qd W) a aX (ak (ae 1) aw))) (aE (bi (bb (b31 W) a aX (ak (ae 0) (ak (ae 3) aw))))) bW) (aE (bi (ae 3))))
def F9:bh P w mg base G aS 29 "first_part" 3 ["tables","code","loosely"] nz:=fD W 29 rfl [] λa b=>aE (bi (bX (bb (F7 W) a aX (ak (ae 0) (ak (ae 1) (ak (ae 2) aw)))) aR))
def b39:bh P w mg base G aS 39 "is_safe" 4 ["tables","form","code"] Er:=fD W 39 rfl ["first"] λa b=>aC (cP 3 b (bb (F9 W) a aX (ak (ae 0) (ak (ae 2) (ak (bb (Qb W) a aX (ak (ae 1) aw)) aw))))) (aC (bQ (lw (i7 (ka W) a aX (ae 0) (ak (ae 3) aw)) aR) (aE (bi d7)) bW) (aC (bQ (gM (dO (bb (Qd W) a aX (ak (ae 1) aw)))) (aE (bi d7)) bW) (aE (bi (nr (KL (fB a) (ae 3) (aI 9 (W.k 5) (ae 0))) (nr (ts (bb (b3 W) a aX (ak (ae 3) aw))) (kG (ts (bb (b4 W) a aX (ak (ae 3) aw))))))))))
def b54:bh P w mg base G aS 54 "weight_holds" 1 ["tables","place"] wf:=fD W 54 rfl ["weight"] λb a=>aC (cP 2 a (bX (aI 5 (W.k 5) (ae 0)) (ae 1))) (aC (bQ (Wz aR (h9 (ak (aI 0 (W.k 4) (ae 2)) (ak (aI 1 (W.k 4) (ae 2)) (ak (aI 2 (W.k 4) (ae 2)) aw)))) (by rfl)) (aE (bi d7)) bW) (aC (bQ (gz (lx (lw (aI 0 (W.k 4) (ae 2)) aR) (mq (jD (aI 1 (W.k 4) (ae 2)) aR)))) (aE (bi d7)) bW) (aE (bi (zf (oT (aI 1 (W.k 4) (ae 2)) aR) (kG (KI (aI 2 (W.k 4) (ae 2)) aR)))))))
def Ga:bh P w mg base G aS 43 "rises" 1 ["records","place"] o7:=fD W 43 rfl [] λa b=>aE (bi (zf (oT (ae 1) aR) (kG (YU a.CG (cg (L9 lE W.rank (bX (ae 0) (lu (ae 1) aR)))) (cg (L9 lE W.rank (bX (ae 0) (ae 1))))))))
def Gb:bh P w mg base G aS 42 "is_plain_code" 2 ["number"] lH:=fD W 42 rfl [] λa b=>aE (bi (nr (bb (b0 W) a aX (ak (ae 0) aw)) (kG (ts (bb (b1 W) a aX (ak (ae 0) aw))))))
def b53:bh P w mg base G aS 53 "key_holds" 3 ["tables","place"] wg:=fD W 53 rfl ["key","code"] λc a=>aC (cP 2 a (bX (aI 4 (W.k 5) (ae 0)) (ae 1))) (aC (bQ (gz (ly (gM (wy aR (aI 0 (W.k 3) (ae 2)) aR)) (mr (gM (dO (bb (Ga W) c aX (ak (aI 4 (W.k 5) (ae 0)) (ak (ae 1) aw)))))))) (aE (bi d7)) bW) (aC (bQ (gM (dO (tD (W.b 2) (cg (fE [("code",3)] a (dZ (mu (cg (aI 3 (W.k 3) (ae 2))) vE (iY (aI 0 (W.k 3) (ae 2))))) (bk a) (e9 3 a) fR (λ_ _ _ _ _=>(nr (bb (Gb W) c aX (ak (ae 3) aw)) (kG (KL (fB c) (ae 3) (aI 6 (W.k 5) (ae 0))))))))))) (aE (bi d7)) bW) (aC (bQ (dO (oU (W.b 1) (cg (fE [("code",3)] a (dZ (mu (cg (aI 3 (W.k 3) (ae 2))) (iY (aI 0 (W.k 3) (ae 2))) vE)) (bk a) (e9 3 a) fR (λ_ _ _ _ _=>(KI (ae 3) aR)))))) (aE (bi d7)) bW) (aE (bi (nr (vC (aI 2 (W.k 3) (ae 2)) aR) (kG (vC (ga (aI 1 (W.k 3) (ae 2)) (aI 2 (W.k 3) (ae 2))) (gr (W.b 0) (aI 5 (W.k 5) (ae 0)))))))))))
def b52:bh P w mg base G aS 52 "pair_holds" 5 ["tables","place"] wh:=fD W 52 rfl ["pair","code"] λa c=>aC (cP 2 c (bX (aI 2 (W.k 5) (ae 0)) (ae 1))) (aC (bQ (gM (dO (tD (W.b 2) (cg (fE [("code",3)] c (DG (h9 (ak (aI 0 (W.k 1) (ae 2)) (ak (aI 1 (W.k 1) (ae 2)) (ak (aI 2 (W.k 1) (ae 2)) aw))))) (bk c) (e9 3 c) fR (λ_ _ _ _ _=>(bb (Gb W) a aX (ak (ae 3) aw)))))))) (aE (bi d7)) bW) (aC (bQ (gz (ly (gM (dO (bb (Ga W) a aX (ak (aI 2 (W.k 5) (ae 0)) (ak (ae 1) aw))))) (mr (gz (lx (dO (bb (b2 W) a aX (ak (aI 0 (W.k 1) (ae 2)) aw))) (mq (dO (bb (b3 W) a aX (ak (aI 1 (W.k 1) (ae 2)) aw))))))))) (aE (bi d7)) bW) (aC (bQ (gz (ly (lw (i7 (ka W) a aX (ae 0) (ak (aI 0 (W.k 1) (ae 2)) aw)) aR) (mr (lw (i7 (ka W) a aX (ae 0) (ak (aI 2 (W.k 1) (ae 2)) aw)) aR)))) (aE (bi d7)) bW) (aC (bQ (lw (i7 (ka W) a aX (ae 0) (ak (bb (F9 W) a aX (ak (ae 0) (ak (aI 0 (W.k 1) (ae 2)) (ak d7 aw)))) aw)) aR) (aE (bi d7)) bW) (aC (bQ (KN (fB a) (aI 2 (W.k 1) (ae 2)) (aI 6 (W.k 5) (ae 0))) (aE (bi d7)) bW) (aE (bi (K2 a.units (cg (zh (fB a) (aI 6 (W.k 5) (ae 0)) (aI 2 (W.k 1) (ae 2)))) (cg (bb (F6 W) a aX (ak (ae 0) (ak (bb (F8 W) a aX (ak (ae 0) (ak (gb (ak (aI 0 (W.k 1) (ae 2)) (ak (aI 1 (W.k 1) (ae 2)) aw))) (ak d7 aw)))) aw))))))))))))
def b48:bh P w mg base G aS 48 "strict_row_holds" 1 ["tables","dec"] zQ:=fD W 48 rfl ["needs_loose","code"] λc a=>aC (bQ (dO (oU (W.b 1) (cg (fE [("code",3)] a (dZ (aI 4 (W.k 0) (ae 1))) (bk a) (e9 3 a) fR (λ_ _ _ _ _=>(vD (fB c) (ae 3) (aI 6 (W.k 5) (ae 0)))))))) (aE (bi d7)) bW) (aC (cP 2 a (oU (W.b 1) (cg (fE [("code",3)] a (dZ (aI 4 (W.k 0) (ae 1))) (bk a) (e9 3 a) fR (λ_ _ _ _ _=>(vD (fB c) (ae 3) (aI 7 (W.k 5) (ae 0)))))))) (aE (bi (oT (ae 2) (vD (fB c) (aI 0 (W.k 0) (ae 1)) (aI 7 (W.k 5) (ae 0)))))))
def b49:bh P w mg base G aS 49 "loose_row_holds" 5 ["tables","dec"] zR:=fD W 49 rfl ["code"] λa c=>aC (bQ (dO (oU (W.b 1) (cg (fE [("code",2)] c (dZ (aI 4 (W.k 0) (ae 1))) (bk c) (e9 2 c) fR (λ_ _ _ _ _=>(zf (vD (fB a) (ae 2) (aI 6 (W.k 5) (ae 0))) (kG (vD (fB a) (ae 2) (aI 7 (W.k 5) (ae 0)))))))))) (aE (bi d7)) bW) (aC (bQ (KN (fB a) (aI 0 (W.k 0) (ae 1)) (aI 6 (W.k 5) (ae 0))) (aE (bi d7)) bW) (aE (bi (K2 a.units (cg (aI 4 (W.k 0) (ae 1))) (cg (bb (F6 W) a aX (ak (ae 0) (ak (bb (F8 W) a aX (ak (ae 0) (ak (zh (fB a) (aI 6 (W.k 5) (ae 0)) (aI 0 (W.k 0) (ae 1))) (ak d7 aw)))) aw))))))))
def b50:bh P w mg base G aS 50 "classes_agree" 2 ["tables","dec"] wj:=fD W 50 rfl ["own","code"] λc a=>aC (cP 2 a (i7 (ka W) c aX (ae 0) (ak (aI 0 (W.k 0) (ae 1)) aw))) (aE (bi (zf (oT (ae 2) aR) (kG (tD (W.b 2) (cg (fE [("code",3)] a (dZ (aI 4 (W.k 0) (ae 1))) (bk a) (e9 3 a) fR (λ_ _ _ _ _=>(oT (i7 (ka W) c aX (ae 0) (ak (ae 3) aw)) (ae 2))))))))))
def b51:bh P w mg base G aS 51 "is_in_order" 2 ["tables","row"] wk:=fD W 51 rfl ["classes","code","k"] λc a=>aC (cP 2 a (fE [("code",3)] a (dZ (ae 1)) (bk a) (e9 3 a) fR (λ_ _ _ _ _=>(i7 (ka W) c aX (ae 0) (ak (ae 3) aw))))) (aE (bi (ts (oU (W.b 1) (cg (fE [("k",4)] a (zj (W.b 3) (ak (lu (gr (W.b 0) (ae 1)) aR) aw)) (bk a) (e9 4 a) fR (λ_ _ _ _ _=>(DE (q:=λi j=>decide (j<i)) (r:=λi j=>decide (j<i)) sE sE (bX (ae 2) (ae 4)) (bX (ae 2) (ga (ae 4) aR)) aR))))))))
def b47:bh P w mg base G aS 47 "dec_row_holds" 6 ["tables","place"] wl:=fD W 47 rfl ["dec"] λa b=>aC (cP 2 b (bX (aI 1 (W.k 5) (ae 0)) (ae 1))) (aC (bQ (gz (lx (jD (aI 1 (W.k 0) (ae 2)) (bP (W.c 14))) (mq (gM (dO (bb (b48 W) a aX (ak (ae 0) (ak (ae 2) aw)))))))) (aE (bi d7)) bW) (aC (bQ (gz (lx (jD (aI 1 (W.k 0) (ae 2)) (bP (W.c 15))) (mq (gM (dO (bb (b49 W) a aX (ak (ae 0) (ak (ae 2) aw)))))))) (aE (bi d7)) bW) (aE (bi (nr (bb (b50 W) a aX (ak (ae 0) (ak (ae 2) aw))) (kG (bb (b51 W) a aX (ak (ae 0) (ak (aI 4 (W.k 0) (ae 2)) aw)))))))))
def b46:bh P w mg base G aS 46 "dec_holds" 2 ["tables","place"] wm:=fD W 46 rfl ["dec"] λa d=>aC (cP 2 d (bX (aI 1 (W.k 5) (ae 0)) (ae 1))) (aC (bQ (gz (ly (gM (dO (bb (b0 W) a aX (ak (aI 0 (W.k 0) (ae 2)) aw)))) (mr (dO (bb (b5 W) a aX (ak (aI 0 (W.k 0) (ae 2)) (ak (aI 0 (W.k 0) (ae 2)) aw))))))) (aE (bi d7)) bW) (aC (bQ (gz (ly (DF (aI 1 (W.k 0) (ae 2)) (h9 (ak (bP (W.c 14)) (ak (bP (W.c 15)) aw))) (by rfl)) (mr (gM (dO (bb (Ga W) a aX (ak (aI 1 (W.k 5) (ae 0)) (ak (ae 1) aw)))))))) (aE (bi d7)) bW) (aE (bi (nr (o9 aR (aI 3 (W.k 0) (ae 2)) aR) (kG (vC (ga (aI 2 (W.k 0) (ae 2)) (aI 3 (W.k 0) (ae 2))) (gr (W.b 0) (aI 0 (W.k 5) (ae 0))))))))))
def b45:bh P w mg base G aS 45 "marks_hold" 2 ["tables","place"] wn:=fD W 45 rfl ["marks"] λa b=>aC (cP 2 b (bX (aI 3 (W.k 5) (ae 0)) (ae 1))) (aC (bQ (gz (ly (gM (dO (bb (b0 W) a aX (ak (aI 0 (W.k 2) (ae 2)) aw)))) (ly (gM (dO (bb (b0 W) a aX (ak (aI 1 (W.k 2) (ae 2)) aw)))) (mr (tp (aI 0 (W.k 2) (ae 2)) (aI 1 (W.k 2) (ae 2))))))) (aE (bi d7)) bW) (aC (bQ (gM (wy aR (aI 2 (W.k 2) (ae 2)) aR)) (aE (bi d7)) bW) (aC (bQ (gz (lx (tp (ae 1) aR) (mq (DC (aI 0 (W.k 2) (ae 2)) (aI 1 (W.k 2) (bX (aI 3 (W.k 5) (ae 0)) (lu (ae 1) aR))))))) (aE (bi d7)) bW) (aE (bi (ts (bb (b5 W) a aX (ak (aI 0 (W.k 2) (ae 2)) (ak (aI 1 (W.k 2) (ae 2)) aw)))))))))
def b44:bh P w mg base G aS 44 "pool_holds" 3 ["tables","place"] wo:=fD W 44 rfl [] λa b=>aE (bi (bb (Gb W) a aX (ak (bX (aI 0 (W.k 5) (ae 0)) (ae 1)) aw)))
def rm{t k:Nat}{x:ag}{ps:List ag}{F:List D->R D}(B:bh P w mg base G aS t x k ps F)(d:k<=6)(f:ps.length=2)(h:FV t=some F):∃a ps,bS P w G.K mg base aS 6 (G.fm t) a ps (gx G 2 F)/\Binds G.K a ps []/\jJ G.K (.ref (G.fm t))=true/\∀t' b,FV t'=some b->G.fm t=G.fm t'->b=F:=by obtain⟨⟨a,c,g⟩,_,i⟩:=B;rw[f]at c;exact⟨a,_,c.mono d,g,i,λt' b j e=>W.fi _ t' _ b h j e⟩
def bv:Ed P w mg base G aS 6 2 FV:=λt F h=>by
 have a:=h;delta FV at h;repeat' split at h
 ·rename_i e;subst e;cases h;exact rm W (b44 W) (by decide) rfl a
 ·rename_i e;subst e;cases h;exact rm W (b45 W) (by decide) rfl a
 ·rename_i e;subst e;cases h;exact rm W (b46 W) (by decide) rfl a
 ·rename_i e;subst e;cases h;exact rm W (b47 W) (by decide) rfl a
 ·rename_i e;subst e;cases h;exact rm W (b52 W) (by decide) rfl a
 ·rename_i e;subst e;cases h;exact rm W (b53 W) (by decide) rfl a
 ·rename_i e;subst e;cases h;exact rm W (b54 W) (by decide) rfl a
 nomatch h
def b41:bh P w mg base G aS 41 "first_wrong" 7 ["tables","records","holds"] qD:=fD W 41 rfl ["place"] λa c=>aC (iL jT (zj (W.b 3) (ak (gr (W.b 0) (ae 1)) aw)) (gB 3 c) (aE (bQ (gM (dO (Zr 2 (bv W) a aX (ak (ae 0) (ak (ae 3) aw))))) (aE (bi (ae 3))) bW))) (aE (bi vA))
def b40:bh P w mg base G aS 40 "first_broken" 8 ["tables"] Et:=fD W 40 rfl ["checks","rule","check","place"] λc a=>aC (cP 1 a (h9 (ak (h9 (ak (aI 0 (W.k 5) (ae 0)) (ak (qj (W.n 44)) aw))) (ak (h9 (ak (aI 3 (W.k 5) (ae 0)) (ak (qj (W.n 45)) aw))) (ak (h9 (ak (aI 1 (W.k 5) (ae 0)) (ak (qj (W.n 46)) aw))) (ak (h9 (ak (aI 1 (W.k 5) (ae 0)) (ak (qj (W.n 47)) aw))) (ak (h9 (ak (aI 2 (W.k 5) (ae 0)) (ak (qj (W.n 52)) aw))) (ak (h9 (ak (aI 4 (W.k 5) (ae 0)) (ak (qj (W.n 53)) aw))) (ak (h9 (ak (aI 5 (W.k 5) (ae 0)) (ak (qj (W.n 54)) aw))) aw))))))))) (aC (iL jT (Zi (W.b 7) (ae 1)) (DI (qk (gB 2 a) (qk (gB 3 a) DH))) (aC (cP 4 a (bb (b41 W) c aX (ak (ae 0) (ak (bX (ae 3) aR) (ak (bX (ae 3) aR) aw))))) (aE (bQ (DD (ae 4)) (aE (bi (gb (ak (ae 2) (ak (ae 4) aw))))) bW)))) (aE (bi (gb (ak aR (ak aR aw))))))
def Qg:gN P w mg base G aS 10 98 "Step" 1 ["self","length","weights"] 2 tY:=fI W 98 rfl [] λa b C=>aC (cQ 0 0 (C.k 10) (ae 1)) (aE (cQ 0 1 (C.k 10) (ae 2)))
def b56:bh P w mg base G aS 56 "unkeyed_weights" 3 ["code"] wq:=fD W 56 rfl ["block","rest"] λa b=>aC (cP 1 b (ga (bP (W.c 35)) (vB (ae 0) (bP (W.c 36))))) (aC (cP 2 b (ga (tj (ae 0) (bP (W.c 36))) (bP (W.c 36)))) (aE (bi (gb (ak (kL (F3 W) a (ak (gb (ak (ae 1) (ak (bP (W.c 37)) (ak (bP (W.c 38)) aw)))) aw)) (ak (kL (F3 W) a (ak (gb (ak (ae 2) (ak aR (ak aR aw)))) aw)) aw))))))
def Qh:bh P w mg base G aS 55 "step_from" 4 ["tables","codes","at","stop"] qE:=fD W 55 rfl ["length","begun"] λa d=>aC (iL jT (LS (W.b 3) (ak (YJ (W.b 8) (bP (W.c 33)) (lu (ae 3) (ae 2))) (ak aR (ak (D8 aR) aw)))) (gB 4 d) (aC (cP 5 d (LU (W.b 11) (cg (mu (cg (ae 1)) (iY (ae 2)) (iY (ga (ae 2) (ae 4))))))) (aE (bQ (YM (fB a) (ae 5) (aI 10 (W.k 5) (ae 0))) (aE (bi (kL (Qg W) a (ak (ae 4) (ak (YO (fB a) (aI 10 (W.k 5) (ae 0)) (ae 5)) aw))))) bW)))) (aE (bi (kL (Qg W) a (ak aR (ak (bb (b56 W) a aX (ak (bX (ae 1) (ae 2)) aw)) aw)))))
def Qi:gN P w mg base G aS 11 99 "Trail" 6 ["self","tables","text"] 2 tZ:=fI W 99 rfl ["at"] λc a C=>aC (cQ 0 0 (C.k 11) (ae 1)) (aC (cQ 0 1 (C.k 11) (bb ((rj W).at _) c aX (ak (ae 1) (ak aR (ak (ae 2) aw))))) (aE (cQ 0 2 (C.k 11) (fE [("at",3)] a (zj (C.b 3) (ak (gr (C.b 0) (ib 0 1 (C.k 11))) aw)) (bk a) (e9 3 a) fR (λ_ _ _ _ _=>(bb ((Qh W).at _) c aX (ak (ae 1) (ak (ib 0 1 (C.k 11)) (ak (ae 3) (ak (gr (C.b 0) (ib 0 1 (C.k 11))) aw))))))))))
def Qj:bh P w mg base G aS 58 "key_of_weights" 1 ["level","back","weights"] qF:=fD W 58 rfl ["key","seconds","weight"] λd a=>aC (Y2 3 [("weight",5)] a (dZ (ae 2)) (bk a) (e9 5 a) (λ_ _ _ _ _=>(zn (lw (aI 0 (W.k 4) (ae 5)) aR))) (λ_ _ _ _ _=>(aI 0 (W.k 4) (ae 5)))) (aC (bQ (Wx (ae 0) aR) (aC (KW 4 [("weight",5)] a (dZ (ae 2)) (bk a) (e9 5 a) (λ_ _ _ _ _=>(zn (lw (aI 1 (W.k 4) (ae 5)) aR))) (λ_ _ _ _ _=>(aI 1 (W.k 4) (ae 5)))) (aC (oV 3 (bP (W.c 34))) (aE (vN 3 (cg (zg (jD (ae 1) aR) (Zg (W.b 4) (W.b 10) (cg (ae 4))) (ae 4))))))) bW) (aC (bQ (jD (ae 0) aR) (aC (oV 3 (bP (W.c 34))) (aE (vN 3 (cg (fE [("weight",5)] a (dZ (ae 2)) (bk a) (e9 5 a) (λ_ _ _ _ _=>(zn (lw (aI 2 (W.k 4) (ae 5)) aR))) (λ_ _ _ _ _=>(aI 2 (W.k 4) (ae 5)))))))) bW) (aE (lz 3))))
def abc:tE P w mg base G aS 11 100 "step_within" 5 ["self","at","stop"] t0:=fM W 100 rfl ["step"] λa b=>aC (cP 3 b (bX (aI 2 (W.k 11) (ae 0)) (ae 1))) (aC (bQ (DC (ga (ae 1) (aI 0 (W.k 10) (ae 3))) (ae 2)) (aE (bi (ae 3))) bW) (aE (bi (bb (Qh W) a aX (ak (aI 0 (W.k 11) (ae 0)) (ak (aI 1 (W.k 11) (ae 0)) (ak (ae 1) (ak (ae 2) aw))))))))
def Qk:tE P w mg base G aS 11 101 "weights_between" 6 ["self","start","stop"] o8:=fM W 101 rfl ["weights","at","step"] λb a=>aC (nu 3 a aw) (aC (cP 4 a (ae 1)) (aC (LQ (fuel:=λc=>2000) jT (ze (ae 4) (ae 2)) (aC (cP 5 a (i7 (abc W) b aX (ae 0) (ak (ae 4) (ak (ae 2) aw)))) (aC (vN 3 (cg (aI 1 (W.k 10) (ae 5)))) (aE (KU 4 a (aI 0 (W.k 10) (ae 5))))))) (aE (lz 3))))
def xo:bh P w mg base G aS 57 "key_of" 8 ["tables","level","back","text"] jF:=fD W 57 rfl ["trail"] λa c=>aC (cP 4 c (kL (Qi W) a (ak (ae 0) (ak (ae 3) aw)))) (aE (bi (bb (Qj W) a aX (ak (ae 1) (ak (ae 2) (ak (i7 (Qk W) a aX (ae 4) (ak aR (ak (gr (W.b 0) (aI 1 (W.k 11) (ae 4))) aw))) aw))))))
def b59:bh P w mg base G aS 59 "weighs_nothing" 1 ["key"] zS:=fD W 59 rfl ["number"] λd a=>aE (bi (tD (W.b 2) (cg (fE [("number",1)] a (dZ (ae 0)) (bk a) (e9 1 a) fR (λ_ _ _ _ _=>(oT (ae 1) (bP (W.c 34))))))))
def b62:bh P w mg base G aS 62 "starts_in_trail" 3 ["tables","x"] wr:=fD W 62 rfl ["starts","code"] λc a=>aC (nu 2 a (ak aR aw)) (aC (iL jT (dZ (ae 1)) (gB 3 a) (aE (oV 2 (ga (KO (sZ 2) (D8 aR)) (gr (W.b 0) (bb (F7 W) c aX (ak (ae 0) (ak (ae 3) (ak d7 aw))))))))) (aE (lz 2)))
def b61:bh P w mg base G aS 61 "is_joint" 4 ["tables","x","place"] t3:=fD W 61 rfl [] λa c=>aC (bQ (gz (ly (jD (ae 2) aR) (mr (jD (ae 2) (gr (W.b 0) (ae 1)))))) (aE (bi d7)) bW) (aE (bi (oT (i7 (ka W) a aX (ae 0) (ak (bb (F9 W) a aX (ak (ae 0) (ak (bX (ae 1) (ae 2)) (ak d7 aw)))) aw)) aR)))
def b60:bh P w mg base G (bH P w) 60 "find_stretch" 9 ["tables","level","x","y"] zT:=fX W 60 rfl ["wanted","trail","starts","joints","number","first","last","weights","place"] λc a d=>aC (cP 4 a (bb (xo W) c aX (ak (ae 0) (ak (ae 1) (ak aR (ak (ae 3) aw)))))) (aC (bQ (dO (bb (b59 W) c aX (ak (ae 4) aw))) (aE (kO W.toTxt 4 d)) bW) (aC (cP 5 a (kL (Qi W) c (ak (ae 0) (ak (ae 2) aw)))) (aC (cP 6 a (bb (b62 W) c aX (ak (ae 0) (ak (ae 2) aw)))) (aC (KW 7 [("place",12)] a (zj (W.b 3) (ak (ga (gr (W.b 0) (ae 2)) aR) aw)) (bk a) (e9 12 a) (λ_ _ _ _ _=>(zn (dO (bb (b61 W) c aX (ak (ae 0) (ak (ae 2) (ak (ae 12) aw))))))) (λ_ _ _ _ _=>(ae 12))) (aC (iL d.own (Y4 (W.b 7) (ae 7)) (DI (qk (gB 8 a) (qk (gB 9 a) DH))) (aE (iL d.own (dZ (mu (cg (ae 7)) (iY (ga (ae 8) aR)) vE)) (gB 10 a) (aC (cP 11 a (i7 (Qk W) c aX (ae 5) (ak (bX (ae 6) (ae 9)) (ak (bX (ae 6) (ae 10)) aw)))) (aE (bQ (zo c.units (cg (bb (Qj W) c aX (ak (ae 1) (ak aR (ak (ae 11) aw))))) (cg (ae 4))) (aE (bi (gb (ak aR (ak (ae 9) (ak (lu (ae 10) (ae 9)) aw)))))) bW)))))) (aE (bi (gb (ak aR aw)))))))))
def b63:bh P w mg base G aS 63 "compare" 9 ["tables","level","back","x","y"] zU:=fD W 63 rfl ["key_of_x","key_of_y"] λa b=>aC (cP 5 b (bb (xo W) a aX (ak (ae 0) (ak (ae 1) (ak (ae 2) (ak (ae 3) aw)))))) (aC (cP 6 b (bb (xo W) a aX (ak (ae 0) (ak (ae 1) (ak (ae 2) (ak (ae 4) aw)))))) (aC (bQ (YV a.CG (cg (ae 5)) (cg (ae 6))) (aE (bi (bP (W.c 39)))) bW) (aE (bi (zg (zo a.units (cg (ae 5)) (cg (ae 6))) (bP (W.c 40)) (bP (W.c 41)))))))
def b65:bh P w mg base G aS 65 "cut_text" 1 ["lengths","x"] Eu:=fD W 65 rfl ["texts","at","length"] λb a=>aC (nu 2 a aw) (aC (cP 3 a aR) (aC (iL jT (dZ (ae 0)) (gB 4 a) (aC (oV 2 (mu (cg (ae 1)) (iY (ae 3)) (iY (ga (ae 3) (ae 4))))) (aE (KU 3 a (ae 4))))) (aE (lz 2))))
def b73:bh P w mg base G (bH P w) 73 "answer_form" 6 ["desk","form","x"] zV:=fX W 73 rfl [] λa c b=>aC (gO (bb (AN W) a (fF b.pass) (ak (ae 1) aw))) (aC (gO (bb (ri W) a (fF b.pass) (ak (gb (ak (ae 2) aw)) aw))) (aE (bi (bb (rj W) a aX (ak (aI 0 (W.k 9) (ae 0)) (ak (ae 1) (ak (ae 2) aw)))))))
def b74:bh P w mg base G (bH P w) 74 "answer_is" 6 ["desk","form","x"] zW:=fX W 74 rfl [] λa c b=>aC (gO (bb (AN W) a (fF b.pass) (ak (ae 1) aw))) (aC (gO (bb (ri W) a (fF b.pass) (ak (gb (ak (ae 2) aw)) aw))) (aE (bi (gb (ak (zg (zo a.units (cg (bb (rj W) a aX (ak (aI 0 (W.k 9) (ae 0)) (ak (ae 1) (ak (ae 2) aw))))) (cg (ae 2))) aR aR) aw)))))
def b75:bh P w mg base G (bH P w) 75 "answer_same" 6 ["desk","form","x","y"] wu:=fX W 75 rfl [] λa c b=>aC (gO (bb (b15 W) a (fF b.pass) (ak (ae 1) aw))) (aC (gO (bb (ri W) a (fF b.pass) (ak (gb (ak (ae 2) (ak (ae 3) aw))) aw))) (aE (bi (gb (ak (zg (zo a.units (cg (bb (rj W) a aX (ak (aI 0 (W.k 9) (ae 0)) (ak (ae 1) (ak (ae 2) aw))))) (cg (bb (rj W) a aX (ak (aI 0 (W.k 9) (ae 0)) (ak (ae 1) (ak (ae 3) aw)))))) aR aR) aw)))))
def b76:bh P w mg base G (bH P w) 76 "answer_join" 6 ["desk","form","x","y"] wx:=fX W 76 rfl [] λa c b=>aC (gO (bb (AN W) a (fF b.pass) (ak (ae 1) aw))) (aC (gO (bb (ri W) a (fF b.pass) (ak (gb (ak (ae 2) (ak (ae 3) aw))) aw))) (aE (bi (bb (rj W) a aX (ak (aI 0 (W.k 9) (ae 0)) (ak (ae 1) (ak (K0 (cg (ae 2)) (cg (ae 3))) aw)))))))
def b69:bh P w mg base G (bH P w) 69 "answer_of_forms" 7 ["desk","call"] Ev:=fX W 69 rfl ["form"] λa d b=>aC (cP 2 d (bX (aI 1 (W.k 7) (ae 1)) aR)) (aC (bQ (jD (aI 0 (W.k 7) (ae 1)) (bP (W.c 23))) (aE (bi (bb (b73 W) a (fF b.pass) (ak (ae 0) (ak (ae 2) (ak (bX (aI 2 (W.k 7) (ae 1)) aR) aw)))))) bW) (aC (bQ (jD (aI 0 (W.k 7) (ae 1)) (bP (W.c 24))) (aE (bi (bb (b74 W) a (fF b.pass) (ak (ae 0) (ak (ae 2) (ak (bX (aI 2 (W.k 7) (ae 1)) aR) aw)))))) bW) (aC (bQ (jD (aI 0 (W.k 7) (ae 1)) (bP (W.c 25))) (aE (bi (bb (b75 W) a (fF b.pass) (ak (ae 0) (ak (ae 2) (ak (bX (aI 2 (W.k 7) (ae 1)) aR) (ak (bX (aI 2 (W.k 7) (ae 1)) aR) aw))))))) bW) (aE (bi (bb (b76 W) a (fF b.pass) (ak (ae 0) (ak (ae 2) (ak (bX (aI 2 (W.k 7) (ae 1)) aR) (ak (bX (aI 2 (W.k 7) (ae 1)) aR) aw))))))))))
def b80:bh P w mg base G (bH P w) 80 "answer_key" 9 ["desk","level","back","x"] Ex:=fX W 80 rfl [] λa c b=>aC (gO (bb (AO W) a (fF b.pass) (ak (ae 1) aw))) (aC (gO (bb (F4 W) a (fF b.pass) (ak (ae 2) aw))) (aC (gO (bb (ri W) a (fF b.pass) (ak (gb (ak (ae 3) aw)) aw))) (aE (bi (bb (xo W) a aX (ak (aI 0 (W.k 9) (ae 0)) (ak (ae 1) (ak (ae 2) (ak (ae 3) aw)))))))))
def b81:bh P w mg base G (bH P w) 81 "answer_cmp" 10 ["desk","level","back","x","y"] Ey:=fX W 81 rfl [] λa c b=>aC (gO (bb (AO W) a (fF b.pass) (ak (ae 1) aw))) (aC (gO (bb (F4 W) a (fF b.pass) (ak (ae 2) aw))) (aC (gO (bb (ri W) a (fF b.pass) (ak (gb (ak (ae 3) (ak (ae 4) aw))) aw))) (aE (bi (gb (ak (bb (b63 W) a aX (ak (aI 0 (W.k 9) (ae 0)) (ak (ae 1) (ak (ae 2) (ak (ae 3) (ak (ae 4) aw)))))) aw))))))
def b83:bh P w mg base G (bH P w) 83 "answer_find" 10 ["desk","level","x","y"] Ez:=fX W 83 rfl [] λa c b=>aC (gO (bb (AO W) a (fF b.pass) (ak (ae 1) aw))) (aC (gO (bb (b22 W) a (fF b.pass) (ak (ae 2) (ak (ae 3) aw)))) (aC (gO (bb (F5 W) a (fF b.pass) (ak (gb (ak (ae 2) (ak (ae 3) aw))) aw))) (aE (bi (bb (b60 W) a (fF b.pass) (ak (aI 0 (W.k 9) (ae 0)) (ak (ae 1) (ak (ae 2) (ak (ae 3) aw)))))))))
def b92:gN P w mg base G aS 7 92 "Call" 1 ["self","number","arguments","rows"] 3 EA:=fI W 92 rfl [] λa b C=>aC (cQ 0 0 (C.k 7) (ae 1)) (aC (cQ 0 1 (C.k 7) (ae 2)) (aE (cQ 0 2 (C.k 7) (ae 3))))
def abd:gN P w mg base G aS 9 102 "Desk" 6 ["self"] 0 EB:=fI W 102 rfl [] λa b C=>aC (cQ 0 0 (C.k 9) (Zq ((b8 W).at _) a aX)) (aE (cQ 0 1 (C.k 9) vA))
end
end FO
namespace FO
open PySem PySem.Spec PyProof.Rows L2 DL
open PySem.W(WData Codec OpenSpec Well WellAll ReadsW ReadsAllW)
def Ql{c:Params}{h:aZ}:∀(l:List Int)(vs:List aj),WellAll c h vs (l.map BA)->Vals (l.map V.int) vs|[],vs,x=>by cases x;exact .nil|i::l,vs,x=>by cases x with|cons a b=>cases a;exact .cons ⟨_,rfl⟩ (Ql l _ b)
def Qm{R:acJ}{cl:ag->Option af}{h:aZ}:∀(l:List Int)(us:List aj),Vals (l.map V.int) us->∃c,ReadsAllW R cl h us (l.map BA) c|[],us,x=>by cases x;exact⟨_,.nil⟩|i::l,us,x=>by cases x with|cons a b=>obtain⟨t,e⟩:=a;obtain⟨c,z⟩:=Qm l _ b;subst e;exact⟨_,.cons (.int i t) z⟩
def ints_rep{G:Gx}{O:af->Prop}{H:Hp}(l:List Int):∀(vs:List V),aU G O H (l.map D.int) vs->vs=l.map V.int:=by induction l with|nil=>exactλvs x=>x|cons i l a=>intro vs x;obtain⟨v,r,e,b,y⟩:=x;rw[e,(b:v=.int i),a r y];rfl
abbrev H0(T D n:af)(oD oL:bu)(kvs:List (L2.Key×V))(l:List Int):Hp:=λb=>if b=T then some (.fj #[])else if b=D then some (.il oD (.dK kvs))else if b=n then some (.il oL (.lst (l.map V.int)))else none
def abe{T D n:af}:H0 T D n oD oL kvs l T=some (.fj #[]):=ax rfl
def abf{T D n:af}(h:D≠T):H0 T D n oD oL kvs l D=some (.il oD (.dK kvs)):=by delta H0;simp_all
def abg{T D n:af}(h:n≠T)(a:n≠D):H0 T D n oD oL kvs l n=some (.il oL (.lst (l.map V.int))):=by delta H0;simp_all
def abh{T D n b:af}(h:b≠T)(c:b≠D)(a:b≠n):H0 T D n oD oL kvs l b=none:=by delta H0;simp_all
def abi{T D n b:af}(h:H0 T D n oD oL kvs l b=some u):(b=T/\u=.fj #[])\/(b=D/\u=.il oD (.dK kvs))\/(b=n/\u=.il oL (.lst (l.map V.int))):=by delta H0 at h;lia
abbrev abj:bu:={cls:=.none,data:=.fields #[]}
def abk{P:bA}{w:bB}{G:Gx}{mg mb:ag->Option aj}{fa:af}{fd:eQ}{c:ar}{i:List aj}{l:List Int}{R:acJ}{cl:ag->Option af}{D:af}{oD:bu}{kvs:List (L2.Key×V)}(KX:G.K.In c.heap)(nK:∀b o,G.K.lookup b=some o->o.cls≠.type "list"/\b≠D/\b≠bJ G)(LK:c.heap.Ns iB mg)(hb:c.heap.Ns rH mb)(hbb:∀x:ag,x≠"__name__"->mb x=ut x)(Q:c.heap.NoLimit)(hg:c.gens=#[])(hD:c.heap.get? D=some oD)(dc:oD.cls=.type "dict")(nmD:iB≠D)(nbD:rH≠D)(ncD:cStatics≠D)(okD:∀H,da P w H c.heap D (.dK kvs))(O:c.heap.get? (bJ G)=some abj)(isT:isCodeTable c.heap (bJ G))(w9:WellAll w.params c.heap i [.list (l.map BA)])(S:l.length<=17000)(T:Ha l=true)(hr:bO 14 AS)(F:∀base:aZ,Mod G.K mg base->(∀b o,c.heap.get? b=some o->o.cls≠.none->o.cls≠.type "list"->b≠D->base.get? b=some o)->bS P w G.K mg base aS 14 fa fd ["calls"] (AJ G D kvs))(C:∀(s:ar)(us:List aj),us.length=1->BindsTo s fd ⟨us,[]⟩ ((["calls"]:List ag).zip us)):nX (aF P w) AS (.call (.ref fa) ⟨i,[]⟩) (λr j=>∃u as,r=.ok (.ret u)/\ReadsW R cl j.heap u (.list ((r8 l).map BA)) as/\OldK c.heap j.heap/\j.os=c.os/\rJ j.gens) c:=by
 obtain⟨n,us,rfl,t,FS⟩:∃(n:af) (us:List aj),i=[.ref n]/\c.heap.get? n=some {cls:=.type "list",data:=.seq us.toArray}/\WellAll w.params c.heap us (l.map BA):=by cases w9 with|cons a b=>cases b;cases a with|list x y=>exact⟨_,_,rfl,x,y⟩
 haveI hv:=Ql l us FS;have FQ:D≠bJ G:=λz=>by rw[z,O]at hD;cases hD;cases dc
 have FP:n≠bJ G:=λz=>by rw[z,O]at t;nomatch t
 have hnD:n≠D:=λz=>by rw[z,hD]at t;cases t;exact bw (Value.type.inj dc) (by decide)
 have E:H0 (bJ G) D n oD {cls:=.type "list",data:=.seq us.toArray} kvs l (bJ G)=some (.fj #[]):=abe;have U:=abf (n:=n) (oD:=oD) (oL:={cls:=.type "list",data:=.seq us.toArray}) (kvs:=kvs) (l:=l) FQ;have X:=abg (oD:=oD) (oL:={cls:=.type "list",data:=.seq us.toArray}) (kvs:=kvs) (l:=l) FP hnD;have I:∀b,b≠bJ G->b≠D->b≠n->H0 (bJ G) D n oD {cls:=.type "list",data:=.seq us.toArray} kvs l b=none:=λb=>abh;have J:∀b u,H0 (bJ G) D n oD {cls:=.type "list",data:=.seq us.toArray} kvs l b=some u->_:=λb u=>abi;generalize H0 (bJ G) D n oD {cls:=.type "list",data:=.seq us.toArray} kvs l=H at E U X I J;have Y:dM P w H c.heap:=λb u q=>by
  rcases J b u q with⟨rfl,rfl⟩|⟨rfl,rfl⟩|⟨rfl,rfl⟩;·exact O
  ·exact⟨hD,okD H⟩
  ·exact⟨t,by rw[bZ];exact gI S (by rw[gG];lia),us,_,hv,t⟩
 have f:∀{b:af} {o:bu},c.heap.get? b=some o->H b=none->(mW c.heap H).get? b=some o:=λe n=>SS e n;have free:∀{b:af} {o:bu},c.heap.get? b=some o->b≠bJ G->b≠D->o.cls≠.type "list"->H b=none:=λ{b o} e L M Z=>I b L M λz=>by rw[z,t]at e;cases e;exact Z rfl
 haveI hKb:G.K.In (mW c.heap H):=λb o e=>by obtain⟨L,M,Z⟩:=nK b o e;exact f (KX b o e) (free (KX b o e) Z M L)
 have N:∀{b:af} {m:ag->Option aj},b≠D->c.heap.Ns b m->(mW c.heap H).Ns b m:=λ{b m} AE ⟨o,es,ep,e,d,r⟩=>⟨o,es,ep,f e (I b (λz=>by rw[z,O]at e;cases e;cases d) AE λz=>by rw[z,t]at e;cases e;cases d),d,r⟩;have hM:Mod G.K mg (mW c.heap H):=⟨hKb,N nmD LK,⟨mb,N nbD hb,hbb⟩,let⟨mc,L,M⟩:=Q;⟨mc,N ncD L,M⟩⟩;haveI e0:lh P w G.K mg (mW c.heap H) AS [] c H:=⟨rfl,hM,λb o e=>SU e,lU (SR _ _),trivial,λb hb=>bw (show b∈([]:List af) from hb) (by simp),Y,.of_eq hg⟩;have Fb:=F _ hM λb o e L M Z=>f e (free e (λz=>by rw[z,O]at e;cases e;exact L rfl) Z M);refine uz (Fb.run AS [] c H ⟨[.ref n],[]⟩ [.ref n] [.ref n] (λv H'=>(∀b o,H b=some o->b≠bJ G->H' b=some o)/\Rep G (λ_=>False) H' (aO (r8 l)) v) (λ_ _ _=>False) hr e0 (C c [.ref n] rfl) (.cons rfl .nil) ⟨n,l,#[],rfl,.inr ⟨_,X⟩,S,T,.inr ⟨_,U⟩,E,trivial,rfl,λv H' k q=>⟨k,q⟩⟩) λr j x=>?_;cases r with
 |error e=>exact mO x
 |ok fl=>
  cases fl with
  |next=>exact mO x|brk=>exact mO x|cont=>exact mO x
  |ret u=>
   obtain⟨v,H',os,bare,un,p,r',kp,q⟩:=x;have A:∀b o,c.heap.get? b=some o->b≠bJ G->j.heap.get? b=some o:=λb o e g=>by
    cases q2:H b with
    |none=>exact un.keep b o e q2 (by intro z;exact bw (show b∈([]:List af) from z) (by simp)) (by simp)
    |some u2=>
     have fz:∀ob u3,H b=some (.il ob u3)->j.heap.get? b=some o:=λob u3 z=>by have z2:=un.ju b ob _ z;obtain⟨e1,_⟩:=Y b _ z;obtain⟨e2,_⟩:=p b _ z2;rw[e]at e1;cases e1;exact e2
     rcases J b u2 q2 with⟨z,_⟩|⟨rfl,rfl⟩|⟨rfl,rfl⟩;·exact bw z g
     ·exact fz _ _ q2
     ·exact fz _ _ q2
   obtain⟨B,ht⟩:=un.jv _ _ E;have Qn:j.heap.get? (bJ G)=some {cls:=.none,data:=.fields (#[]++B)}:=p _ _ ht;have old:OldK c.heap j.heap:=by
    refine⟨λb o e=>?_,λb o e=>?_⟩
    ·by_cases g:b=bJ G;·subst g;rw[O]at e;cases e;exact .inr (.inl ⟨isT,rfl,#[],B,rfl,Qn⟩)
     ·exact .inl (A b o e g)
    ·by_cases g:b=bJ G;·exact⟨_,g▸Qn⟩
     ·exact⟨o,A b o e g⟩
   obtain⟨a,xs,rfl,Qo,_,hl⟩:=q;have hx:=ints_rep _ _ hl;subst hx;subst r';obtain⟨_,its,k,hvi,hoi⟩:=(show da P w H' j.heap a (.lst _) from Dd p Qo);obtain⟨as,hra⟩:=Qm (R:=R) (cl:=cl) (h:=j.heap) _ _ hvi;exact⟨_,_,rfl,ReadsW.list hoi rfl rfl hra,old,os,bare⟩
end FO
namespace FO
open PySem PySem.Spec PyProof.Rows L2 DL
open PySem.W(Frag nsIn)
abbrev nmF(c:Nat):List ag:=oh.getD c []
abbrev jd(K:Frag):Gx:=⟨l5 K,uI,kr,nmF,sd,λ_=>False⟩
def abl{us:List aj}{l:List Int}(h:ye us l=true):Vals (l.map V.int) us:=by
 induction us generalizing l with
 |nil=>cases l with|nil=>exact .nil|cons=>exact bw h bE
 |cons u r a=>cases u with
  |int i t=>cases l with|nil=>exact bw h bE|cons j s=>obtain⟨b,c⟩:=(d0 _ _).mp (h:(i==j&&ye r s)=true);exact .cons ⟨t,by rw[eE.1 b]⟩ (a c)
  |_=>exact bw h bE
def tup_is{K:Frag}{a:af}{l:List Int}(h:yf K a l=true)(z:l.length<=1000)(H:Hp):cS K H a (l.map V.int):=by
 delta yf at h;split at h
 ·rename_i o e;rw[d0,eE]at h;obtain⟨c,b⟩:=h;split at b;·rename_i its n d;have v:=abl b;refine .inr ⟨o,its,n,e,c,d,?_,v⟩;have y:(l.map V.int).length=its.toList.length:=v.length;rw[bZ,acu]at y;rw[gG];exact gI (lU y.symm) (gI z (by decide))
  ·cases b
 ·cases h
def abm{K:Frag}{x:ag}{i:Int}{h:aZ}{mg:ag->Option aj}(X:K.In h)(g:h.Ns iB mg)(c:BH K x i=true):∃t,mg x=some (.int i t):=by
 delta BH at c;split at c;·rename_i j t e;rw[eE]at c;subst c;exact⟨t,BB X g e⟩
 ·cases c
def za{a:Type}{l:List a}{p:a×Nat->Bool}(h:l.zipIdx.all p=true){i:Nat}{e:a}(q:l[i]?=some e):p (e,i)=true:=ji.mp h _ (fY (i:=i) (by rw[acK,q];simp))
def zm{a b:Type}{l:List a}{p r:a×Nat->b}(h:l.zipIdx.map p=l.zipIdx.map r){i:Nat}{e:a}(q:l[i]?=some e):p (e,i)=r (e,i):=List.map_inj_left.mp h _ (fY (i:=i) (by rw[acK,q];simp))
def abn:∀t t' b a,FV t=some b->FV t'=some a->kr t=kr t'->a=b:=by
 have c:∀t b,FV t=some b->t∈[44,45,46,47,52,53,54]:=λt b h=>by
  delta FV at h;repeat(split at h;(rename_i e;rw[e];decide))
  nomatch h
 intro t t' b a h d e;have f:∀t∈[44,45,46,47,52,53,54],∀t'∈[44,45,46,47,52,53,54],kr t=kr t'->t=t':=by decide
 have z:=f t (c _ _ h) t' (c _ _ d) e;rw[z,d]at h;exact(eR h)
def abo{K:Frag}{mg:ag->Option aj}{base:aZ}(F:Facts (l5 K))(X:(l5 K).In base){p:bA}{a:List ag}{m:ag->Option aj}(b:R3 p a mg m base):Wd mg base (jd K)where
 b':=λx h=>PySem.W.ns_none_of X b.g (eE.mp (ji.mp F.bn x h));c':=λe h=>abm X b.g (ji.mp F.co e h);t':=λe h=>by haveI z:=ji.mp F.tu e h;simp only[d0,eE,jK]at z;exact⟨_,BB X b.g z.1,tup_is z.2.1 z.2.2⟩
 k':=λc ns h=>by
  haveI d:∀ns∈oh,ns.Nodup/\ns.length<1000:=by decide
  haveI n:c<12:=(gg.mp h).1;haveI z:=za F.cn (cI (l:=oa) (i:=c) n);rw[d0]at z;haveI j:=d ns (fY h);exact⟨by show oh.getD c []=ns;rw[jf,h];rfl,j.1,j.2,(zX z.2).1,λf hf=>eE.mp (ji.mp (za F.na h) f hf)⟩
 x':=λc x h=>by haveI z:=za F.xc h;rw[d0,eE]at z;exact⟨_,rfl,PySem.W.own_of_in X b z.1 z.2⟩
 lk:=λt e h=>⟨zm F.lk h,za F.ck h⟩;ns:=λt e h=>BB X b.g (eE.mp (za F.ns h));cn:=λc x h=>by haveI z:=za F.cn h;rw[d0,eE]at z;exact⟨BB X b.g z.1,z.2⟩
 mt:=λi e h=>za F.mt h;bm:=by haveI z:=F.bm;simp only[d0,eE]at z;exact z
 fi:=abn
section
variable{P:bA}{w:bB}{mg:ag->Option aj}{base:aZ}{G:Gx}{D:af}{kvs:List (L2.Key×V)}{x q:ag}{st:dm}{ps:List ag}{k:Nat}{CX:hU}{sp:Sp}
def je(P:bA)(w:bB)(W:Wd mg base G)(t:Nat){i:Nat}(h:fT[t]?=some (x,x,st))(c:∀a,cU G.K x x st (G.fm t) a->bS P w G.K mg base CX k (G.fm t) a ps sp)(d:iN x x st ps:=by first|exact v0 rfl λ_ _ _ _ _ _=>by kernel_rfl|exact v1 rfl λ_=>λ_ _ _ _ _ _=>by kernel_rfl|exact v2 rfl λ_ _=>λ_ _ _ _ _ _=>by kernel_rfl|exact v3 rfl λ_ _ _=>λ_ _ _ _ _ _=>by kernel_rfl|exact v4 rfl λ_ _ _ _=>λ_ _ _ _ _ _=>by kernel_rfl|exact v5 rfl λ_ _ _ _ _=>λ_ _ _ _ _ _=>by kernel_rfl|exact v6 rfl λ_ _ _ _ _ _=>λ_ _ _ _ _ _=>by kernel_rfl|exact v7 rfl λ_ _ _ _ _ _ _=>λ_ _ _ _ _ _=>by kernel_rfl) (e: ~~~(pN[t]?=some (x,i))):ft P w mg base G CX t x k ps sp:=let⟨⟨a,f,b⟩,g,_⟩:=W.f h d;⟨⟨a,c a f,b⟩,W.n t e,g⟩
def AQ(P:bA)(w:bB)(W:Wd mg base G)(t:Nat){c i j:Nat}{nx:ag}(h:fT[t]?=some (x,q,st))(e:∀a,cU G.K x q st (G.fm t) a->bS P w G.K mg base CX k (G.fm t) a ps sp)(d:iN x q st ps:=by first|exact v0 rfl λ_ _ _ _ _ _=>by kernel_rfl|exact v1 rfl λ_=>λ_ _ _ _ _ _=>by kernel_rfl|exact v2 rfl λ_ _=>λ_ _ _ _ _ _=>by kernel_rfl|exact v3 rfl λ_ _ _=>λ_ _ _ _ _ _=>by kernel_rfl|exact v4 rfl λ_ _ _ _=>λ_ _ _ _ _ _=>by kernel_rfl|exact v5 rfl λ_ _ _ _ _=>λ_ _ _ _ _ _=>by kernel_rfl|exact v6 rfl λ_ _ _ _ _ _=>λ_ _ _ _ _ _=>by kernel_rfl|exact v7 rfl λ_ _ _ _ _ _ _=>λ_ _ _ _ _ _=>by kernel_rfl) (g: ~~~(mU[t-84]?=some (c,x,q,i,j))) (l: ~~~(t-84+84=t)) (m: ~~~(oa[c]?=some nx)):pr P w mg base G CX c t x k ps sp:=let⟨⟨a,f,b⟩,_⟩:=W.f h d;⟨⟨a,e a f,b⟩,EC W h d g l,(zX (W.cn c _ m).2).1⟩
def Qp(P:bA)(w:bB)(W:Wd mg base G)(t:Nat){c i j:Nat}{nx:ag}(h:fT[t]?=some (("__init__":ag),q,st))(g:∀a,cU G.K "__init__" q st (G.fm t) a->bS P w G.K mg base CX k (G.fm t) a ps sp)(d:iN "__init__" q st ps:=by first|exact v0 rfl λ_ _ _ _ _ _=>by kernel_rfl|exact v1 rfl λ_=>λ_ _ _ _ _ _=>by kernel_rfl|exact v2 rfl λ_ _=>λ_ _ _ _ _ _=>by kernel_rfl|exact v3 rfl λ_ _ _=>λ_ _ _ _ _ _=>by kernel_rfl|exact v4 rfl λ_ _ _ _=>λ_ _ _ _ _ _=>by kernel_rfl|exact v5 rfl λ_ _ _ _ _=>λ_ _ _ _ _ _=>by kernel_rfl|exact v6 rfl λ_ _ _ _ _ _=>λ_ _ _ _ _ _=>by kernel_rfl|exact v7 rfl λ_ _ _ _ _ _ _=>λ_ _ _ _ _ _=>by kernel_rfl) (l: ~~~(mU[t-84]?=some (c,("__init__":ag),q,i,j))) (m: ~~~(t-84+84=t)) (e: ~~~(oa[c]?=some nx)):qV P w mg base G CX c t nx k ps sp:=let⟨⟨a,f,b⟩,_⟩:=W.f h d;⟨⟨a,g a f,b⟩,Nh W h d l m e,(W.cn c _ e).1⟩
def abp(W:Wd mg base G)(F:Aq mg G D kvs)(H:FN G)(d:Ph mg base (bJ G))(b:∀a,cU G.K "numbers_by_key" "numbers_by_key" (top 138) (G.fm 64) a->∃c,a.code=.ref c/\G8 base c (bJ G)):∀a,cU G.K "answers" "answers" (top 142) (G.fm 66) a->bS P w G.K mg base aS 14 (G.fm 66) a ["calls"] (AJ G D kvs):=by haveI i:=Qp P w W 93 rfl λa f=>G_ W.toTxt f;haveI j:=AQ P w W 94 rfl λa f=>G? W.toTxt f;haveI e:=AQ P w W 95 rfl λa f=>G! W.toTxt f;haveI l:=AQ P w W 96 rfl λa f=>H? W.toTxt f e;haveI m:=AQ P w W 97 rfl λa f=>K! W.toTxt F f e l (Fx (b92 W));haveI n:=je P w W 72 rfl λa f=>X_ W.toTxt f (b23 W) (P9 W) (b40 W);haveI o:=Qp P w W 91 rfl λa f=>N_ W.toTxt f;haveI p:=je P w W 77 rfl λa f=>S! W.toTxt f (AN W) o;haveI g:=je P w W 34 rfl λa f=>N? W.toTxt f;haveI h:=je P w W 38 rfl λa f=>P_ W.toTxt f (rj W);haveI r:=je P w W 37 rfl λa f=>O_ W.toTxt f (b39 W);haveI s:=je P w W 35 rfl λa f=>Q? W.toTxt f h r;haveI t:=je P w W 78 rfl λa f=>U' W.toTxt f (Qa W) (F5 W) g s;haveI u:=je P w W 36 rfl λa f=>P! W.toTxt f h;haveI v:=je P w W 79 rfl λa f=>W_ W.toTxt f g u;haveI y:=je P w W 70 rfl λa f=>aap W.toTxt f p t v;haveI z:=je P w W 64 rfl λa f=>Z! W.toTxt f (b a f) d (xo W);haveI A:=je P w W 82 rfl λa f=>aaj W.toTxt f (AO W) (F4 W) (b21 W) (ri W) (b65 W) z;haveI B:=je P w W 71 rfl λa f=>aaq W.toTxt f (Ax (b80 W) rfl (W.k 9) aal) (Ax (b81 W) rfl (W.k 9) aam) A (Ax (b83 W) rfl (W.k 9) aan);haveI C:=je P w W 68 rfl λa f=>aas W.toTxt f n (Ax (b69 W) rfl (W.k 9) aak) y B;haveI E:=je P w W 67 rfl λa f=>aaz W.toTxt H f C;exactλa f=>aaS W.toTxt f (abd W) i j m E
end
end FO
namespace FO
open PySem PySem.Spec PyProof.Rows L2 DL
open PySem.W(WData Codec OpenSpec Well WellAll ReadsW ReadsAllW)
abbrev ul:List (L2.Key×V):=se.map λe=>(dW e.1,V.ref e.2.1)
abbrev shV:List (L2.Key×aj):=se.map λe=>(dW e.1,d9 e.2.1)
def abq(h:BI e s=true):(hG P w).is (dW s.1) e.key=true/\e.hash=(hG P w).hash (dW s.1)/\e.val=.ref s.2.1:=by
 delta BI at h;split at h;·rename_i i t a b c;simp only[d0,eE]at h;obtain⟨d,f,g⟩:=h;rw[b,c,g,d,f];exact⟨HI _ t,rfl,rfl⟩
 ·cases h
def Qq{P:bA}{w:bB}:∀{a:List DictEntry}{ss:List (Int×Nat×Nat×Nat)},yg a ss=true->(∀e∈a,∃k,(hG P w).is k e.key=true/\e.hash=(hG P w).hash k)/\Pairs (hG P w) a (ss.map λe=>(dW e.1,d9 e.2.1))|[],[],_=>⟨λe h=>bw h (by simp),.nil⟩|e::a,s::ss,h=>by simp only[yg,d0]at h;obtain⟨b,c,f⟩:=abq (P:=P) (w:=w) h.1;obtain⟨b1,b2⟩:=Qq (P:=P) (w:=w) h.2;exact⟨λd g=>(ff.mp g).elim (λz=>by rw[z];exact⟨_,b,c⟩) (b1 d),.cons b f b2⟩|[],_::_,h=>nomatch h|_::_,[],h=>nomatch h
def Qr:∀ss:List (Int×Nat×Nat×Nat),KV (κ:=L2.Key) (ss.map λe=>(dW e.1,V.ref e.2.1)) (ss.map λe=>(dW e.1,d9 e.2.1))|[]=>.nil|s::ss=>.cons ⟨rfl,rfl⟩ (Qr ss)
def abr(c:uJ o=true)(e:h.get? 526=some o)(H:Hp):da P w H h 526 (.dK ul):=by
 delta uJ at c;simp only[d0,eE]at c;obtain⟨b,f,g,a⟩:=c;split at a;·rename_i i j d;obtain⟨b1,b2⟩:=Qq a;exact⟨by decide,by decide,shV,Qr se,o,i,j,e,⟨b,f,Array.size_eq_zero_iff.mp g⟩,d,λx k=>b1 x (abS.mpr k),b2,by decide⟩
 ·cases a
def abt{K:br}{mg:ag->Option aj}{base:aZ}(F:Facts (l5 K))(X:(l5 K).In base)(g:base.Ns iB mg):Aq mg (jd K) 526 ul:=by
 refine⟨BB X g F.sn,λp n k h=>?_⟩;have a:∀(i:Nat) {s:Int×Nat×Nat×Nat},se[i]?=some s->iq ul (dW s.1)=some (.ref s.2.1)->∃b,iq ul (dW s.1)=some (.ref b)/\∀H,cS (l5 K) H b [.int s.2.2.1,.int s.2.2.2]:=λi s e v=>⟨_,v,tup_is (ji.mp F.sh _ (fY e)) (by simp)⟩;unfold js at h;split at h;·rename_i e;cases h;rw[e];exact a 0 rfl rfl
 split at h;·rename_i e;cases h;rw[e];exact a 1 rfl rfl
 split at h;·rename_i e;cases h;rw[e];exact a 2 rfl rfl
 split at h;·rename_i e;cases h;rw[e];exact a 3 rfl rfl
 split at h;·rename_i e;cases h;rw[e];exact a 4 rfl rfl
 split at h;·rename_i e;cases h;rw[e];exact a 5 rfl rfl
 split at h;·rename_i e;cases h;rw[e];exact a 6 rfl rfl
 split at h;·rename_i e;cases h;rw[e];exact a 7 rfl rfl
 split at h;·rename_i e;cases h;rw[e];exact a 8 rfl rfl
 split at h;·rename_i e;cases h;rw[e];exact a 9 rfl rfl
 split at h;·rename_i e;cases h;rw[e];exact a 10 rfl rfl
 split at h;·rename_i e;cases h;rw[e];exact a 11 rfl rfl
 ·cases h
def abu:∀i,i<7->∀j,j<7->sd i=sd j->i=j:=λi a j b e=>by revert i j;decide
def abv{K:br}(F:Facts (l5 K)):FN (jd K):=by have inj:=λi j a b=>abu i a j b;refine⟨λi j a b=>?_,inj⟩;have z:=eE.mp (ji.mp (ji.mp F.xm i (lQ.mpr a)) j (lQ.mpr b));refine z.trans (bz some (jq.mpr ⟨λe=>by rw[e],inj i j a b⟩))
def abw{K:br}(X:K.In h):(l5 K).In h:=by
 have key:∀(l:br) (b:af) (o:bu),(l.filter λp=>p.1!=526).lookup b=some o->b≠526->l.lookup b=some o:=λl=>by
  induction l with
  |nil=>simp
  |cons p l g=>
   intro b o e c;obtain⟨a,x⟩:=p;rw[rE]at e;by_cases f:a=526;·rw[mQ];haveI:(b==a)=false:=xL.mpr (by rw[f];exact c);rw[this];simp_all
   ·rw[ax (by simpa using f)]at e;rw[mQ]at e⊢
    cases q:(b==a)with|true=>rw[q]at e;exact e|false=>rw[q]at e;exact g b o e c
 have d:∀(l:br),(l.filter λp=>p.1!=526).lookup 526=none:=λl=>by grind
 intro b o e;by_cases c:b=526;·have z:=d K;delta l5 at e;simp_all
 ·exact X b o (key K b o e c)
def lookup_mem{K:br}(h:K.lookup b=some o):(b,o)∈K:=by induction K with|nil=>cases h|cons p l c=>obtain⟨a,x⟩:=p;rw[mQ]at h;cases q:(b==a)with|true=>rw[q]at h;cases h;rw[eq_of_beq q];exact pG ..|false=>rw[q]at h;exact jk _ (c h)
def aeG:WT:=by
 intro q c XP YP d K hn hr r hY A tx dx fx w er j mg mb Gr Y fa o pm cd B dV kV ho hd zD hD C hg args vals as E aeH Qo w9 hlo;obtain⟨a,e1,e2⟩:=PySem.W.os_pre_some E;obtain⟨e3,H⟩:=Codec.encAll_of_decAll _ args a e1;subst e3;have I:=hY w _ Y;have T:=Gr.T;obtain⟨oD,J,m⟩:∃oD,(K w.params).lookup 526=some oD/\uJ oD=true:=by have z:=dx w.params;cases e:(K w.params).lookup 526 with|none=>rw[e]at z;cases z|some x=>simp_all
 have F:=fx w.params;have hT:=tx w.params;generalize K w.params=i at I F hT J;obtain⟨dr,ni⟩:=abV.mp A;obtain⟨tc,tt⟩:=PySem.W.tab_of T I ni hT;have Z:(jd i).K.In j.heap:=abw I;have hW:∀{base:aZ} {p:bA} {c:List ag} {mb:ag->Option aj},(jd i).K.In base->R3 p c mg mb base->Wd mg base (jd i):=λX TR=>abo F X TR;haveI hS:∀{base:aZ},(jd i).K.In base->base.Ns iB mg->Aq mg (jd i) 526 ul:=λX g=>abt F X g;have hX:=abv F;have W0:=hW Z (PySem.W.topRead_of T);have k:∀v,cU (jd i).K "numbers_by_key" "numbers_by_key" (top 138) ((jd i).fm 64) v->v.code=.ref 814:=λv f=>by obtain⟨oc,od,kV,B,pm,an,gw,ct,Dh,e,lk,_⟩:=f.ex;exact PySem.W.law_code I T.g hT (W0.n 64) (Z _ _ lk) rfl
 have L:j.heap.get? 526=some oD:=I _ _ J;have hdc:oD.cls=.type "dict":=by unfold uJ at m;rw[d0,eE]at m;exact m.1
 have h:bJ (jd i)=812:=rfl;have N:fa=(jd i).fm 66:=by rw[hn]at C;have z:=(W0.n 66).symm.trans C;exact(Value.ref.inj (eR z)).symm
 have nK:∀b o,(jd i).K.lookup b=some o->o.cls≠.type "list"/\b≠526/\b≠bJ (jd i):=λb o e=>by have z:=ji.mp F.ls _ (lookup_mem e);simp only[d0,bne_iff_ne]at z;exact z
 obtain⟨⟨v,f,_⟩,_⟩:=W0.f (t:=66) (x:="answers") (q:="answers") (st:=top 142) (ps:=["calls"]) rfl (v1 rfl λ_ _ _ _ _ _ _=>rfl);generalize jd i=G at Z hW hS hX W0 k h N nK f;have hb:∀(s:ar) (us:List aj),us.length=1->BindsTo s v ⟨us,[]⟩ ((["calls"]:List ag).zip us):=λs us hu=>by obtain⟨oc,od,kV,B,pm,an,gw,ct,Dh,rfl,lk,_⟩:=f.ex;exact match us,hu with|[_],_=>.of_eq rfl
 have hl:a.1.length<=17000:=by have z:((Codec.inLen 0 17000 a.1&&a.1.all (Codec.inInt (-1000000000000000000) 1000000000000000000))&&true)=true:=H;rw[d0,d0]at z;exact(Codec.inNat_iff.mp z.1.1).2
 have O:Ha a.1=true:=e2;have FF:∀base:aZ,Mod G.K mg base->(∀b o,j.heap.get? b=some o->o.cls≠.none->o.cls≠.type "list"->b≠526->base.get? b=some o)->bS Gh.prog w G.K mg base aS 14 (G.fm 66) v ["calls"] (AJ G 526 ul):=λbase M kb=>by
  obtain⟨mb',b1,b2⟩:=M.blt;have TR:R3 q (PySem.W.looseW q c) mg mb' base:=⟨M.glob,b1,M.nolimit,b2,T.free⟩;refine abp (hW M.ol TR) (hS M.ol M.glob) hX ?_ (λfd2 f2=>⟨814,k fd2 f2,?_⟩) v f
  ·obtain⟨bm,ob,h1,h2,P,Q,h5,h6⟩:=T.bmain;refine⟨by rw[h];decide,bm,ob,h1,h2,λz=>?_,λz=>?_,kb bm ob P (by rw[Q];nofun) (by lia) λz=>?_,Q,h5,h6⟩;·obtain⟨og,es,ep,eg,dg,_⟩:=T.g;lia
   ·rw[z,h,tt]at P;cases P;cases Q
   lia
  ·obtain⟨o,vs,S,tf,y,tg,inF,U,tt2,g1,g2,g3⟩:=tc;rw[h];exact⟨o,vs,S,tf,y,tg,inF,U,tt2,kb _ _ g1 (by rw[g2];nofun) (by rw[g2];simp) (by decide),g2,g3⟩
 subst N;refine PySem.W.enter_call (uz (abk (R:=[]) (cl:=classAt er.heap) (G:=G) (D:=526) (l:=a.1) Z nK T.g T.b T.builtins T.nolimit hg L hdc (by decide) (by decide) (by decide) (abr m L) (by rw[h];exact tt) (by rw[h];exact(tc.tab tt).isCodeTable) w9 hl O hr FF hb) λr' s' hq=>?_);obtain⟨u,as',rfl,h1,h2,P,Q⟩:=hq;exact⟨.inl ⟨u,_,as',rfl,λ_=>rfl,h1,(OpenSpec.post_iff r H _ _).mpr rfl,λz=>Bz (show false=true from z)⟩,h2,P,Q⟩
end FO
theorem PySem.Challenge.cw_formorder_s01_answers_holds : PySem.Challenge.rw_formorder_s01_answers.Holds :=
 FO.hd FO.aeG
