import PyProof.Rows.All
import Wide.All
import OpenK.AllK
import Wide.FinOn
import PyProof.EqAt
import PyProof.EqKinds
import PyProof.TupleCall
import KE.BitLaws
import Open.SpecLaws
import KE.OsHead
import KE.OsGo
import KE.KDictList
import KE.KSortTupG
import PySem.Challenge.RW_fewestshifts_s01_answers
set_option Elab.async false
set_option linter.all false
set_option maxRecDepth 100000
set_option maxHeartbeats 4000000
set_option compiler.extract_closed false
section
open Lean
local macro_rules|`(#version)=>do
  let mut a:=#[]
  let c:="PySem.Challenge."
  let d:="w_fewestshifts_s01_answers"
  let z:="Z0.z0."
  let f:=fun s (l:List Nat)=>l.map (s!"{z}{s}_{·}")
  for n in [c++"p"++d,c++"r"++d,c++"nm_fewestshifts_s01_answers",z++"env_3",z++"view_1"]++f "o" (.range 749)++f "tree" [9,11,95,165,212,297,350,411,432,472,558,641,694,718,748]++f "heap" [1,8,749]++f "sts" [11,13,96,166,213,298,351,412,433,473,559,642,695,721] do
    let n:=mkIdent (.str `PySem.W.Fast s!"tw{n.toName.hash}")
    a:=a.push (←`(theorem $n :True:=trivial)).raw
  return mkNullNode a
#version
end
class ZC(p:outParam Prop):Prop where o:p
def ZU{p}(_:ZC p):=True
namespace Z0
def PySem.W.holds_os{p}[I:ZC p]:=fun{r q loose Xt XP α Yf Ya YP d kwd N}a b c d1 e f g h i j k l m n(o:ZU I→_)=>@_root_.PySem.W.holds_os r q loose Xt XP α Yf Ya YP d kwd N a b c d1 e f g h i j k l m n (o trivial)
set_option maxHeartbeats 0 in
def z0:{p//ZC p→PySem.Challenge.rw_fewestshifts_s01_answers.Holds}:=⟨_,fun I=>by
  w_on;k_headS
  case hw=>exact⟨[.list [.int 2]],by decide+kernel,by decide+kernel⟩
  exact fun _=>I.o⟩
end Z0
section
open Lean Parser.Tactic Parser.Term
local macro_rules|`(#version)=>do
 let mut r:=#[]
 let h:=mkIdent `h
 for (i,l) in [(0,[2,3,4,5,6,7,8]),(1,[1,2,3,4,5]),(2,[1,2,3,4,5,6,9]),(3,[1,2,3,4,5,6]),(4,[2,3,4,5,7,8]),(5,[2,6,7]),(6,[2]),(7,[1])] do for j in l do
  let f:=fun s n=>(Array.range n).map fun k=>mkIdent (.mkSimple s!"{s}{k}")
  let a:=f "a" i
  let t:=f "t" i
  let p:=f "p" j
  let y←t.foldrM (fun (x y:Term)=>`($x→$y)) (←`(Prop))
  let b←t.mapM fun t=>`(bracketedBinder|{$t:ident :Sort _})
  let q←p.mapM fun p=>`($p $a*)
  let k←a.foldrM (fun x y=>`(∀$x,$y)) (←q.foldrM (fun x y=>`($x→$y)) (←`(g)))
  let e←a.foldrM (fun x y=>`(∃$x:ident,$y)) (←q.pop.foldrM (fun x y=>`($x∧$y)) q.back!)
  let mut u:Term:=h
  let mut v:=#[]
  for _ in [1:j] do
   v:=v.push (←`(And.left $u))
   u←`(And.right $u)
  let w←a.foldrM (fun x y=>`(Exists.elim $h fun $x $h=>$y)) (←`(k $a* $v* $u))
  r:=r.push (←`(theorem $(mkIdent (.str (.mkSimple s!"Yy{i}") s!"EY{i+j}")) $b:bracketedBinder* {$p* :$y} {g:Prop} (k:$k) ($h :$e):g:=$w)).raw
 return mkNullNode r
#version
abbrev Ys:=Syntax
def Yyk(p:Ys)(n):=p.isOfKind n
def Yyd(p:Ys):Ys:=mkNode ``rcasesPatLo #[mkNode ``rcasesPatMed #[mkNullNode #[p]],mkNullNode]
def Yyc:Nat→Ys→Ys|0,p=>p|u+1,p=>if Yyk p ``anonymousCtor then mkNode ``rcasesPat.tuple #[p[0],mkNullNode (p[1].getArgs.map fun x=>if x.isAtom then x else Yyd (Yyc u x)),p[2]] else if Yyk p ``hole then mkNode ``rcasesPat.ignore p.getArgs else mkNode ``rcasesPat.one #[p]
def Yyu(p:Ys):=if Yyk p ``rcasesPatLo&&p[1].isNone&&p[0][0].getArgs.size==1 then p[0][0][0] else if Yyk p ``rcasesPatMed&&p[0].getArgs.size==1 then p[0][0] else p
def Yyr(p:Ys):=Yyk p ``rcasesPat.one&&p[0].getId==`rfl
def Yyn(s:String)(k:Nat):=mkIdent (.mkSimple s!"{s}{k}")
def Yyl(p:Ys):TSyntax ``rcasesPatLo:=⟨if Yyk p ``rcasesPatLo then p else if Yyk p ``rcasesPatMed then mkNode ``rcasesPatLo #[p,mkNullNode] else Yyd p⟩
abbrev Ym:=MacroM (TSyntax `tactic)
def Yye(s:Ys→Ym)(p:Ys):Ym:=do
 let z:=mkIdent `z_
 if Yyr p then `(tactic|(intro $z:ident;subst $z)) else
 if Yyk p ``rcasesPat.one then `(tactic|intro $(⟨p[0]⟩):ident) else
 if Yyk p ``rcasesPat.ignore then `(tactic|intro _) else
 `(tactic|first|$(←s p):tactic|(intro $z:ident;rcases $z:ident with $(Yyl p)))
def Yys:Nat→Ys→Ym|0,_=>`(tactic|fail)|u+1,p=>do
 let mut c:=#[←`(tactic|fail)]
 if Yyk p ``rcasesPat.tuple then
  let x:=p[1].getSepArgs.map Yyu
  let n:=x.size
  let m:=min n ((x.findIdx? Yyr).getD n+2)
  for i in [:m-1] do
   let t:=m-i
   let mut y:=#[]
   let mut d:=#[]
   for k in [:t-1] do
    let v:=x[k]!
    if Yyk v ``rcasesPat.ignore then y:=y.push (←`(_)) else
    if Yyk v ``rcasesPat.one&& !Yyr v then y:=y.push (⟨v[0]⟩:Term) else
    let z:=Yyn "z_" k
    y:=y.push ⟨z⟩
    d:=d.push (←if Yyr v then `(tactic|subst $z) else `(tactic|first|(refine (?_:_→_) $z;clear $z;$(←Yys u v))|rcases $z:ident with $(Yyl v)))
   d:=d.push (←Yye (Yys u) (if t==n then x[n-1]! else mkNode ``rcasesPat.tuple #[p[0],mkNullNode (mkSepArray ((x.extract (t-1) n).map Yyd) (mkAtom ",")),p[2]]))
   c:=c.push (←`(tactic|(refine $(Yyn "EY" t) fun $y*=>?_;$[$d];*)))
 `(tactic|first $[|$c:tactic]*)
def Yyf(p:Ys)(e:Term):Ym:=do
 if !Yyk p ``rcasesPat.tuple then Macro.throwUnsupported
 let c←if e.raw.isIdent then `(tactic|try clear $(⟨e.raw⟩):ident) else `(tactic|skip)
 `(tactic|(refine (?_:_→_) $e;$c;$(←Yys 9 p)))
def Yyg(q:Array Ys):Ym:=do
 let d←q.mapM fun p=>Yye (Yys 9) (Yyu (if Yyk p ``rintroPat.one then p[0] else p[1]))
 `(tactic|($[$d];*))
def Yyp:Nat→Ys→Term→MacroM Term|0,_,_=>Macro.throwUnsupported|u+1,p,b=>do
 let x:=p[1].getSepArgs
 let mut y:=#[]
 let mut r:=b
 for k in [:x.size] do
  let i:=x.size-1-k
  let v:=x[i]!
  if v.getId==`rfl then Macro.throwUnsupported
  if v.isIdent||Yyk v ``hole then y:=y.push (⟨v⟩:Term) else
  if !Yyk v ``anonymousCtor then Macro.throwUnsupported
  let z:=Yyn "z_" i
  y:=y.push ⟨z⟩
  r←`($(←Yyp u v r) $z)
 y:=y.reverse
 `($(Yyn "EY" x.size) fun $y*=>$r)
def Yyh(q:Array Ys)(b:Term):MacroM Term:=do
 if !q.any (Yyk · ``anonymousCtor) then Macro.throwUnsupported
 q.foldrM (fun v r=>if Yyk v ``anonymousCtor then Yyp 9 v r else do
  let w:Term:=⟨v⟩
  `(fun $w=>$r)) b
end
open Yy0 Yy1 Yy2 Yy3 Yy4 Yy5 Yy6 Yy7
open PySem renaming Addr->ab,Value->ae,wpAny_bind->ag,wpAny->ao,Shared->au,wpAny_pure->ax,model->aD,starEach->aH,Paired->aU,sizeLine->aV,Expr->aZ,World->bf,Heap->bA,Program->bD,sizeLine_eq->bM,Around->bY,backTo->dh,pyNext->dE,compareOp->et,cLine->ey,Stmt->eY,wpAny_newObj_type->fc,mainGlobals->ff,sysModules->fu,Builtin->fw,cellsFrom->fE,compEnvC->fU,holding->fW,Scope->gb,wpAny_holding->gm,plainId_quiet->gn,FuncData->gz,argBest->gC,mem_of_lookup->gP,codeAny_builtin->gW,Spec->ig,NameKind->ip,rawInt->iw,wpAny_call_entry->iD,tupleKind->iI,binaryOp->iM,codeAny->iP,wpAny_mono->ja,wpAny_tryCatch->jx,wpAny_fieldsOf->jW,attributeBase->jY,wpAny_truthy_bool->kL,wpAny_dictEntries->lI,assignEach->lW,standAt->ml,wpAny_callSpecial?_slot->mI,wpAny_dictEpoch->mT,wpAny_seqItems->mY,intKind->mZ,behindInMarks->m_,wpAny_of_eq->nj,wpAny_letGo->nk,keywordEach->nq,swapsWith->nu,DictEntry->nv,callWith->nF,backToKw->nG,argsOk->nW,PyData->nX,wpAny_Call_Name_kw->ow,wpAny_pyIter_list->oA,wpAny_setField->oG,wpAny_attempt->oM,bootBuiltins->oO,wpAny_field->oR,IsItemIter->oX,setField->pd,newExc->pH,IsPart->pK,bindL->pP,bindC->pQ,foldedSetIterable->qm,wpAny_updateSeq->qv,wpAny_passesOwn->qw,call_meets->qN,seqItems?->qU,Keyword->q_,BindsTo->ra,isTrue->rj,Walks->rp,wpAny_typeOf->sy,codeAny_mono->sA,richCompare->sE,wpAny_rule->sP,notedBy->tO,callerA->tQ,Result->tW,wpAny_notOrdered_dict->uC,wpAny_setField_rec->uG,tupleKind_room_in1->uH,wpAny_pyIter_slot->uN,wpAny_isInstance->uV,wpAny_askSetting->uW,firstArgMember->vt,updateSeq->xp,entryFor->xq,bindArgs->xr,hashInt->xy,wpAny_typeNameOfWhole_itemiter->xY,wpAny_typeNameOfWhole_valiter->ya,wpAny_typeNameOfWhole_keyiter->yb,wpAny_typeNameOf_itemiter->yi,wpAny_typeNameOf_valiter->yn,wpAny_typeNameOf_keyiter->yo,wpAny_isOneOf_itemiter->yu,wpAny_isOneOf_valiter->yA,evalArgs_none->yB,wpAny_setState_of->zp,wpAny_Call_method->zq,wpAny_execs_nil->Ai,pushCells_keeps->Aj,isSubtype_stop->AM,wpAny_handled->AS,wpAny_throw->BV,IsRangeIter->BW,wpAny_call->Cp,PlainAttrs->Cq,PassesOwn->Cr,raiseNew->CD,numAt_eq->CF,newTuple->CG,GenState->CH,wpAny_pyNext_list_item->Ft,wpAny_pyNext_list_end->FO,wpAny_setEntries_of->GK,noFill_tuple_add->Jy,wpAny_ite_split->KS,size_of_entries->KU,Within->KW,method_meetsIn->K_,isSubtype_type->La,wpAny_standAt->Mn,seq_tuple_add->Mo,nums_intItems->Mp,IsItemIterOut->Mv,concat_meets->Nl,call_meetsIn->Nm,seqIndex_of->Nn,wpAny_letOwnedTupleGo_items->RY,wpAny_pyNext_range_end->XD,wpAny_pyIter_rangeiter->XE,wpAny_isTrue_Compare1->XT,wpAny_isOneOf_keyiter->XU,builtinLookup_eq_fast->XW,wpAny_loadName_local->ZX,codeAny_call_builtin->ZY,mem_getD->ZZ,getD_mem->Z_,wpAny_loadName_cell->aad,pairTrees_cons_walk->aae,Builtin->aag
open List renaming length_map->aF,mem_map->a_,map_cons->bp,range->bR,map_map->bS,mem_cons->cp,mem_filter->cz,mem_of_getElem?->cD,getElem?_map->cP,getElem?_eq_getElem->cW,length_cons->cX,mem_append->dc,replicate->de,length_append->dA,getD_eq_getElem?_getD->dJ,mem_range->dR,getElem?_eq_some_iff->dZ,all_eq_true->eQ,nodup_cons->eR,append_nil->eS,take_length->fe,length_range->fm,filter_cons->fA,map_append->fB,mem_flatMap->fS,pairwise_cons->gu,length_take->gw,filter_map->gx,pairwise_map->gS,foldl_cons->gU,mem_cons_self->ie,mem_cons_of_mem->iA,any_eq_true->iC,map_congr_left->iV,mem_singleton->iW,length_filter_le->jq,flatMap_append->jr,mem_filterMap->js,filter_congr->jt,mem_zipIdx_iff_getElem?->jO,getLastD_eq_getLast?->jP,pairwise_lt_range->jQ,size_toArray->jR,flatMap_cons->jS,length_set->jU,sum_cons->jX,contains_iff_mem->kG,lookup_cons->kM,take_zero->kS,length->kY,drop_eq_getElem_cons->lB,flatMap_singleton->lE,map_eq_nil_iff->lF,filterMap_cons->lG,filter_append->lH,length_nil->lK,length_pos_iff->mK,foldl_append->mM,zipIdx_cons->mQ,map_nil->nc,map_id'->ng,mem_append_right->oo,ext_getElem?->ox,find?_cons->oD,any_cons->oH,idxOf_lt_length_of_mem->qc,length_singleton->qe,flatten_cons->qj,append_assoc->qk,map_flatMap->qo,exists_cons_of_ne_nil->rC,take_of_length_le->rE,range_succ_eq_map->rF,drop_eq_nil_of_le->rG,getElem?_eq_none->rJ,mem_iff_getElem->rK,replicate_succ->rM,find?_eq_none->rO,nodup_append->rP,nodup_range->rQ,getElem_mem->rR,all_cons->sd,length_zipIdx->uE,flatMap_map->uL,drop_length->uM,nil_append->uS,any_map->vy,all_map->vz,range'->vJ,map_id->vK,dropLast_concat_getLast->xZ,nodup_iff_pairwise_ne->ye,perm_append_comm->yp,dropLast_eq_take->yq,getElem?_zipIdx->yw,dropLast_concat->yx,getElem?_range->yI,filter_eq_self->yJ,ne_nil_of_mem->yM,length_range'->yN,contains_cons->yO,getLast?_map->yX,length_drop->zo,sum_append->zG,range_succ->zH,nodup_nil->zN,drop_zero->zO,drop_drop->zP,map_take->Ak,getLast?_eq_some_getLast->DU,getLast?_eq_none_iff->Ef,getLast?_eq_getElem?->Eg,length_eq_zero_iff->Ez,getElem?_cons_succ->EA,filter_cons_of_pos->EB,filter_cons_of_neg->EC,length_pos_of_mem->EG,filter_eq_nil_iff->EH,take_append_drop->ER,length_replicate->ES,mem_of_mem_take->Fo,getElem?_set_ne->Fp,zip_cons_cons->FX,filterMap_map->FY,count_pos_iff->FZ,take_add_one->GG,head?_filter->GH,contains_nil->GI,not_mem_nil->GS,of_mem_zip->Ib,filter_nil->Ic,forIn_nil->Jv,take_nil->JB,map_drop->JC,filter->Ml,append->Mm,foldl->Mw,findIdx?_eq_some_iff_getElem->O_,perm_ext_iff_of_nodup->Qt,pairwise_iff_getElem->QW,mem_of_find?_eq_some->QX,getLast?_eq_some_iff->QY,filterMap_eq_nil_iff->QZ,getElem?_take_of_lt->Rj,getElem?_cons_zero->RX,getElem?_set_self->Sa,mem_append_left->TK,getLast?_concat->TM,dropLast_subset->TN,take_succ_cons->Vy,mem_map_of_mem->Vz,length_flatMap->VA,filterMap_nil->VG,take_sublist->XJ,map_dropLast->XM,getElem?_set->XN,find?_append->XO,any_eq_false->XQ,getElem_map->XX,getElem_inj->XY,cons_append->XZ,forIn_cons->aac,take_succ->aaj,foldl_map->aak,count_set->aal
open PySem.W renaming Frag->aG,kia_one->kO,mg_of->kW,findIn->lL,fnOf->lP,emptyDict->mL,instObj->oC,keepIn->oE,callWith_K->yH,plainGet->yW,lookIn->zF,plainGet_of->EV,methodObj->FQ,hasDictIn->FR,takerIn->GL,kitOne->HV,codeIn->HW,isFn->Jz,length_le_weightAllW->Pm,cellsFrom_some->QT,methodCall_KW->Rf,callWith_K0->R_,plainOver->TC,kitx_list->TF,kitx_dict->TH,kcp_self->Vw,handedIn->Vx,makesIn->VE,WalkOS->XH,KdlSrc->XI
open GarStand renaming empties->aK,Shift->bV,shifted->ir,shiftNums->iJ,empties->oz,EMPTIES->yV,does->zM,shiftsIn->Tu
open GarFetch renaming price->aT,priceNum->bq,moved->bH,places->cy,meets->di,pricesOf->dB,wishOf->dC,wishOf->eH,placesAt->gh,wishOk->gT,rowBefore->iK,firstOf->iO,meets->kQ,proves->qp,shuts->uT,falls->uU,entriesIn->yC,pricesFrom->ET,placeOf->F_,rowsIn->VB,steps->VH,code->XS
open GarPlan renaming Plan->aW,readPlan->iL,readPlan->iY,cellsIn->jI,signOf->kn,lastFull->ph,lineOn->pJ,nameIn->tV,Plan->vx
open Nat renaming le_refl->br,ne_of_lt->cK,le_trans->da,le_of_ble_eq_true->el,zero_le->eT,lt_of_lt_of_le->gv,lt_irrefl->jy,zero_add->jZ,ne_of_gt->j_,lt_trans->lQ,testBit_and->mS,le_of_lt->nh,div_eq_of_lt->rT,le_of_eq->sj,eq_of_testBit_eq->uD,lt_succ_self->uO,min_eq_left->uX,sub_zero->vB,le_succ->vL,pow_le_pow_right->yy,mul_le_mul_right->yz,pow_le_pow_left->yK,lt_succ_of_lt->y_,testBit_xor->zJ,sub_self->AQ,mul_comm->AR,add_mod->Bt,testBit_two_pow->FT,lt_trichotomy->GN,le_of_succ_le->GO,add_div_right->GP,min_eq_right->HX,strongRecOn->Ie,testBit_or->JA,pow_succ->Ld,add_zero->Lf,add_comm->Lg,one_mul->Mr,mul_add->Ms,add_mul->Mu,testBit_two_pow_sub_one->Qs,and_le_right->aab,mul_add_div->aah,div_le_self->aai
open Option.some renaming inj->bu,injEq->EW
open WqgardSpec renaming knownOf->bz,says->cC,ofStand->cG,priced->cJ,worths->cR,leastOf->dS,ofPlan->dW,holesOf->eL,none_->eP,someStand->fP,placeNums->fQ,greatest->fT,priceOf->gQ,wished->iB,whyNot->iX,eOk->jV,cheapest->kh,provedNums->kF,ofOne->kK,rowOf->mN,rowIn->mO,pricesIn->oq,knownOf->qg,ofAll->qi,mapFrom->rL,counts->rN,State->uF,step->uK,behind->yG,MANY->FV,brought->Q_,stands->RW,along->RZ,Call->Tt
open PySem.Heap renaming lt_size->bF,get?_push_of_some->bQ,get?_push_size->cg,size_push->fC,get?_update_other->gO,SameBut->jz,get?_update_self->kH,ExtBut->Bs
open PySem.Value renaming ref->bK,none->ft,int->jC,bool->lV,isInt->qC,type->sD,str->we,float->Lb,isInt_shape->VC,isStrOf->aaf
open Bool renaming and_eq_true->cn,eq_iff_iff->cE,false_ne_true->dQ,noConfusion->jv,false_eq_true->kJ,true_and->oI,or_false->vd,not_eq_true'->yY,or_eq_true->zI,and_eq_true_iff->Fq,eq_false_iff->GJ,not_false->Jw,and_false->Jx,false_or->JD,and_eq_false_iff->Tz
open Prod.mk renaming inj->cq
open True renaming intro->cM
open WqgardNeutral renaming nats->cU,asked1->uA,bytes->Er,step->ED,natural->Pn,byte->Ql
open PySem.F renaming plainAttrs_list->eB,type_list_append->kD,slot_list_append->kE,type_list_extend->mG,slot_list_extend->mH,slot_list_index->uz,type_list_index->yh,slot_list_getattribute->DS,args_tuple_add_2->Ed,entry_tuple_add->Em,slot_tuple_add->Es,slot_dict_get->EE,kt_typeCall_dict_1->PL,slot_dict_getitem->PN,args_dict_init_2->Qm,entry_dict_init->Qq,args_dict_get_3->Qr,kt_called_dict->QU,entry_dict_get->QV,type_list_pop->Rg,slot_list_pop->Rh
open UInt8 renaming ofNat->eD,toNat_ofNat'->FP
open Ne renaming symm->eF
open PyProof.Rows renaming IntsAre->eG,IsTup->gJ,envOfC->jd,firstMet->me,AllBare->rb,step_dedup->sQ,callWith_type1->uu,slot_tuple_getitem->DR,callWith_kw->Pa,kws_cons->PM,kws_nil->PQ,subscriptTail_builtinR->XF
open Int renaming toNat_natCast->fo,toNat->qO,le_antisymm->zK,emod_eq_emod_iff_emod_sub_eq_zero->OM,natAbs_natCast->XR
open Array renaming length_toList->fR,getElem?_eq_getElem->ib,getD_eq_getD_getElem?->jo,getElem?_eq_none->lD,replicate->lJ,getElem?_toList->rH,getElem?_eq_some_iff->uw,getElem?_replicate->Eo,getElem?_setIfInBounds_ne->Pe,toList_setIfInBounds->Qp,toArray_toList->TB,toList_push->VJ
open Function renaming comp->gk
open Sum renaming inl->gB,inr->tI
open False renaming elim->gZ
open PySem.Around renaming under_plainId->ic,under->JE
open PySem.Paired renaming length->iE,snoc->KY
open Option renaming map_some->jT,getD_some->mP,map_eq_some_iff->qd,isSome_iff_exists->Ee,isSome_some->Fu,isSome_map->FW,map_eq_none_iff->Ri,getD_none->VF,isSome->aaa
open PySem.Builtin renaming bitAnd->kR,bitXor->mU,bitNot->mV,bitOr->qx
open List.cons renaming inj->kU
open PySem.Heap.SameBut renaming update->mJ
open Or renaming inr->nU,inl->nV
open PySem.Builtin.Dict_items renaming ownsTuple->om,ownedTupleIsFree->Oz,ownedTupleFields->OA,pairFromOwner->OC,newIterator->OD,dictOf->OH
open PySem.Obj renaming data_mapFields->ou,mapFields->vu,mapSeq->wd,isFreed_of_fields->yr,cls_mapFields->yZ
open PyWqgard renaming answers->oy,answers_asked->Ep
open PySem.SeqAt renaming shaped->oN,EqAt->Mq
open Iff renaming rfl->pB
open PySem.Builtin.Int renaming intBits->qf
open List.Pairwise renaming map->qh,imp_of_mem->uv,filter->uB,imp->Qu
open PySem.PyData renaming eqvAll->qy,depthAll->GR,eqv->Mj
open PyFlat renaming calls->qA,told->AN,rows->AO,played->Ju
open PySem.Builtin.Builtins renaming bindParams->rB
open PySem.Builtin.Dict renaming showsAll->rD,updateFrom->yf,selfAndRest->Pb,addKeywords->Pc,pairItems->Po,noArgs->Qo
open PySem.W.Codec renaming encAll->si,app->wg,denoteAll->zt,withinAll->X_
open PySem.Walks renaming list->sC
open Prod renaming ext->tm
open GarText renaming isSmall->tP,isDigit->xw
open PySem.Builtin.Range renaming rangeSize->ux,rangeFitsLong->ON,small->PR
open List.Perm renaming refl->uR
open Sum.inl renaming inj->vA
open PySem.Builtin.Slice renaming slicePlaces->x_,sliceAdjust->DT,sliceApplied->OT
open PySem.Builtin.Tuple renaming tupleExact->yc
open PySem.Builtin.List renaming listTooLong->yd,listLengthHint->OU
open PyProof.Rows.G renaming tupKeyC->yg
open PySem.SetTable renaming insertAt->yL,below->GQ,fill->H_,fits->XG
open ForInStep renaming yield->za
open PySem.W.WData renaming weightAll->zr
open PySem.NameKind renaming free->zL,cell->Ia
open GarPlan.Plan renaming nears->Bu
open PyProof.Rows.F renaming plain_set_update_loop->DP,entry_set_update_loop->OB
open PySem.Calls renaming callWith_builtin->EF,spliced_cons->FU,Name_function_global->Qn,evalArgs_plain->Tw,spliced_nil->VI
open PyProof.Rows.IntsAre renaming int_at->HY
open PySem.Shared renaming TypeIs->Jt
open PySem.Code renaming isFrame->KZ
open PySem.Str renaming ofString->Lc
open Except renaming ok->Mx
open PySem.SeqAt.EqAt renaming str_int->Ra,int_str->Rb,int_int->Rc
open PySem.Heap.DictOf renaming new->Sb
open PySem.PassesOwn renaming never->TJ
open GarStand.Shift.mk renaming injEq->VD
open PySem.IsRange renaming new->aam
open PySem.Builtin.Frozenset renaming updateFrom->aeI,slot0->aeJ,sizeOf->aeK,newClass->aeL
def aj:=@if_neg
def ar:=@if_pos
def cj:=@decide_eq_true_iff
def eN:=@of_decide_eq_true
def eU:=@beq_iff_eq
def fF:=@if_false
def gq:=@if_true
def gR:=@of_decide_eq_false
def gX:=@decide_eq_true
def ju:=@decide_eq_true_eq
def jw:=@decide_eq_false
def kI:=@beq_eq_false_iff_ne
def EU:=@decide_eq_false_iff_not
open Option renaming some->J,none->ah
open Bool renaming true->aa,false->ak
noncomputable section
local macro_rules|`(command|$m:declModifiers def $i:declId $s:optDeclSig $v:declVal)=>do
  if (m.raw.getArgs.extract 1 9).any (!·.isNone) then Lean.Macro.throwUnsupported
  if m.raw[0].isNone&&!i.raw[0].getId.getString!.back.isDigit then `(command|theorem $i:declId $(⟨Lean.mkNode ``Lean.Parser.Command.declSig #[s.raw[0],s.raw[1][0]]⟩):declSig $v:declVal)
  else `(command|noncomputable def $i:declId $s:optDeclSig $v:declVal)
local macro_rules|`(fun $q*=>$b)=>Yyh q b
local macro_rules|`(tactic|let $p:term:=$e)=>Yyf (Yyc 9 p) e
local macro_rules|`(tactic|obtain $p:rcasesPatMed:=$e)=>Yyf (Yyu p) e
local macro_rules|`(tactic|ext $q*)=>Yyg q
local macro_rules|`(∅)=>`(by cbv)
local macro_rules|`(tactic|cbv)=>do
 let f:=fun(n:Nat)=>`(tactic|solve_by_elim (maxDepth:=$(Lean.quote n)) only[*,Nat.le_of_lt,Nat.le_trans,Nat.lt_of_lt_of_le,Nat.lt_of_le_of_lt,Nat.lt_trans,Nat.succ_le_of_lt,Nat.lt_succ_of_le,Nat.lt_of_succ_le,Nat.le_refl])
 `(tactic|first|assumption|$(←f 2):tactic|(simp_all;done)|$(←f 3):tactic)
local macro_rules|`(tactic|cases $h:ident:$p)=>`(tactic|by_cases $h:ident:$p)
local macro_rules| `(⇑$x)=> `(kY $x)
local macro_rules|`(tactic|show $t)=>`(tactic|refine $t)
local macro_rules|`(tactic|delta $x* $[$l]?)=>`(tactic|unfold $x* $[$l]?)
local macro_rules|`(tactic|erw[$s,*]$[$l]?)=>do
  let a:=s.getElems.map fun x=>⟨Lean.mkNode ``Lean.Parser.Tactic.simpLemma #[Lean.mkNullNode,x.raw[0],x.raw[1]]⟩
  `(tactic|simp only[$[$a:simpLemma],*]$[$l]?)
local macro_rules|`(tactic|let $x:ident $b* $[:$t]? :=$v)=>`(tactic|have $x:ident $b* $[:$t]? :=$v)
local macro_rules|`(tactic|lk)=>`(tactic|first|lia|omega|grind)
local macro_rules|`(tactic|walk)=>`(tactic|constructor)
local macro_rules| `(↥$x)=> `(($x).heap.objs.size)
def B{b:Sort u}{a:b}:a=a:=rfl
abbrev Y:=@List
abbrev az:=@Option
def aN{a b:Prop}(h:a)(k:¬a):b:=absurd h k
abbrev LN0:=List Nat
abbrev LL0:=List (List Nat)
abbrev NN0:=Nat×Nat
abbrev Sx0(a:Type):=PySem.Addr×PySem.Addr×vx×List Nat×a
abbrev So0(a:Type):=PySem.Addr×PySem.Addr×vx×az (List Nat)×a
local macro_rules| `(⋯)=> `(by first|lia|omega|decide| (simp;done)| grind)
section
namespace L2
open PySem PySem.Spec PyProof.Rows
abbrev Key:=Sum Int Str
def D8:Key->ae->Bool
 | .inl k,v=>qC k v
 | .inr x,v=>aaf x v
def ai6(w:bf):Key->Int
 | .inl k=>xy k
 | .inr x=>hashStr w x
def kX:∀{k:Key} {v:ae},D8 k v=aa->(∃i t,k=gB i/\v=jC i t)\/(∃x t,k=tI x/\v=we x t)
 | .inl i,v,h=>by let⟨t,e⟩:=VC (k:=i) (v:=v) h;show .inl ⟨i,t,B,e⟩
 | .inr x,v,h=>by let⟨t,e⟩:=Value.isStrOf_shape (x:=x) (v:=v) h;show .inr ⟨x,t,B,e⟩
def UQ(i:Int)(t:Tok):D8 (.inl i) (.int i t)=true:=by simp[D8,qC]
def UP(x:Str)(t:Tok):D8 (.inr x) (.str x t)=true:=by simp[D8,aaf]
def abb(a b:Int):decide ((gB a:Key)=gB b)=(a==b):=⋯
def aaZ(a b:Str):decide ((tI a:Key)=tI b)=decide (a=b):=∅
def aba(a:Int)(b:Str):decide ((gB a:Key)=tI b)=false:=jw (λq=>nomatch q)
def aa_(a:Str)(b:Int):decide ((tI a:Key)=gB b)=false:=jw (λq=>nomatch q)
def g8(prog:bD)(w:bf):PySem.KeyKind prog w Key where
 is:=D8
 hash:=ai6 w
 inj:=λv a b ha hb=>by
  obtain⟨i,t,rfl,rfl⟩| ⟨x,t,rfl,rfl⟩:=kX ha
  ·obtain⟨j,u,rfl,e⟩| ⟨y,u,rfl,e⟩:=kX hb
   ·injection e with e1 _;rw[e1]
   ·show nomatch e
  ·obtain⟨j,u,rfl,e⟩| ⟨y,u,rfl,e⟩:=kX hb
   ·show nomatch e
   ·injection e with e1 _;rw[e1]
 byValue:=λk v h=>by obtain⟨i,t,rfl,rfl⟩| ⟨x,t,rfl,rfl⟩:=kX h<;>rfl
 pyHash:=λhv h=>by
  obtain⟨i,t,rfl,rfl⟩| ⟨x,t,rfl,rfl⟩:=kX hv
  ·show wpAny_pyHash_int h
  ·show wpAny_pyHash_str h
 eqBool:=λhu hv h=>by
  obtain⟨i,t,rfl,rfl⟩| ⟨x,t,rfl,rfl⟩:=kX hu
  ·obtain⟨j,u,rfl,rfl⟩| ⟨y,u,rfl,rfl⟩:=kX hv
   ·rw[abb] at h;show wpAny_eqBool_int h
   ·rw[aba] at h;show Rb i t y u _ _ _ _ h
  ·obtain⟨j,u,rfl,rfl⟩| ⟨y,u,rfl,rfl⟩:=kX hv
   ·rw[aa_] at h;show Ra x t j u _ _ _ _ h
   ·rw[aaZ] at h;show wpAny_eqBool_str h
 «strs»:=λk x t v h=>by
  obtain⟨i,u,rfl,e⟩| ⟨y,u,rfl,e⟩:=kX h
  ·show nomatch e
  ·injection e with e1 _;subst e1;cases v<;>rfl
def RE(a:bD)(w:bf)(i:Int)(t:Tok):(g8 a w).is (.inl i) (.int i t)=true:=UQ i t
def RD(a:bD)(w:bf)(x:Str)(t:Tok):(g8 a w).is (.inr x) (.str x t)=true:=UP x t
inductive V where
 | bO| bl (b:Bool)| int (i:Int)| str (x:Str)| gg (b:Array UInt8)| oh (b:UInt64)| ref (a:ab)| ty (n:String)
 deriving DecidableEq
/---/def RelV:V->ae->Prop
 | .bO,u=>u=ft
 | .bl b,u=>u=lV b
 | .int i,u=>∃t,u=jC i t
 | .str x,u=>∃t,u=we x t
 | .gg b,u=>∃t,u=Value.bytes b t
 | .oh b,u=>∃t,u=Lb b t
 | .ref a,u=>u=bK a
 | .ty n,u=>u=sD n
abbrev Vals:Y V->Y ae->Prop:=aU RelV
def Vals.length{a:Y V}{b:Y ae}(r:Vals a b): ⇑a=⇑b:=iE r
def Vals.get:∀{a:Y V} {b:Y ae} {i:Nat} {x:V},Vals a b->a[i]? =J x->∃u,b[i]? =J u/\RelV x u
 | _,_,_,_, .nil,e=>∅
 | _,_,0,_, .cons r _,e=>∅
 | _,_,i+1,x, .cons _ t,e=>by let⟨u,d,c⟩:=Vals.get (i:=i) (x:=x) t ∅;show⟨u,∅,c⟩
def Vals.set(r:RelV x u):∀{a:Y V} {b:Y ae} (i:Nat),Vals a b->Vals (a.set i x) (b.set i u)
 | _,_,_, .nil=> .nil
 | _,_,0, .cons _ t=> .cons r t
 | _,_,i+1, .cons q t=> .cons q (Vals.set r i t)
def Vals.append{a b:Y V}{c d:Y ae}(h:Vals a c)(k:Vals b d):Vals (a++b) (c++d):=h.rec k λr _ t=> .cons r t
def Vals.take:∀{a:Y V} {b:Y ae} (n:Nat),Vals a b->Vals (a.take n) (b.take n)
 | _,_,0,_=> .nil
 | _,_,_+1, .nil=> .nil
 | _,_,n+1, .cons r t=> .cons r (Vals.take n t)
def Vals.drop:∀{a:Y V} {b:Y ae} (n:Nat),Vals a b->Vals (a.drop n) (b.drop n)
 | _,_,0,r=>r
 | _,_,_+1, .nil=> .nil
 | _,_,n+1, .cons _ t=>Vals.drop n t
def p6:az V->az ae->Prop
 | some v,J u=>RelV v u
 | none,ah=>True
 | _,_=>False
def i7{M:Type}:Y (M×V)->Y (M×ae)->Prop:=aU λ(p:M×V) (q:M×ae)=>p.1=q.1/\RelV p.2 q.2
def c9:Key->V
 | .inl i=> .int i
 | .inr x=> .str x
inductive HO where
 | lst (xs:Y V)
 | tup (xs:Y V)
 | dK (ck:Y (Key×V))| dT (ck:Y (Y Key×V))
 | set (S:Int->Bool) (n:Nat)
 | ins (C dx:ab) (fs:Y (Str×V))
 | own (x:ab)
 | xd (fs:Y (Str×V))
 | met (f x:ab)
 | Dh (lo hi:Int)
 | cx (o:Obj) (u:HO)
 | pU (ps:Array ae)
 | ext (φ:bA->Prop)
abbrev Hp:=ab->az HO
/---/def upd(H:Hp)(a:ab)(o:HO):Hp:=λb=>if b=a then J o else H b
def bg{H:Hp}{a:ab}{o:HO}:upd H a o a=J o:=by delta upd;rw[ar B]
def aS{H:Hp}{a b:ab}{o:HO}(h:b≠a):upd H a o b=H b:=by delta upd;rw[aj h]
def NC{H:Hp}{a b:ab}{o u:HO}(h:H a=J o)(c:H b=J u)(d:o≠u):a≠b:=⋯
def eE{H:Hp}{a b:ab}{o:HO}(h:H a=J o)(c:H b=ah):a≠b:=⋯
section
variable (P:bD) (w:bf)
def f7(H:Hp)(h:bA)(a:ab):HO->Prop
 | .lst d=> ⇑d<=aV/\∃(b:Y ae) (n:Nat),Vals d b/\h.get? a=J {cls:= .type "list",data:= .seq b.toArray n}
 | .tup d=> ⇑d<=aV/\∃b:Y ae,Vals d b/\gJ h a b.toArray
 | .dK c=> ⇑c<=aV/\(a==fu)=ak/\∃k,i7 c k/\h.DictOf (g8 P w) a k
 | .dT c=> ⇑c<=aV/\(a==fu)=ak/\∃d:Y (Y Key×ab×ae),
  aU (λ(p:Y Key×V) (q:Y Key×ab×ae)=>p.1=q.1/\H q.2.1=J (.tup (p.1.map c9))/\RelV p.2 q.2.2) c d/\
  ∃o l s,h.get? a=J o/\o.ExactDict/\o.data= .dict l s/\l.toList=d.map (entryOfKey (iI (g8 P w)))/\(d.map (·.1)).Nodup
 | .set S n=>h.SetOf (intKind P w) a S n
 | .ins C i g=>H i=J (.own a)/\ ⇑g<=1000/\i≠a/\h.get? a=J (oC C i)/\
  ∃e,h.Ns1 i e/\(∀f,p6 (g.lookup f) (e f))/\KW e (g.map (·.1))
 | .own _=>∃o,h.get? a=J o
 | .xd g=>∃e,h.Ns1 a e/\∀f,p6 (g.lookup f) (e f)
 | .Dh lo y=>∃t u v,h.get? a=J {cls:= .type "range",data:= .fields #[.int lo t, .int y u, .int 1 v]}
 | .cx o u=>h.get? a=J o/\f7 H h a u
 | .pU z=>h.get? a=J {cls:= .none,data:= .fields z}
 | .met f x=>h.get? a=J (FQ (.ref f) (.ref x))
 | .ext j=>j h/\(∃o,h.get? a=J o)/\∀m r:bA,j m->(∀o,m.get? a=J o->r.get? a=J o)->j r
def i6(H:Hp)(h:bA):Prop:=∀a o,H a=J o->f7 P w H h a o
end
section
variable {P:bD} {w:bf} {H H':Hp} {h h':bA} {a:ab} {o:HO}
def f7.lt(x:f7 P w H h a o):a<h.objs.size:=by
 cases o with
 | lst c=>let⟨_,_,_,_,e⟩:=x;show bF e
 | tup c=>let⟨_,_,_,p⟩:=x;show p.lt
 | dK b=>let⟨_,_,_,_,o,_,_,e,_⟩:=x;show bF e
 | dT b=>let⟨_,_,_,_,o,_,_,e,_⟩:=x;show bF e
 | set S n=>let⟨o,_,_,_,e,_⟩:=x;show bF e
 | ins C g d=>let⟨_,_,_,e,_⟩:=x;show bF e
 | own y=>let⟨_,e⟩:=x;show bF e
 | xd d=>let⟨_,⟨_,_,_,e,_⟩,_⟩:=x;show bF e
 | Dh lo i=>let⟨_,_,_,e⟩:=x;show bF e
 | cx j u=>let⟨e,_⟩:=x;show bF e
 | pU k=>show bF (show h.get? a=J _ from x)
 | met f y=>show bF (show h.get? a=J _ from x)
 | ext l=>let⟨_,⟨_,e⟩,_⟩:=x;show bF e
def aU.CK{c:Y e}{d:Y g}(h:aU F c d)(f:∀a b,F a b->G a b):aU G c d:=h.rec .nil λr _ t=> .cons (f _ _ r) t
def aU.imp'(f:∀a b,F a b->G a b)(r:aU F c d):aU G c d:=aU.CK r f
def f7.mq(x:f7 P w H h a o)(k:∀b u,(b=a\/H b=J (.own a))->h.get? b=J u->h'.get? b=J u)(I:∀b,H b=J (.own a)->H' b=J (.own a))(L:∀b m,H b=J (.tup m)->H' b=J (.tup m)):f7 P w H' h' a o:=by
 induction o with
 | lst m=>let⟨z,l,n,r,e⟩:=x;show⟨z,l,n,r,k _ _ (.inl B) e⟩
 | tup m=>let⟨z,l,r,g,e,c⟩:=x;show⟨z,l,r,g,k _ _ (.inl B) e,c⟩
 | dK s=>let⟨z,y,Q,r,g,i,j,e,c⟩:=x;show⟨z,y,Q,r,g,i,j,k _ _ (.inl B) e,c⟩
 | dT s=>let⟨z,y,m,r,g,i,j,e,c⟩:=x;show⟨z,y,m,aU.CK r λp q z=>⟨z.1,L _ _ z.2.1,z.2.2⟩,g,i,j,k _ _ (.inl B) e,c⟩
 | set S n=>let⟨g,i,j,t,e,c⟩:=x;show⟨g,i,j,t,k _ _ (.inl B) e,c⟩
 | ins C dx T=>let⟨d,z,ne,e,A,⟨D,i,j,e2,c⟩,r⟩:=x;show⟨I _ d,z,ne,k _ _ (.inl B) e,A,⟨D,i,j,k _ _ (.inr d) e2,c⟩,r⟩
 | own y=>let⟨g,e⟩:=x;show⟨g,k _ _ (.inl B) e⟩
 | xd T=>let⟨A,⟨D,i,j,e,c⟩,r⟩:=x;show⟨A,⟨D,i,j,k _ _ (.inl B) e,c⟩,r⟩
 | Dh lo hi=>let⟨t,u,v,e⟩:=x;show⟨t,u,v,k _ _ (.inl B) e⟩
 | cx g u ih=>let⟨e,q⟩:=x;show⟨k _ _ (.inl B) e,ih q⟩
 | pU E=>let e:h.get? a=J {cls:= .none,data:= .fields E}:=x;change h'.get? a=J {cls:= .none,data:= .fields E};show k a _ (.inl B) e
 | met f y=>let e:h.get? a=J (FQ (.ref f) (.ref y)):=x;change h'.get? a=J (FQ (.ref f) (.ref y));show k a _ (.inl B) e
 | ext φ=>let⟨p,⟨o,e⟩,st⟩:=x;show⟨st _ _ p λo q=>k _ _ (.inl B) q,⟨o,k _ _ (.inl B) e⟩,st⟩
def i6.lt(x:i6 P w H h)(e:H a=J o):a<h.objs.size:=(x a o e).lt
def i6.fresh(x:i6 P w H h)(e:h.objs.size<=a):H a=none:=by
 cases q:H a with
 | none=>rfl
 | some u=>show aN (gv (x.lt q) e) (jy _)
def i6.kept(x:i6 P w H h)(k:∀b u,h.get? b=J u->h'.get? b=J u):i6 P w H h':=λa o e=>
 (x a o e).mq (λb u _ q=>k b u q) (λ_ q=>q) λ_ _ q=>q
def i6.laid(x:i6 P w H h)(k:∀b u,h.get? b=J u->h'.get? b=J u)(i:h.objs.size<=a)(d:f7 P w (upd H a o) h' a o):i6 P w (upd H a o) h':=λb u e=>by
 let f:=x.fresh i;cases g:b=a
 ·subst g;rw[bg] at e;cases e;show d
 ·rw[aS g] at e;show(x b u e).mq (λc v _ q=>k c v q) (λc q=>by rw[aS (eE q f)];show q) λc j q=>by rw[aS (eE q f)];show q
end
def D3(H:Hp)(a:ab)(u:HO):Prop:=H a=J u\/∃o,H a=J (.cx o u)
def D3.ok(r:D3 H a u)(x:i6 P w H h):f7 P w H h a u:=by
 obtain r| ⟨o,r⟩:=r
 ·show x a u r
 ·let⟨_,q⟩:=x a _ r;show q
def N4:az HO->Prop
 | some (.lst _)=>True
 | some (.dK _)=>True
 | some (.dT _)=>True
 | some (.set _ _)=>True
 | some (.ins _ _ _)=>True
 | some (.ext _)=>True
 | _=>False
section
variable {P:bD} {w:bf} {H:Hp} {h h':bA} {x e:ab} {o':HO}
def i6.write(p:i6 P w H h)(f:N4 (H x))(s:e=x\/H e=J (.own x))(k:∀b u,b≠e->h.get? b=J u->h'.get? b=J u)(i:∃u,h'.get? e=J u)(j:f7 P w (upd H x o') h' x o'):i6 P w (upd H x o') h':=λb u q=>by
 let a:∀c y,H c=J (.own y)->c≠x:=λc y r z=>by subst z;rw[r] at f;show f
 let d:∀c g,H c=J (.tup g)->c≠x:=λc g r z=>by subst z;rw[r] at f;show f
 cases m:b=x
 ·subst m;rw[bg] at q;cases q;show j
 ·rw[aS m] at q;cases l:b=e
  ·let n:H b=J (.own x):=by lk
   rw[q] at n;cases n;let⟨v,t⟩:=i;show⟨v,∅⟩
  ·show(p b u q).mq (λc v o r=>k c v ?_ r) (λc r=>by rw[aS (a c b r)];show r) λc g r=>by rw[aS (d c g r)];show r
   obtain rfl| o:=o
   ·show l
   ·lk
end
structure Un(fs ex:Y ab)(H H':Hp)(h h':bA):Prop where
 keep:∀b o,h.get? b=J o->H b=ah->b∉fs->b∉ex->h'.get? b=J o
 slot:∀b o,h.get? b=J o->H b=ah->b∈fs->b∉ex->∃sl,h'.get? b=J {o with slots:=sl}
 free:∀b o,h.get? b=J o->H b=ah->b∉ex->H' b=ah
 there:∀b o,h.get? b=J o->b∉ex->∃o',h'.get? b=J o'
 lu:∀b xs,H b=J (.tup xs)->H' b=J (.tup xs)
 kr:∀b o u,H b=J (.cx o u)->H' b=J (.cx o u)
 mn:∀b ps,H b=J (.pU ps)->∃more,H' b=J (.pU (ps++more))
section
variable {fs fs' ex ex':Y ab} {H H1 H2:Hp} {h h1 h2 h':bA} {a x e:ab} {o:HO}
def Un.any(u:Un fs ex H H1 h h1){b:ab}{c:Obj}(q:h.get? b=J c)(n:H b=ah)(d:b∉ex):∃g,h1.get? b=J {c with slots:=g}:=by
 cases f:b∈fs
 ·show u.slot b c q n f d
 ·show⟨c.slots,u.keep b c q n f d⟩
def Un.kept(k:∀b u,h.get? b=J u->h'.get? b=J u):Un fs ex H H h h':=
 ⟨λb c q _ _ _=>k b c q,λb c q _ _ _=>⟨c.slots,k b c q⟩,λ_ _ _ n _=>n,λb c q _=>⟨c,k b c q⟩,λ_ _ q=>q,λ_ _ _ q=>q,λ_ d q=>⟨#[],∅⟩⟩
def Un.refl:Un fs ex H H h h:=Un.kept λ_ _ q=>q
def Un.laid(k:∀b u,h.get? b=J u->h'.get? b=J u)(hp:h.objs.size<=a)(hn:H a=ah):Un fs ex H (upd H a o) h h' where
 keep:=λb u q _ _ _=>k b u q
 slot:=λb u q _ _ _=>⟨u.slots,k b u q⟩
 free:=λb u q n _=>by rw[aS (cK (gv (bF q) hp))];show n
 there:=λb u q _=>⟨u,k b u q⟩
 lu:=λb xs q=>by rw[aS (eE q hn)];show q
 kr:=λb u xs q=>by rw[aS (eE q hn)];show q
 mn:=λb ps q=>⟨#[],by rw[aS (eE q hn),q];simp⟩
def Un.write(g:N4 (H x))(m:e=x\/H e=J (.own x))(k:∀b u,b≠e->h.get? b=J u->h'.get? b=J u)(d:∃u,h'.get? e=J u):Un fs ex H (upd H x o) h h':=by
 let j:∀b,H b=ah->b≠x:=λb n z=>by subst z;rw[n] at g;show g
 have i:∀b,H b=ah->b≠e:=λb n z=>∅;let f:∀b u,H b=J u->¬N4 (J u)->b≠x:=λb u q p z=>∅;show⟨λb u q n _ _=>k b u (i b n) q,λb u q n _ _=>⟨u.slots,k b u (i b n) q⟩,λb u q n _=>by rw[aS (j b n)];show n,λb u q _=> ?_,
  λb l q=>by rw[aS (f b _ q λz=>z)];show q,λb u l q=>by rw[aS (f b _ q λz=>z)];show q,λb r q=>⟨#[],by rw[aS (f b _ q λz=>z),q];simp⟩⟩
 cases c:b=e
 ·subst c;show d
 ·show⟨u,k b u c q⟩
end
def W2(h:bA)(H:Hp):Y ab:=(bR h.objs.size).filter λa=>(H a).isSome
def K3(h:bA)(H:Hp):bA:=PySem.W.hideAll h (W2 h H)
def UU(h:bA)(H:Hp):(K3 h H).objs.size=h.objs.size:=PySem.W.hideAll_size _ _
def Xd(e:h.get? b=J o)(n:H b=ah):(K3 h H).get? b=J o:=
 PySem.W.hideAll_get _ e λa=>by let q:(H b).isSome=true:=(cz.mp a).2;rw[n] at q;simp at q
def YT(e:(K3 h H).get? b=J o):h.get? b=J o/\H b=none:=by
 let a:h.get? b=J o:=PySem.W.of_hideAll (W2 h H) e;show⟨a,?_⟩;cases q:H b with
 | none=>rfl
 | some x=>let c:b∈W2 h H:=cz.mpr ⟨dR.mpr (bF a),∅⟩;let z:(K3 h H).get? b=none:=PySem.W.hideAll_none (W2 h H) c;rw[z] at e;cases e
structure Mod(K:aG)(mg:Str->az ae)(base:bA):Prop where
 rr:K.In base
 glob:base.Ns ff mg
 blt:∃mb,base.Ns builtinsNs mb/\∀x:Str,x≠"__name__"->mb x=oO x
 nolimit:base.NoLimit
structure Cx where
 prog:bD
 w:bf
 K:aG
 mg:Str->az ae
 base:bA
 A:bY
 N:Y Str
 s_0:au
 H_0:Hp
 env:Env
 outer:Y Env
 stack:Y Env
 ex:Y ab
 fn:Str->Bool
 calm:Bool
 pn:Y (ab×Obj)
 xe:ae->au->Prop
def E9(l:Y Env):Y ab:=l.filterMap (·.frame)
abbrev Cx.fs(X:Cx):Y ab:=E9 X.outer
def N3(a:gb)(x:Str):Prop:=a.names.lookup x=J .local\/a.names.lookup x=J .cell\/a.names.lookup x=J .free
/---/def Loc(a:gb)(x:Str):Prop:=a.names.lookup x=J .local\/a.names.lookup x=J .cell
/---/def Look(a:Env)(h:bA)(m:Str->az ae)(x:Str)(u:ae):Prop:=
 (a.kindOf x=J .local/\m x=J u)\/((a.kindOf x=J .cell\/a.kindOf x=J .free)/\∃c,a.cells.lookup x=J c/\h.IsCell c (J u))
structure Cx.Ok(X:Cx):Prop where
 mod:Mod X.K X.mg X.base
 kind:X.env.scope.kind= .function
 glob:X.env.globals=ff
 blt:X.env.builtins=builtinsNs
 above: ↥X.s_0<=X.env.locals
 inj:∀x y c,X.env.cells.lookup x=J c->X.env.cells.lookup y=J c->x=y
 has:∀x,(X.env.kindOf x=J .cell\/X.env.kindOf x=J .free)->∃c,X.env.cells.lookup x=J c
 mB:∀x c,X.fn x=aa->X.env.cells.lookup x=J c-> ↥X.s_0<=c
 hd:X.calm=aa->X.A.handled=ah
 frames:X.A.frames=J X.stack
 xG:X.stack=X.outer\/(X.stack=X.env::X.outer/\X.env.frame=J X.env.locals)
 xU:∀b∈X.ex,b≠X.env.locals/\∀x c,X.env.cells.lookup x=J c->c≠b
 bs:∀b o,X.base.get? b=J o->X.s_0.heap.get? b=J o/\X.H_0 b=ah
 mC:X.base.objs.size<= ↥X.s_0
 tS:∀b o,X.base.get? b=J o->b∉X.ex
 tT:∀b∈X.ex,b∉X.fs
 jK:X.s_0.heap.FunFrames X.base X.outer
 pY:∀b∈X.fs,X.H_0 b=ah
structure Inv(X:Cx)(kP:Y (ab×Obj))(σ:Y (az V))(H:Hp)(s:au):Prop where
 ok:X.Ok
 os:s.os=X.s_0.os
 bare:rb s.gens
 base:Un X.fs X.ex X.H_0 H X.s_0.heap s.heap
 loc:∃m,s.heap.Ns X.env.locals m/\∀(i:Nat) (x:Str) (v:V),X.N[i]? =J x->σ[i]? =J (J v)->N3 X.env.scope x->∃u,RelV v u/\Look X.env s.heap m x u
 cell:∀x c,X.env.cells.lookup x=J c->∃v,s.heap.IsCell c v
 free:H X.env.locals=ah
 jf:∀x c,X.env.cells.lookup x=J c->H c=ah
 pin:∀p∈X.pn++kP,s.heap.get? p.1=J p.2/\H p.1=ah/\p.1≠X.env.locals/\p.1∉X.fs/\∀v,p.2.data≠ .cell v
 aQ:i6 X.prog X.w H s.heap
 len: ⇑σ=⇑X.N
section
variable {X:Cx} {kP:Y (ab×Obj)} {σ:Y (az V)} {H H':Hp} {s:au} {h':bA}
def Cx.Ok.acg(a:X.Ok)(e:X.base.get? b=J o):b∉X.fs:=λc=>by have:=(a.jK.mem c).1;rw[e] at this;cases this
def Inv.bs(I:Inv X kP σ H s):∀b o,X.base.get? b=J o->s.heap.get? b=J o/\H b=none:=λb o e=>
 ⟨I.base.keep b o (I.ok.bs b o e).1 (I.ok.bs b o e).2 (I.ok.acg e) (I.ok.tS b o e),I.base.free b o (I.ok.bs b o e).1 (I.ok.bs b o e).2 (I.ok.tS b o e)⟩
def Inv.bk(I:Inv X kP σ H s):∀b o,X.base.get? b=J o->s.heap.get? b=J o:=λb o e=>(I.bs b o e).1
def Inv.mod(I:Inv X kP σ H s):Mod X.K X.mg X.base:=I.ok.mod
def Inv.ee(I:Inv X kP σ H s):X.K.In s.heap:=I.ok.mod.rr.keeps I.bk
def Inv.lt(I:Inv X kP σ H s):X.env.locals<↥s:=let⟨_,a,_⟩:=I.loc;a.lt
def Inv.sz(I:Inv X kP σ H s): ↥X.s_0<= ↥s:=da I.ok.above (nh I.lt)
def Inv.acf(I:Inv X kP σ H s)(h: ↥s<=a):a∉X.fs:=λb=>by let⟨_,o,c,_⟩:=I.ok.jK.mem b;show aN (gv (bF c) (da I.sz h)) (jy _)
def Inv.pZ(I:Inv X kP σ H s):∀x c,X.env.cells.lookup x=J c->c≠X.env.locals:=λx c e z=>by let⟨v,o,d,f⟩:=I.cell x c e;let⟨m,⟨g,h,i,a,b,_⟩,_⟩:=I.loc;rw[z,a] at d;cases d;rw[b] at f;cases f
def Inv.jK(I:Inv X kP σ H s):s.heap.FunFrames X.base X.outer:=by
 have all:∀(l:Y Env),(∀b∈E9 l,b∈X.fs)->X.s_0.heap.FunFrames X.base l->s.heap.FunFrames X.base l:=by
  ext l;induction l with
  | nil=>ext _ _;trivial
  | cons g r h=>ext f i;let⟨j,⟨L,o,a,k,m,n⟩,p⟩:=i;let c:L∈X.fs:=f L (by delta E9;rw[lG,a];show ie);let⟨q,e⟩:=I.base.slot L o m (I.ok.pY L c) c λz=>I.ok.tT L z c;show⟨j,⟨L,_,a,k,e,n⟩,h (λb d=>f b (by delta E9;rw[lG,a];show iA _ d)) p⟩
 show all X.outer (λ_ d=>d) I.ok.jK
def Inv.stack(I:Inv X kP σ H s):s.heap.FunFrames X.base X.stack:=by
 obtain e| ⟨e,a⟩:=I.ok.xG
 ·rw[e];show I.jK
 ·rw[e];let⟨m,b,_⟩:=I.loc;show .cons (by rw[I.ok.kind];decide) a b ?_ I.jK;show Heap.get?_none_of_le (da I.ok.mC I.ok.above)
def Inv.B_(I:Inv X kP σ H s):∀b∈E9 X.stack,b∈X.env.locals::X.fs:=λb a=>by
 obtain e| ⟨e,c⟩:=I.ok.xG
 ·cbv
 ·rw[e] at a;delta E9 at a;rw[lG,c] at a;show a
def Inv.Lp(I:Inv X kP σ H s):∀b∈E9 X.stack,H b=none:=λb a=>by
 obtain e| a:=cp.mp (I.B_ b a)
 ·rw[e];show I.free
 ·let⟨_,o,c,_⟩:=I.ok.jK.mem a;show I.base.free b o c (I.ok.pY b a) λz=>I.ok.tT b z a
def Inv.step{g':Array CH}{t':Nat}{d':Drawn}{ch:Y ab}(I:Inv X kP σ H s)(g:∀b∈ch,(b∈X.ex\/ ↥X.s_0<=b)/\b≠X.env.locals/\(∀x c,X.env.cells.lookup x=J c->c≠b)/\∀p∈X.pn++kP,p.1≠b)(h:∀b o,b≠X.env.locals->b∉X.fs->b∉ch->s.heap.get? b=J o->H b=ah->h'.get? b=J o)(A:∀b o,b≠X.env.locals->b∈X.fs->b∉ch->s.heap.get? b=J o->H b=ah->∃sl,h'.get? b=J {o with slots:=sl})(f:∀b o,b∉ch->s.heap.get? b=J o->H b=ah->H' b=ah)(D:∀b o,b∉ch->s.heap.get? b=J o->∃Q,h'.get? b=J Q)(T:∀b C,H b=J (.tup C)->H' b=J (.tup C))(kr:∀b o u,H b=J (.cx o u)->H' b=J (.cx o u))(mn:∀b ps,H b=J (.pU ps)->∃more,H' b=J (.pU (ps++more)))(ns:∀m,s.heap.Ns X.env.locals m->h'.Ns X.env.locals m)(aQ:i6 X.prog X.w H' h')(hg:rb g'):
 Inv X kP σ H' {s with heap:=h',gens:=g',drawn:=d',toks:=t'}:=by
 have NT:∀b o,X.s_0.heap.get? b=J o->b≠X.env.locals:=λb o e=>cK (gv (bF e) I.ok.above);let w:∀b o,X.s_0.heap.get? b=J o->b∉X.ex->b∉ch:=λb o e a E=>by
  rcases(g b E).1 with z| z
  ·show a z
  ·show aN (gv (bF e) z) (jy _)
 have j:∀x c,X.env.cells.lookup x=J c->∀v,s.heap.IsCell c v->h'.IsCell c v:=λx c e v ⟨o,L,hd⟩=>by
  let t:c∉ch:=λz=>(g c z).2.2.1 x c e B;cases hc:c∈X.fs
  ·let⟨sl,q⟩:=A c o (I.pZ x c e) hc t L (I.jf x c e);show⟨_,q,hd⟩
  ·show⟨o,h c o (I.pZ x c e) hc t L (I.jf x c e),hd⟩
 show⟨I.ok,I.os,hg,⟨λb o e n E a=> ?_,λb o e n E a=> ?_,λb o e n a=> ?_,λb o e a=> ?_,λb C e=>T b C (I.base.lu b C e),λb o C e=>kr b o C (I.base.kr b o C e),λb ps e=> ?_⟩,?_,λx c e=> ?_,?_,λx c e=> ?_,λp hp=> ?_,aQ,I.len⟩
 ·show h b o (NT b o e) E (w b o e a) (I.base.keep b o e n E a) (I.base.free b o e n a)
 ·let⟨sl,y⟩:=I.base.slot b o e n E a;let⟨sl',e2⟩:=A b _ (NT b o e) E (w b o e a) y (I.base.free b o e n a);show⟨sl',e2⟩
 ·let⟨Q,y⟩:=I.base.there b o e a;show f b Q (w b o e a) y (I.base.free b o e n a)
 ·let⟨Q,y⟩:=I.base.there b o e a;show D b Q (w b o e a) y
 ·let⟨m1,y⟩:=I.base.mn b ps e;let⟨m2,e2⟩:=mn b _ y;show⟨m1++m2,∅⟩
 ·let⟨m,hn,hl⟩:=I.loc;show⟨m,ns m hn,λi x v y e2 e3=> ?_⟩;let⟨u,r,l⟩:=hl i x v y e2 e3;show⟨u,r,?_⟩;obtain l| ⟨k,c,e,z⟩:=l
  ·show .inl l
  ·show .inr ⟨k,c,e,j x c e _ z⟩
 ·let⟨v,z⟩:=I.cell x c e;show⟨v,j x c e v z⟩
 ·let⟨m,⟨o,_,_,L,_⟩,_⟩:=I.loc;show f _ o (λz=>(g _ z).2.1 B) L I.free
 ·let⟨v,o,L,hd⟩:=I.cell x c e;show f c o (λz=>(g c z).2.2.1 x c e B) L (I.jf x c e)
 ·let⟨e,n,ne,nf,d⟩:=I.pin p hp;let t:p.1∉ch:=λz=>(g p.1 z).2.2.2 p hp B;show⟨h p.1 p.2 ne nf t e n,f p.1 p.2 t e n,ne,nf,d⟩
def Inv.un{t':Nat}(I:Inv X kP σ H s)(u:Un X.fs [] H H' s.heap h')(c:i6 X.prog X.w H' h'):Inv X kP σ H' {s with heap:=h',toks:=t'}:=by let⟨m,⟨o,l,p,h,r⟩,_⟩:=id I.loc;let⟨q,i⟩:=u.any h I.free ⋯;show I.step (g':=s.gens) (d':=s.drawn) (ch:= []) (λ_ z=>nomatch z) (λb o _ d _ e n=>u.keep b o e n d ∅) (λb o _ d _ e n=>u.slot b o e n d ∅) (λb o _ e n=>u.free b o e n ∅) (λb o _ e=>u.there b o e ∅) u.lu u.kr u.mn (λt j=>by let⟨v,f,g,a,k⟩:=j;rw[h] at a;cases a;show⟨_,f,g,i,k⟩) c I.bare
def Inv.call{g':Array CH}{t':Nat}{d':Drawn}{ch:Y ab}(I:Inv X kP σ H s)(u:Un (E9 X.stack) ch H H' s.heap h')(g:i6 X.prog X.w H' h')(l:rb g')(d:∀b∈ch,(b∈X.ex\/ ↥X.s_0<=b)/\b≠X.env.locals/\(∀x c,X.env.cells.lookup x=J c->c≠b)/\∀p∈X.pn++kP,p.1≠b):
 Inv X kP σ H' {s with heap:=h',gens:=g',drawn:=d',toks:=t'}:=by
 let⟨m,⟨o,w,y,k,r⟩,_⟩:=id I.loc;let⟨A,h⟩:=u.any k I.free λz=>(d _ z).2.1 B;show I.step (ch:=ch) d (λb o h q a e n=>u.keep b o e n (λz=>(cp.mp (I.B_ b z)).elim h q) a) (λb o _ _ a e n=>u.any e n a) (λb o a e n=>u.free b o e n a) (λb o a e=>u.there b o e a) u.lu u.kr u.mn (λC t=>by let⟨D,i,j,f,v⟩:=t;rw[k] at f;cases f;show⟨_,i,j,h,v⟩) g l
def Inv.turned{t':Nat}{a:ab}(I:Inv X kP σ H s)(k:∀b o,b≠a->s.heap.get? b=J o->h'.get? b=J o)(t:H a=ah)(g:a≠X.env.locals)(w:a∈X.ex\/ ↥X.s_0<=a)(y:∀x c,X.env.cells.lookup x=J c->c≠a)(A:∀p∈X.pn++kP,p.1≠a):Inv X kP σ H {s with heap:=h',toks:=t'}:=by
 have f:∀b u,H b=J u->b≠a:=λb u e z=>∅;show I.step (g':=s.gens) (d':=s.drawn) (ch:= [a]) (λb C=> ?_) (λb o _ _ d e _=>k b o (λz=>d ∅) e) (λb o _ _ d e _=>⟨o.slots,k b o (λz=>d ∅) e⟩) (λ_ _ _ _ n=>n)
  (λb o d e=>⟨o,k b o (λz=>d ∅) e⟩) (λ_ _ e=>e) (λ_ _ _ e=>e) (λb D e=>⟨#[],∅⟩) (λm h=> ?_) (λb u e=> ?_) I.bare
 ·lk
 ·let⟨o,i,j,l,r⟩:=h;show⟨o,i,j,k _ o (eF g) l,r⟩
 ·show(I.aQ b u e).mq (λc v d q=>k c v ?_ q) (λ_ q=>q) λ_ _ q=>q;obtain z| z:=d
  ·rw[z];show f b u e
  ·show f c _ z
def Inv.tok(I:Inv X kP σ H s)(t:Nat):Inv X kP σ H {s with toks:=t}:=I.un (h':=s.heap) (t':=t) Un.refl I.aQ
def Inv.kept{t':Nat}(I:Inv X kP σ H s)(k:∀b u,s.heap.get? b=J u->h'.get? b=J u):Inv X kP σ H {s with heap:=h',toks:=t'}:=I.un (Un.kept k) (I.aQ.kept k)
def Inv.laid(I:Inv X kP σ H s)(k:∀b u,s.heap.get? b=J u->h'.get? b=J u)(c: ↥s<=a)(d:f7 X.prog X.w (upd H a o) h' a o):
 Inv X kP σ (upd H a o) {s with heap:=h',toks:=t'}:=I.un (Un.laid k c (I.aQ.fresh c)) (I.aQ.laid k c d)
def Inv.write(I:Inv X kP σ H s)(d:N4 (H x))(f:e=x\/H e=J (.own x))(k:∀b u,b≠e->s.heap.get? b=J u->h'.get? b=J u)(a:∃u,h'.get? e=J u)(c:f7 X.prog X.w (upd H x o) h' x o):Inv X kP σ (upd H x o) {s with heap:=h',toks:=t'}:=I.un (Un.write d f k a) (I.aQ.write d f k a c)
def Inv.weak(I:Inv X kP σ H s)(c: ⇑a=⇑σ)(w:∀(i:Nat) v,a[i]? =J (J v)->σ[i]? =J (J v)):Inv X kP a H s:=
 ⟨I.ok,I.os,I.bare,I.base,let⟨m,d,b⟩:=I.loc;⟨m,d,λi x v e f g=>b i x v e (w i v f) g⟩,I.cell,I.free,I.jf,I.pin,I.aQ,c.trans I.len⟩
def Inv.LA(I:Inv X kP σ H s)(h:∀p∈a,s.heap.get? p.1=J p.2/\H p.1=ah/\p.1≠X.env.locals/\p.1∉X.fs/\∀v,p.2.data≠ .cell v):Inv X a σ H s:=
 ⟨I.ok,I.os,I.bare,I.base,I.loc,I.cell,I.free,I.jf,λp b=>(dc.mp b).elim (λz=>I.pin p (TK _ z)) (h p),I.aQ,I.len⟩
def Bg{c:Y Str}(d:c.Nodup){i j:Nat}{x:Str}(a:c[i]? =J x)(b:c[j]? =J x):i=j:=by let⟨g,e⟩:=dZ.mp a;let⟨h,f⟩:=dZ.mp b;show(XY d).mp (e.trans f.symm)
def Iq{f:Model}{A:bY}{E:ae->au->Prop}{i:Nat}{x:Str}{v:V}{u:ae}{Q:Unit->au->Prop}(I:Inv X kP σ H s)(hN:X.N.Nodup)(hi:X.N[i]? =J x)(C:Loc X.env.scope x)(r:RelV v u)(h:∀s',Inv X kP (σ.set i (J v)) H s'->(∃a,jz a s.heap s'.heap/\(a=X.env.locals\/X.env.cells.lookup x=J a))->Q () s')(hf:X.fn x=aa\/X.env.scope.names.lookup x=J .local:=by first| show .inl B| show .inr B| assumption):ao f A (storeName X.env x u) Q E s:=by
 let⟨m,hn,hl⟩:=id I.loc;let acq:(X.env.scope.kind== .class|| (X.env.scope.kind== .module && X.env.locals !=X.env.globals))=false:=by rw[I.ok.kind];rfl
 let T:i<⇑σ:=by rw[I.len];show(dZ.mp hi).1
 have pZ:=I.pZ;let l:∀{a:ab} {h':bA},(∃o,s.heap.get? a=J o/\H a=ah)->jz a s.heap h'->i6 X.prog X.w H h':=λ{a h'} ha g b ob e=>by
  let⟨_,_,D⟩:=ha;show(I.aQ b ob e).mq (λc w' w q=>(g.2 c ?_).trans q) (λ_ q=>q) λ_ _ q=>q;ext rfl;obtain rfl| w:=w
  ·rw[D] at e;cases e
  ·rw[D] at w;cases w
 obtain hk| hk:=C
 ·refine wpAny_storeName_local hk hn (λh' hn' g=> ?_) acq;let⟨oL,_,_,hoL,_⟩:=id hn;show h _ ⟨I.ok,I.os,I.bare,⟨λb o e n hb C=> ?_,λb o e n hb C=> ?_,I.base.free,λb o e C=> ?_,I.base.lu,I.base.kr,I.base.mn⟩,⟨_,hn',λj y v' t L e3=> ?_⟩,λy c e=> ?_,I.free,I.jf,λp hp=> ?_,l ⟨oL,hoL,I.free⟩ g,by simpa using I.len⟩ ⟨_,g, .inl B⟩
  ·show(g.2 b (cK (gv (bF e) I.ok.above))).trans (I.base.keep b o e n hb C)
  ·let⟨sl,t⟩:=I.base.slot b o e n hb C;show⟨sl,(g.2 b (cK (gv (bF e) I.ok.above))).trans t⟩
  ·let⟨o',t⟩:=I.base.there b o e C;show⟨o',(g.2 b (cK (gv (bF e) I.ok.above))).trans t⟩
  ·cases hj:j=i
   ·subst hj;rw[hi] at t;cases t;rw[Sa T] at L;cases L;show⟨u,r, .inl ⟨hk,∅⟩⟩
   ·rw[Fp (eF hj)] at L;let⟨u',r',q⟩:=hl j y v' t L e3;show⟨u',r',?_⟩;obtain⟨k,e⟩| ⟨k,c,e,z⟩:=q
    ·show .inl ⟨k,?_⟩;have:y≠x:=λe=>hj (Bg hN t (e▸hi));simp[this,e]
    ·show .inr ⟨k,c,e,z.sameBut g (pZ y c e)⟩
  ·let⟨w',z⟩:=I.cell y c e;show⟨w',z.sameBut g (pZ y c e)⟩
  ·let⟨e,n,ne,nf,d⟩:=I.pin p hp;show⟨(g.2 p.1 ne).trans e,n,ne,nf,d⟩
 ·have DH:X.fn x=true:=by cbv
  let⟨c,w⟩:=I.ok.has x (.inl hk);let⟨w',z⟩:=I.cell x c w;show wpAny_storeName_cell I.ok.kind hk w z (λh' xR g=> ?_);let⟨oc,Oc,afd⟩:=id z;show h {s with heap:=h'} ⟨I.ok,I.os,I.bare,⟨λb o e n hb C=> ?_,λb o e n hb C=> ?_,I.base.free,λb o e C=> ?_,I.base.lu,I.base.kr,I.base.mn⟩,⟨m,hn.sameBut g (eF (pZ x c w)),λj y v' t L e3=> ?_⟩,λy c' e=> ?_,I.free,I.jf,λp hp=> ?_,l ⟨oc,Oc,I.jf x c w⟩ g,by simpa using I.len⟩ ⟨c,g, .inr w⟩
  ·show(g.2 b (cK (gv (bF e) (I.ok.mB x c DH w)))).trans (I.base.keep b o e n hb C)
  ·let⟨sl,t⟩:=I.base.slot b o e n hb C;show⟨sl,(g.2 b (cK (gv (bF e) (I.ok.mB x c DH w)))).trans t⟩
  ·let⟨o',t⟩:=I.base.there b o e C;show⟨o',(g.2 b (cK (gv (bF e) (I.ok.mB x c DH w)))).trans t⟩
  ·cases hj:j=i
   ·subst hj;rw[hi] at t;cases t;rw[Sa T] at L;cases L;show⟨u,r, .inr ⟨.inl hk,c,w,xR⟩⟩
   ·rw[Fp (eF hj)] at L;let⟨u',r',q⟩:=hl j y v' t L e3;show⟨u',r',?_⟩;obtain q| ⟨k,c',e,z'⟩:=q
    ·show .inl q
    ·show .inr ⟨k,c',e,z'.sameBut g ?_⟩;ext rfl;show hj (Bg hN t (I.ok.inj _ _ _ e w▸hi))
  ·cases Oj:c'=c
   ·subst Oj;show⟨_,xR⟩
   ·let⟨w2,z2⟩:=I.cell y c' e;show⟨w2,z2.sameBut g Oj⟩
  ·let⟨e,n,ne,nf,d⟩:=I.pin p hp;show⟨(g.2 p.1 ?_).trans e,n,ne,nf,d⟩;ext q;rw[q,Oc] at e;let q':oc=p.2:=bu e;show d w' ∅
def Ba(I:Inv X kP σ H s)(c:X.N.Nodup)(d:X.N[i]? =J x)(e:Loc X.env.scope x)(r:RelV v u)(h:∀b,Inv X kP (σ.set i (J v)) H b->Q () b)(f:X.fn x=aa\/X.env.scope.names.lookup x=J .local:=by first| show .inl B| show .inr B| assumption):ao a A (storeName X.env x u) Q E s:=
 Iq I c d e r (λb g _=>h b g) f
def Inv.ab_(I:Inv X kP σ H s)(g:a.os=s.os)(u:Un (E9 X.stack) ch H H' s.heap a.heap)(d:i6 X.prog X.w H' a.heap)(h:rb a.gens)(f:∀b∈ch,(b∈X.ex\/ ↥X.s_0<=b)/\b≠X.env.locals/\(∀x c,X.env.cells.lookup x=J c->c≠b)/\∀p∈X.pn++kP,p.1≠b):Inv X kP σ H' a:=by let⟨h',i,j,k,l⟩:=a;let e:l=s.os:=g;subst e;show I.call (g':=i) (t':=k) (d':=j) u d h f
end
abbrev XK:=ae->az ab->Hp->Prop
abbrev St:=Y (az V)
abbrev VK:=V->Hp->Prop
abbrev TE:=St->Hp->VK->Prop
abbrev TT:=St->Hp->(Bool->Hp->Prop)->Prop
abbrev TA:=St->Hp->(Y V->Hp->Prop)->Prop
structure Ends where
 nx:St->Hp->Prop
 rt:VK
 bk:St->Hp->Prop:=λ_ _=>False
 ct:St->Hp->Prop:=λ_ _=>False
abbrev TS:=Ends->St->Hp->Prop
def n8(X:Cx)(a:Y (ab×Obj))(c:St)(Q:VK)(u:ae)(d:au):Prop:=∃v b,Inv X a c b d/\RelV v u/\Q v b
def X4(X:Cx)(a:Y (ab×Obj))(d:St)(Q:Bool->Hp->Prop)(b:Bool)(e:au):Prop:=∃c,Inv X a d c e/\Q b c
def ai9(X:Cx)(a:Y (ab×Obj))(d:St)(Q:Y V->Hp->Prop)(e:Y ae)(f:au):Prop:=∃b c,Inv X a d c f/\Vals b e/\Q b c
def P5(X:Cx)(b:Y (ab×Obj))(D:Ends)(f:Flow)(d:au):Prop:=
 match f with
 | .next=>∃a c,Inv X b a c d/\D.nx a c
 | .brk=>∃a c,Inv X b a c d/\D.bk a c
 | .cont=>∃a c,Inv X b a c d/\D.ct a c
 | .ret u=>∃v a c,Inv X b a c d/\RelV v u/\D.rt v c
def b3(X:Cx)(e:aZ)(t:TE):Prop:=
 ∀(a:Y (ab×Obj)) (s:au) (b:St) (H:Hp) (Q:VK),Inv X a b H s->t b H Q->ao (aD X.prog X.w) X.A (eval e X.env) (n8 X a b Q) X.xe s
def p7(X:Cx)(e:aZ)(t:TT):Prop:=
 ∀(a:Y (ab×Obj)) (s:au) (b:St) (H:Hp) (Q:Bool->Hp->Prop),Inv X a b H s->t b H Q->ao (aD X.prog X.w) X.A (rj e X.env (eval e X.env)) (X4 X a b Q) X.xe s
def l4(X:Cx)(e:aZ)(t:TT):Prop:=
 ∀(whole:Sem ae) (a:Y (ab×Obj)) (s:au) (b:St) (H:Hp) (Q:Bool->Hp->Prop),Inv X a b H s->t b H Q->ao (aD X.prog X.w) X.A (rj e X.env whole) (X4 X a b Q) X.xe s
def l4.pt(h:l4 X e t):p7 X e t:=h _
def j2(X:Cx)(d:Y aZ)(t:TA):Prop:=
 ∀(b:Pos) (a:Y (ab×Obj)) (s:au) (c:St) (H:Hp) (Q:Y V->Hp->Prop),Inv X a c H s->t c H Q->ao (aD X.prog X.w) X.A (spliced (dh b (aH d X.env))) (ai9 X a c Q) X.xe s
def m9(X:Cx)(st:eY)(t:TS):Prop:=
 ∀(a:Y (ab×Obj)) (s:au) (b:St) (H:Hp) (D:Ends),Inv X a b H s->t D b H->ao (aD X.prog X.w) X.A (exec st X.env) (P5 X a D) X.xe s
def p4(X:Cx)(st:Y eY)(t:TS):Prop:=
 ∀(a:Y (ab×Obj)) (s:au) (b:St) (H:Hp) (D:Ends),Inv X a b H s->t D b H->ao (aD X.prog X.w) X.A (execs st X.env) (P5 X a D) X.xe s
def aM{c:Type}{t:Sem c}{Q d:c->au->Prop}{b:Model}{A:bY}{E:ae->au->Prop}{s:au}(h:ao b A t Q E s)(e:∀a s,Q a s->d a s):ao b A t d E s:=ja h e λ_ _ x=>x
section
variable {X:Cx}
def p3(i:Nat):TE:=λa H Q=>∃v,a[i]? =J (J v)/\Q v H
def j8(v:V):TE:=λ_ H Q=>Q v H
def MF(n:X.N[i]? =J x)(o:N3 X.env.scope x)(g:(x==("__debug__":Str))=false:=by decide)(j:(x==("__classdict__":Str))=false:=by decide):b3 X (.Name x p) (p3 i):=by
 ext b s q H Q I h;let⟨v,e,h⟩:=h;let⟨m,t,w⟩:=I.loc;let⟨u,r,l⟩:=w i x v n e o;let d:n8 X b q Q u s:=⟨v,H,I,r,h⟩;obtain⟨f,y⟩| ⟨f,c,k,a⟩:=l
 ·show wpAny_Name (ZX I.ok.kind f t y d) g
 ·obtain f| f:=f
  ·show wpAny_Name (aad I.ok.kind f k a d) g
  ·show wpAny_Name (wpAny_loadName_free I.ok.kind f k a d j) g
def ai:b3 X (.Constant (.int i) j a) (j8 (.int i)):=λ_ _ _ H _ I h=>wpAny_Constant_int ⟨.int i,H,I.tok _,⟨_,B⟩,h⟩
def rd:b3 X (.Constant (.bool b) j a) (j8 (.bl b)):=λ_ _ _ H _ I h=>Constant_bool ⟨.bl b,H,I,B,h⟩
def qX:b3 X (.Constant .none j a) (j8 .bO):=λ_ _ _ H _ I h=>Constant_none ⟨.bO,H,I,B,h⟩
def jF:b3 X (.Constant (.str x) j a) (j8 (.str x)):=λ_ _ _ H _ I h=>Calls.Constant_str ⟨.str x,H,I.tok _,⟨_,B⟩,h⟩
def k4(X:Cx)(x:Str):Prop:=X.env.kindOf x=J .globalImplicit
def sU(I:Inv X a f H s)(b:k4 X x)(c:X.mg x=J u)(h:Q u s)(d:(x==("__debug__":Str))=false:=by decide):ao (aD X.prog X.w) X.A (eval (.Name x e) X.env) Q E s:=
 Qn I.ok.kind b (Calls.loadGlobal_global (by rw[I.ok.glob];show I.mod.glob.keeps I.bk) c h) d
def mf{E:ae->au->Prop}{a:Y (ab×Obj)}{s:au}{c:St}{H:Hp}{x:Str}{u:ae}{b:Pos}{Q:ae->au->Prop}(I:Inv X a c H s)(d:k4 X x)(e:X.mg x=ah)(f:oO x=J u)(h:Q u s)(g:x≠"__name__":=by decide)(i:(x==("__debug__":Str))=false:=by decide):ao (aD X.prog X.w) X.A (eval (.Name x b) X.env) Q E s:=by let⟨l,j,k⟩:=I.mod.blt;show Qn I.ok.kind d (Calls.loadGlobal_builtin (by rw[I.ok.glob];show I.mod.glob.keeps I.bk) e (by rw[I.ok.blt];show j.keeps I.bk) ((k x g).trans f) h) i
def YH(a:k4 X x)(b:X.mg x=J u)(r:RelV v u)(c:(x==("__debug__":Str))=false:=by decide):b3 X (.Name x d) (j8 v):=
 λ_ _ _ H _ I h=>sU I a b ⟨v,H,I,r,h⟩ c
def YM(a:k4 X x)(b:X.mg x=ah)(c:oO x=J u)(r:RelV v u)(d:x≠"__name__":=by decide)(e:(x==("__debug__":Str))=false:=by decide):b3 X (.Name x f) (j8 v):=
 λ_ _ _ H _ I h=>mf I a b c ⟨v,H,I,r,h⟩ d e
variable {a b:aZ} {ta tb:TE} {pos:Pos}
def X6(X:Cx)(g:CmpOp)(a b:aZ)(t:TE):Prop:=
 ∀(c:Y (ab×Obj)) (s:au) (f:St) (H:Hp) (Q:VK),Inv X c f H s->t f H Q->
  ao (aD X.prog X.w) X.A (eval a X.env) (λv d=>ao (aD X.prog X.w) X.A (eval b X.env) (λu e=>ao (aD X.prog X.w) X.A (et g v u) (n8 X c f Q) X.xe e) X.xe d) X.xe s
def WO(b:aZ)(h:c≠ .In)(f:c≠ .NotIn):m_ c b=false:=by let d:(c==CmpOp.In)=false:=∅;let e:(c==CmpOp.NotIn)=false:=∅;cases b<;>simp[m_,d,e]
def V0(ta:TE):TE:=λc H Q=>ta c H λx d=>Q (.bl (decide (x= .bO))) d
def RelV.WN(r:RelV x v):(v==ft)=decide (x= .bO):=by
 cases x with
 | bO=>cases r;rfl
 | bl _=>cases r;rfl
 | int _=>let⟨t,rfl⟩:=r;rfl
 | str _=>let⟨t,rfl⟩:=r;rfl
 | gg _=>let⟨t,rfl⟩:=r;rfl
 | oh _=>let⟨t,rfl⟩:=r;rfl
 | ref _=>cases r;rfl
 | ty _=>cases r;rfl
def wZ(e:b3 X a ta):X6 X .Is a (.Constant .none j d) (V0 ta):=by ext c s f H Q I h;show aM (e c s f H _ I h) λv m ⟨x,g,i,k,l⟩=> ?_;show Constant_none (is_none_gen ⟨.bl _,g,i,by rw[k.WN];rfl,l⟩)
def X3(t:TE):TT:=λd H Q=>t d H λx e=>∃c,x= .bl c/\Q c e
def nL(h:X6 X g a b t)(f:m_ g b=false:=by first| show WO _ (by decide) (by decide)| rfl):p7 X (.Compare a [g] [b] pos) (X3 t):=by ext e s i H Q I j;show XT (aM (h e s i H _ I j) λv p f=>aM f λu r k=>aM k λc w ⟨x,l,m,n,o⟩=> ?_) f;let⟨d,rfl,q⟩:=o;cases n;show kL ⟨l,m,q⟩
variable {tA xF:TT} {kj:Y aZ}
def S2(t u:TT):TT:=λd H Q=>t d H λc e=>if c=aa then u d e Q else Q ak e
def ag8(t u:TT):TT:=λd H Q=>t d H λc e=>if c=aa then Q aa e else u d e Q
def af5(t:TT):TT:=λd H Q=>t d H λc e=>Q (!c) e
def ny(f:p7 X a tA):l4 X (.BoolOp .And [a] pos) tA:=by
 ext i d s g H Q I h;show isTrue_and (aM (f d s g H Q I h) λc j e=> ?_);cases c with
 | true=>show isTrue_and_nil e
 | false=>show e
def lb(f:p7 X a tA):l4 X (.BoolOp .Or [a] pos) tA:=by
 ext i d s g H Q I h;show isTrue_or (aM (f d s g H Q I h) λc j e=> ?_);cases c with
 | false=>show isTrue_or_nil e
 | true=>show e
def nJ(j:p7 X a tA)(k:l4 X (.BoolOp .And (b::kj) pos) xF):l4 X (.BoolOp .And (a::b::kj) pos) (S2 tA xF):=by
 ext l d s e H Q I h;show isTrue_and (aM (j d s e H _ I h) λc m ⟨f,g,i⟩=> ?_);cases c with
 | true=>show k l d m e f Q g i
 | false=>show⟨f,g,i⟩
def je(j:p7 X a tA)(k:l4 X (.BoolOp .Or (b::kj) pos) xF):l4 X (.BoolOp .Or (a::b::kj) pos) (ag8 tA xF):=by
 ext l d s e H Q I h;show isTrue_or (aM (j d s e H _ I h) λc m ⟨f,g,i⟩=> ?_);cases c with
 | true=>show⟨f,g,i⟩
 | false=>show k l d m e f Q g i
def hE(e:p7 X a tA):p7 X (.UnaryOp .Not a pos) (af5 tA):=by ext d s f H Q I h;show isTrue_not (e d s f H (λc g=>Q (!c) g) I h)
def ae1(ta tb:TE):TE:=λd H Q=>ta d H λx e=>∃c,x= .bl c/\if c=aa then tb d e Q else Q (.bl ak) e
def af4(ta tb:TE):TE:=λd H Q=>ta d H λx e=>∃c,x= .bl c/\if c=aa then Q (.bl aa) e else tb d e Q
def gE(h:b3 X a t):b3 X (.BoolOp f [a] pos) t:=λc s d H Q I e=>BoolOp_one (h c s d H Q I e)
def nN(j:b3 X a ta)(k:b3 X (.BoolOp .And (b::kj) pos) tb):b3 X (.BoolOp .And (a::b::kj) pos) (ae1 ta tb):=by
 ext d s f H Q I h;show BoolOp_and (aM (j d s f H _ I h) λv l ⟨x,g,i,m,e⟩=> ?_);let⟨c,rfl,e⟩:=e;cases m;show kL ?_;cases c with
 | true=>show k d l f g Q i e
 | false=>show⟨.bl ak,g,i,B,e⟩
def Nw(j:b3 X a ta)(k:b3 X (.BoolOp .Or (b::kj) pos) tb):b3 X (.BoolOp .Or (a::b::kj) pos) (af4 ta tb):=by
 ext d s f H Q I h;show BoolOp_or (aM (j d s f H _ I h) λv l ⟨x,g,i,m,e⟩=> ?_);let⟨c,rfl,e⟩:=e;cases m;show kL ?_;cases c with
 | false=>show k d l f g Q i e
 | true=>show⟨.bl aa,g,i,B,e⟩
def ag9(t:TT)(ta tb:TE):TE:=λd H Q=>t d H λc e=>if c=aa then ta d e Q else tb d e Q
def il(l:p7 X c tA)(m:b3 X a ta)(n:b3 X b tb):b3 X (.IfExp c a b pos) (ag9 tA ta tb):=by
 ext e s f H Q I h;show wpAny_IfExp (aM (l e s f H _ I h) λd g ⟨i,j,k⟩=> ?_);cases d with
 | true=>show m e g f i Q j k
 | false=>show n e g f i Q j k
end
/---/def SqL(K:aG)(H:Hp)(a:ab)(c:Y V):Prop:=
 D3 H a (.lst c)\/
  ∃(o:Obj) (b:Array ae) (n:Nat),K.lookup a=J o/\o.cls= .type "list"/\o.dict=ah/\o.data= .seq b n/\b.size<=aV/\Vals c b.toList
def d7(K:aG)(H:Hp)(a:ab)(c:Y V):Prop:=
 D3 H a (.tup c)\/
  ∃(o:Obj) (b:Array ae) (n:Nat),K.lookup a=J o/\o.cls= .type "tuple"/\o.data= .seq b n/\b.size<=aV/\Vals c b.toList
def ai7:ae->az V
 | .none=>J .bO
 | .bool b=>J (.bl b)
 | .int i _=>J (.int i)
 | .str x _=>J (.str x)
 | .bytes b _=>J (.gg b)
 | .float b _=>J (.oh b)
 | .ref a=>J (.ref a)
 | .type n=>J (.ty n)
 | _=>ah
def RelV.abs(r:RelV x u):ai7 u=J x:=by
 cases x with
 | bO=>cases r;rfl
 | bl _=>cases r;rfl
 | int _=>let⟨t,rfl⟩:=r;rfl
 | str _=>let⟨t,rfl⟩:=r;rfl
 | gg _=>let⟨t,rfl⟩:=r;rfl
 | oh _=>let⟨t,rfl⟩:=r;rfl
 | ref _=>cases r;rfl
 | ty _=>cases r;rfl
def RelV.inj(r:RelV x u)(q:RelV y u):x=y:=bu (r.abs.symm.trans q.abs)
def Vals.inj{b a:Y V}{c:Y ae}(h:Vals b c)(k:Vals a c):b=a:=by
 induction h generalizing a with
 | nil=>cases k;rfl
 | cons r t d=>
   cases k with
   | cons e f=>rw[r.inj e,d f]
section
variable {X:Cx} {kP:Y (ab×Obj)} {σ:St} {H:Hp} {s:au} {a:ab} {xs ys:Y V}
def SqL.of{K:aG}(h:H a=J (.lst xs)):SqL K H a xs:= .inl (.inl h)
def d7.of{K:aG}(h:H a=J (.tup xs)):d7 K H a xs:= .inl (.inl h)
def Inv.list(I:Inv X kP σ H s)(h:SqL X.K H a xs):∃b:Y ae,Vals xs b/\PlainL s.heap a b.toArray/\ ⇑xs<=aV:=by
 obtain h| ⟨o,b,n,c,d,f,g,i,r⟩:=h
 ·let⟨z,b,n,r,e⟩:=h.ok I.aQ;show⟨b,r,⟨_,n,e,B,B,B⟩,z⟩
 ·show⟨b.toList,r,⟨o,n,I.ee a o c,d,f,⋯⟩,?_⟩;let e:=r.length;erw[fR] at e
  cbv
def Inv.tuple(I:Inv X kP σ H s)(h:d7 X.K H a xs):∃b:Y ae,Vals xs b/\gJ s.heap a b.toArray/\ ⇑xs<=aV:=by
 obtain h| ⟨o,b,n,c,d,f,g,r⟩:=h
 ·let⟨z,b,r,p⟩:=h.ok I.aQ;show⟨b,r,p,z⟩
 ·show⟨b.toList,r,⟨o,I.ee a o c,d,n,⋯⟩,?_⟩;let e:=r.length;erw[fR] at e
  cbv
def Inv.Kp(I:Inv X kP σ H s)(h:SqL X.K H a xs)(i:SqL X.K H a ys):xs=ys:=by
 let⟨c,r,⟨o,n,e,_,_,d⟩,_⟩:=I.list h;let⟨b,j,⟨k,l,f,_,_,g⟩,_⟩:=I.list i;rw[e] at f;cases f;rw[d] at g;injection g with m _
 have:c=b:=∅;subst this;show r.inj j
def Inv.TY(I:Inv X kP σ H s)(h:d7 X.K H a xs)(i:d7 X.K H a ys):xs=ys:=by
 let⟨c,r,⟨o,e,_,n,d⟩,_⟩:=I.tuple h;let⟨b,j,⟨k,f,_,l,g⟩,_⟩:=I.tuple i;rw[e] at f;cases f;rw[d] at g;injection g with m _
 have:c=b:=∅;subst this;show r.inj j
end
abbrev Cx.lr(X:Cx)(E:ae->au->Prop):Cx:={X with xe:=E}
abbrev Cx.mw(X:Cx):Cx:=X.lr λ_ _=>False
def Cx.Ok.lr{X:Cx}(a:X.Ok)(E:ae->au->Prop):(X.lr E).Ok:=
 ⟨a.mod,a.kind,a.glob,a.blt,a.above,a.inj,a.has,a.mB,a.hd,a.frames,a.xG,a.xU,a.bs,a.mC,a.tS,a.tT,a.jK,a.pY⟩
def Cx.Ok.nH{X:Cx}{E:ae->au->Prop}(a:(X.lr E).Ok):X.Ok:=
 ⟨a.mod,a.kind,a.glob,a.blt,a.above,a.inj,a.has,a.mB,a.hd,a.frames,a.xG,a.xU,a.bs,a.mC,a.tS,a.tT,a.jK,a.pY⟩
section
variable {X:Cx} {kP:Y (ab×Obj)} {σ:St} {H:Hp} {s:au} {E:ae->au->Prop}
def Inv.lr(I:Inv X kP σ H s)(E:ae->au->Prop):Inv (X.lr E) kP σ H s:=⟨I.ok.lr E,I.os,I.bare,I.base,I.loc,I.cell,I.free,I.jf,I.pin,I.aQ,I.len⟩
def Inv.nH(I:Inv (X.lr E) kP σ H s):Inv X kP σ H s:=⟨I.ok.nH,I.os,I.bare,I.base,I.loc,I.cell,I.free,I.jf,I.pin,I.aQ,I.len⟩
def P5.nH(h:P5 (X.lr E) kP D f c):P5 X kP D f c:=by
 cases f with
 | next=>let⟨a,b,I,q⟩:=h;show⟨a,b,I.nH,q⟩
 | brk=>let⟨a,b,I,q⟩:=h;show⟨a,b,I.nH,q⟩
 | cont=>let⟨a,b,I,q⟩:=h;show⟨a,b,I.nH,q⟩
 | ret u=>let⟨v,a,b,I,r,q⟩:=h;show⟨v,a,b,I.nH,r,q⟩
def p4.mw{st:Y eY}{t:TS}(h:p4 X.mw st t):p4 X st t:=λkP s σ H D I a=>
 ja (h kP s σ H D (I.lr _) a) (λ_ _ q=>q.nH) λ_ _ z=>gZ z
end
section
variable {X:Cx} {st:eY} {kj:Y eY} {t u:TS} {e:aZ} {te:TE} {pos:Pos}
def Q1:TS:=λD a H=>D.nx a H
def E1(t u:TS):TS:=λD a H=>t {D with nx:=u D} a H
def bB:p4 X [] Q1:=λ_ _ a H _ I h=>Ai ⟨a,H,I,h⟩
def Wq(c:m9 X st t)(d:p4 X kj u):p4 X (st::kj) (E1 t u):=by
 ext a s g H D I h;show wpAny_execs_cons (aM (c a s g H {D with nx:=u D} I h) λf i q=> ?_);cases f with
 | next=>let⟨b,j,k,q⟩:=q;show d a i b j D k q
 | ret v=>show q
 | brk=>show q
 | cont=>show q
def bP(b:m9 X st t):p4 X [st] t:=by
 ext a s c H D I h;show wpAny_execs_cons (aM (b a s c H D I h) λf d q=> ?_);cases f with
 | next=>show Ai q
 | ret v=>show q
 | brk=>show q
 | cont=>show q
def ad0:TS:=λD a H=>D.bk a H
def JY:m9 X (.Break pos) ad0:=λ_ _ a H _ I h=>wpAny_Break ⟨a,H,I,h⟩
def Inv.quiet(I:Inv X a b H s):interactive X.env=false:=by simp[interactive,I.ok.kind]
def L7(te:TE):TS:=λD a H=>te a H λ_ b=>D.nx a b
def fh(c:b3 X e te)(d:nu e ah pos.line X.env=pure false:=by rfl):m9 X (.Expr e pos) (L7 te):=by ext a s b H D I h;show wpAny_Expr_any (aM (c a s b H _ I h) λv j ⟨x,f,g,k,i⟩=>⟨b,f,g,i⟩) I.quiet d
def E3(te:TE):TS:=λD a H=>te a H D.rt
def qV(c:b3 X e te):m9 X (.Return (J e) pos) (E3 te):=by ext a s b H D I h;show wpAny_Return_some (aM (c a s b H _ I h) λv j ⟨x,d,f,g,i⟩=>⟨x,b,d,f,g,i⟩)
def O7(c:TT)(t u:TS):TS:=λD a H=>c a H λb d=>if b=aa then t D a d else u D a d
def bx(m:p7 X c n)(o:p4 X a t)(p:p4 X b u):m9 X (.If c a b pos) (O7 n t u):=by
 ext f s g H D I h;show wpAny_If (aM (m f s g H _ I h) λd i ⟨j,k,l⟩=> ?_);cases d with
 | true=>show o f i g j D k l
 | false=>show p f i g j D k l
end
abbrev TG:=V->St->Hp->(St->Hp->Prop)->Prop
abbrev p_:=Y V->St->Hp->(St->Hp->Prop)->Prop
def y6(X:Cx)(b:aZ)(t:TG):Prop:=
 ∀(a:Y (ab×Obj)) (s:au) (d:St) (H:Hp) (v:V) (u:ae) (Q:St->Hp->Prop),Inv X a d H s->RelV v u->t v d H Q->
  ao (aD X.prog X.w) X.A (assign b X.env u) (λ_ f=>∃c e,Inv X a c e f/\Q c e) X.xe s
def R1(X:Cx)(g:Y aZ)(t:p_):Prop:=
 ∀(a:Y (ab×Obj)) (s:au) (c:St) (H:Hp) (d:Y V) (e:Y ae) (Q:St->Hp->Prop),Inv X a c H s->Vals d e->t d c H Q->
  ao (aD X.prog X.w) X.A (assignInOrder ((lW g X.env).map (·.2)) e) (λ_ h=>∃b f,Inv X a b f h/\Q b f) X.xe s
abbrev CY:=V->V->V->Hp->(Hp->Prop)->Prop
def aa9(X:Cx)(t:CY):Prop:=
 ∀(a:Y (ab×Obj)) (s:au) (b:St) (H:Hp) (o i v:V) (c d u:ae) (Q:Hp->Prop),Inv X a b H s->RelV o c->RelV i d->RelV v u->t o i v H Q->
  ao (aD X.prog X.w) X.A (setItem c d u) (λ_ f=>∃e,Inv X a b e f/\Q e) X.xe s
abbrev xX:=V->V->Hp->VK->Prop
def ab4(X:Cx)(c:Operator)(t:xX):Prop:=
 ∀(a:Y (ab×Obj)) (s:au) (b:St) (H:Hp) (x y:V) (v u:ae) (Q:VK),Inv X a b H s->RelV x v->RelV y u->t x y H Q->
  ao (aD X.prog X.w) X.A (inplaceOp c v u) (n8 X a b Q) X.xe s
section
variable {X:Cx} {pos:Pos}
def p9(i:Nat):TG:=λv a H Q=>Q (a.set i (J v)) H
def YD(b:X.N.Nodup)(c:X.N[i]? =J x)(d:Loc X.env.scope x)(e:X.fn x=aa\/X.env.scope.names.lookup x=J .local:=by first| show .inl B| show .inr B| assumption):y6 X (.Name x pos) (p9 i):=by ext a s g H v u Q I r h;show wpAny_assign_Name (Ba I b c d r (λj f=>⟨_,H,f,h⟩) e)
def aa7:p_:=λa b H Q=>a= []/\Q b H
def Q4(t:TG)(u:p_):p_:=λb c H Q=>∃v r,b=v::r/\t v c H λa d=>u r a d Q
def du:R1 X [] aa7:=by ext a s b H c d Q I r h;let⟨e,h⟩:=h;subst e;cases r;show assignInOrder_nil ⟨b,H,I,h⟩
def bG(d:y6 X e t)(f:R1 X b u)(g:(lW (e::b) X.env).map (·.2)=assign e X.env::(lW b X.env).map (·.2):=by rfl):R1 X (e::b) (Q4 t u):=by
 ext a s i H p q Q I r h;let⟨v,w,j,h⟩:=h;subst j;cases r with
 | cons r k=>rw[g];show assignInOrder_cons (aM (d a s i H _ _ _ I r h) λ_ l ⟨c,m,n,o⟩=> ?_);show f a l c m _ _ Q n k o
def S5(K:aG)(n:Nat)(t:p_):TG:=λv c H Q=>∃a b,v= .ref a/\d7 K H a b/\ ⇑b=n/\t b c H Q
def aaI(j:X.calm=aa)(h:R1 X d t)(l: ⇑(lW d X.env)=n:=by rfl)(f:(lW d X.env).findIdx? (·.1)=none:=by rfl):y6 X (.Tuple d k pos) (S5 X.K n t):=by ext c s i H v u Q I r g;let⟨a,m,p,q,w,g⟩:=g;subst p;cases r;let⟨x,y,z,E⟩:=I.tuple q;show assign_Tuple_tuple (I.ok.hd j) z (by simp[l,<-w,y.length]) f λA C=> ?_;let D:Inv X c i H {s with heap:=A}:=I.kept (t':=s.toks) λb o e=>C b o (cK (bF e)) e;show h c _ i H m _ Q D ∅ g
def aa6(b c:TE)(t:CY):TG:=λv a H Q=>b a H λo d=>c a d λi e=>t o i v e λf=>Q a f
def Cc(e:b3 X o f)(g:b3 X i j)(k:aa9 X t)(l:∀v,assign (.Subscript o i pos) X.env v=(do
  let b<-fW [v] (eval o X.env);let c<-fW [v,b] (eval i X.env)
  ml pos
  fW [v,b,c] (setItem b c v)
  release [v,b,c] []):=by ext _;rfl):y6 X (.Subscript o i pos) (aa6 f j t):=by
 ext a s d H v u Q I r h;rw[l];show ag (gm (aM (e a s d H _ I h) λb m ⟨x,n,p,q,w⟩=> ?_));show ag (gm (aM (g a m d n _ p w) λc z ⟨y,A,C,D,E⟩=> ?_));show ag (Mn (ag (gm (aM (k a z d A x y v b c u _ C q D r E) λ_ s3 ⟨L,T,q3⟩=> ?_))));show wpAny_release ⟨d,L,T,q3⟩
def w8(b:TE)(g:TG):TS:=λD a H=>b a H λx c=>g x a c D.nx
def Cb(d:b3 X e f)(i:y6 X b g)(j:swapsWithSole [b] e pos.line X.env=pure false:=by rfl)(k:swappedStores [b] e X.env=pure none:=by rfl)
 (l:(lW [b] X.env).map (·.2)= [assign b X.env]:=by rfl):m9 X (.Assign [b] e pos) (w8 f g):=by
 ext a s c H D I h;show wpAny_Assign_stores (aM (d a s c H _ I h) λv m ⟨x,n,o,p,r⟩=> ?_) j k;rw[l];show aM (i a m c n x v _ o p r) λ_ t q=>q
def aaC(c:X.N.Nodup)(d:X.N[i]? =J x)(f:Loc X.env.scope x)(g:b3 X e j)(k:nu e (J (.Name x b)) pos.line X.env=pure false:=by rfl)(l:X.fn x=aa\/X.env.scope.names.lookup x=J .local:=by first| show .inl B| show .inr B| assumption):
 m9 X (.Assign [.Name x b] e pos) (w8 j (p9 i)):=by
 ext a s m H D I h;show wpAny_Assign_Name (aM (g a s m H _ I h) λv t ⟨y,n,o,p,q⟩=> ?_) k;show Ba o c d f p (λu r=>⟨_,n,r,q⟩) l
def V2(i:Nat)(b:TE)(c:xX):TS:=λD a H=>∃x,a[i]? =J (J x)/\b a H λy d=>c x y d λz e=>D.nx (a.set i (J z)) e
def aaF(C:X.N.Nodup)(o:X.N[i]? =J x)(j:Loc X.env.scope x)(E:b3 X e L)(Q:ab4 X p T)(hf:X.fn x=aa\/X.env.scope.names.lookup x=J .local:=by first| show .inl B| show .inr B| assumption):
 m9 X (.AugAssign (.Name x q) p e pos) (V2 i L T):=by
 ext a s t H D I h;let⟨v,e1,h⟩:=h;let⟨m,hn,hl⟩:=I.loc;let n:N3 X.env.scope x:=by obtain k| k:=j;show .inl k;show .inr (.inl k)
 let⟨u,r,l⟩:=hl i x v o e1 n;show wpAny_AugAssign_Name ?_;let A:ao (aD X.prog X.w) X.A (eval e X.env) (λw f=>ao (aD X.prog X.w) X.A (inplaceOp p u w) (λr g=>ao (aD X.prog X.w) X.A (storeName X.env x r) (λ_=>P5 X a D .next) X.xe g) X.xe f) X.xe s:=by show aM (E a s t H _ I h) λw s1 ⟨y,H1,I1,r1,q1⟩=> ?_;show aM (Q a s1 t H1 v y u w _ I1 r r1 q1) λz s2 ⟨zv,H2,I2,r2,q2⟩=> ?_;show Ba I2 C o j r2 (λs3 I3=>⟨_,H2,I3,q2⟩) hf
 obtain⟨b,hm⟩| ⟨b,c,hc,d⟩:=l
 ·show ZX I.ok.kind b hn hm A
 ·obtain b| b:=b
  ·show aad I.ok.kind b hc d A
  ·obtain k| k:=j
   ·have:X.env.scope.names.lookup x=J .free:=b;rw[k] at this;cases this
   ·have:X.env.scope.names.lookup x=J .free:=b;rw[k] at this;cases this
def ae0(e f g:TE)(a:V->V->Hp->VK->Prop)(d:xX)(b:CY):TS:=λD c H=>e c H λo h=>f c h λi j=>a o i j λx k=>g c k λy l=>d x y l λz m=>b o i z m λn=>D.nx c n
def ab0(X:Cx)(t:V->V->Hp->VK->Prop):Prop:=
 ∀(a:Y (ab×Obj)) (s:au) (b:St) (H:Hp) (o i:V) (c d:ae) (Q:VK),Inv X a b H s->RelV o c->RelV i d->t o i H Q->
  ao (aD X.prog X.w) X.A (getItem c d) (n8 X a b Q) X.xe s
def BB(t:b3 X o u)(w:b3 X i x)(y:ab0 X g)(z:b3 X e A)(C:ab4 X E k)(L:aa9 X j)(Q:∀c d b,augStore i c d b=(do fW [b,c,d] (setItem c d b);release [b,c,d] [];pure .next):=by intros;rfl):m9 X (.AugAssign (.Subscript o i m) E e pos) (ae0 u x A g k j):=by ext a s f H D I h;show wpAny_AugAssign_SubscriptAny (aM (t a s f H _ I h) λc T ⟨n,H1,I1,p,q1⟩=> ?_) Q;show aM (w a T f H1 _ I1 q1) λd s2 ⟨q,H2,I2,r,q2⟩=> ?_;show aM (y a s2 f H2 n q c d _ I2 p r q2) λl s3 ⟨x3,H3,I3,r3,q3⟩=> ?_;show aM (z a s3 f H3 _ I3 q3) λv s4 ⟨x4,H4,I4,r4,q4⟩=> ?_;show aM (C a s4 f H4 x3 x4 l v _ I4 r3 r4 q4) λb s5 ⟨x5,H5,I5,r5,q5⟩=> ?_;show aM (L a s5 f H5 n q x5 c d b _ I5 p r r5 q5) λ_ s6 ⟨H6,I6,q6⟩=>⟨f,H6,I6,q6⟩
end
section
variable {X:Cx} {pos:Pos}
def Y2(c:TT)(tb:TS):TS:=λD d H=>∃W:Nat->St->Hp->Prop,(∃m,W m d H)/\∀m d H,W m d H->
 c d H λb f=>if b=aa then∃a:St->Hp->Prop,(∀e g,a e g->∃h,h<m/\W h e g)/\tb {D with nx:=a,ct:=a,bk:=D.nx} d f else D.nx d f
def Wr(w:Cr (aD X.prog X.w) X.A X.env X.xe)(E:p7 X c L)(Q:p4 X i tb):m9 X (.While c i [] pos) (Y2 L tb):=by
 ext d s T H D I h;let⟨W,⟨m0,w0⟩,j⟩:=h;show wpAny_While (codeAny_whileLoop (λn s'=>∃k x,Inv X d k x s'/\W n k x) ?_ m0 ⟨T,H,I,w0⟩);ext n s1 ⟨g,y,I1,w1⟩;show qw w (aM (E d s1 g y _ I1 (j n g y w1)) λb s2 ⟨z,A,m⟩=> ?_);cases b with
 | true=>
   let⟨a,C,m⟩:=m;rw[ar B];show qw w (aM (Q d s2 g z _ A m) λf s3 o=> ?_);cases f with
   | next=>let⟨e,l,p,q⟩:=o;let⟨r,t,u⟩:=C e l q;show⟨r,t,e,l,p,u⟩
   | cont=>let⟨e,l,p,q⟩:=o;let⟨r,t,u⟩:=C e l q;show⟨r,t,e,l,p,u⟩
   | brk=>show o
   | ret v=>show o
 | false=>rw[aj dQ];show Ai ⟨g,z,A,m⟩
end
structure It where
 go:Nat->Hp->Prop
 n_:Nat->Hp->V->Hp->Prop
 stop:Nat->Hp->Prop
def E6(X:Cx)(a:Y (ab×Obj))(H:Hp)(b:ab):Prop:=
 H b=ah/\b≠X.env.locals/\b∉X.fs/\(b∈X.ex\/ ↥X.s_0<=b)/\(∀x c,X.env.cells.lookup x=J c->c≠b)/\∀p∈X.pn++a,p.1≠b
def Inv.rn(I:Inv X a i H s)(d: ↥s<=b)(f:g b=ah):E6 X a g b:=by
 show⟨f,j_ (gv I.lt d),I.acf d, .inr (da I.sz d),λx c e z=> ?_,λp h z=> ?_⟩
 ·let⟨v,q⟩:=I.cell x c e;show aN (gv q.lt ∅) (jy _)
 ·show aN (gv (bF (I.pin p h).1) ∅) (jy _)
structure Turn(P:bD)(w:bf)(K:aG)(tg:aZ)(qa:It)(fp:Y ab)(it:ab)(tn:Nat->bA->Prop):Prop where
 mem:it∈fp
 obj:∀i h,tn i h->∀b∈fp,∃o,h.get? b=J o/\∀v,o.data≠ .cell v
 keep:∀i h h',tn i h->(∀b∈fp,∀o,h.get? b=J o->h'.get? b=J o)->tn i h'
 item:∀(X:Cx),X.prog=P->X.w=w->X.K=K->X.calm=aa->∀(i:Nat) (kP:Y (ab×Obj)) (s:au) (σ:St) (H:Hp) (E:ae->au->Prop),Inv X kP σ H s->(∀b∈fp,E6 X kP H b)->tn i s.heap->qa.go i H->
  ao (aD P w) X.A (dE (.ref it)) (λr s1=>∃u,r=J u/\
   ao (aD P w) X.A (letOwnedTupleGo tg (.ref it) u) (λ_ s2=>∃x H',Inv X kP σ H' s2/\RelV x u/\qa.n_ i H x H'/\tn (i+1) s2.heap/\∀b∈fp,H' b=ah) E s1) E s
 done:∀(X:Cx),X.prog=P->X.w=w->X.K=K->X.calm=aa->∀(i:Nat) (kP:Y (ab×Obj)) (s:au) (σ:St) (H:Hp) (E:ae->au->Prop),Inv X kP σ H s->(∀b∈fp,E6 X kP H b)->tn i s.heap->qa.stop i H->
  ao (aD P w) X.A (dE (.ref it)) (λr s1=>r=ah/\Inv X kP σ H s1) E s
 self:∀(A:bY) (i:Nat) (s:au) (Q:ae->au->Prop) (E:ae->au->Prop),tn i s.heap->Q (.ref it) s->ao (aD P w) A (pyIter (.ref it)) Q E s
abbrev TI:=St->Hp->(It->Hp->Prop)->Prop
def T2(X:Cx)(c:Y (ab×Obj))(j:St)(k:aZ)(R:It->Hp->Prop)(d:ae)(f:au):Prop:=
 ∃(g:ab) (h:Y ab) (i:Nat->bA->Prop) (a:It) (e:Hp),d= .ref g/\Inv X c j e f/\Turn X.prog X.w X.K k a h g i/\i 0 f.heap/\(∀b∈h,E6 X c e b)/\R a e
def n6(X:Cx)(c iter:aZ)(d:TI):Prop:=
 ∀(a:Y (ab×Obj)) (s:au) (b:St) (H:Hp) (R:It->Hp->Prop),Inv X a b H s->d b H R->
  ao (aD X.prog X.w) X.A (eval iter X.env) (λv e=>ao (aD X.prog X.w) X.A (pyIter v) (T2 X a b c R) X.xe e) X.xe s
def tJ(c:s.heap.get? d=J o)(e:o.cls= .type n)(f:o.data= .fields g)(i: ["enumerate","zip","dict_itemiterator","dict_reverseitemiterator","odict_iterator","itertools.zip_longest","itertools.pairwise"].contains n=ak)(b:Q () s):ao a A (letOwnedTupleGo h (.ref d) u) Q E s:=by
 unfold letOwnedTupleGo;cases h<;>first
  | show ax b
  | (cases u<;>first
      | show ax b
      | (show ag (wpAny_load c ?_);rw[e,f];change ao a A (if(["enumerate","zip","dict_itemiterator","dict_reverseitemiterator","odict_iterator","itertools.zip_longest","itertools.pairwise"].contains n && g[0]? ==J (iw _))=aa then _ else _) Q E s;rw[aj ⋯];show ax b))
def ah4(K:aG)(a:ab):It:=
 ⟨λi H=>∃b x,SqL K H a b/\b[i]? =J x,λi H x c=>c=H/\∀b,SqL K H a b->b[i]? =J x,λi H=>∃b,SqL K H a b/\ ⇑b<=i⟩
def ah2(K:aG)(a:ab):It:=
 ⟨λi H=>∃b x,d7 K H a b/\b[i]? =J x,λi H x c=>c=H/\∀b,d7 K H a b->b[i]? =J x,λi H=>∃b,d7 K H a b/\ ⇑b<=i⟩
def X1(lo:Int)(n:Nat):It:=⟨λi _=>i<n,λi H x a=>a=H/\x= .int (lo+i),λi _=>n<=i⟩
def TV{P:bD}{w:bf}{K:aG}{tg:aZ}(a it:ab):Turn P w K tg (ah4 K a) [it] it (λi h=>h.IsListIter it a i)where
 mem:=∅
 obj:=λi h st b hb=>by let e:b=it:=∅;subst e;let⟨o,e,c,d⟩:=st;show⟨o,e,λv z=>∅⟩
 keep:=λi h h' st k=>st.at λo e=>k it ∅ o e
 item:=by ext X hP hw hK hc i kP s σ H E I hf st hg;subst hP hw hK;let⟨xs,x,hq,hx⟩:=hg;let⟨gL,rv,p,hz⟩:=I.list hq;let⟨u,hu,ru⟩:=rv.get hx;let⟨f0,f1,f2,f3,f4,f5⟩:=hf it ∅;show Ft st p.isList (x:=u) ∅ λh' hZ sb=> ?_;let I1:Inv X kP σ H {s with heap:=h'}:=I.turned (t':=s.toks) (λb o hb e=>(sb.2 b hb).trans e) f0 f1 f3 f4 f5;let⟨o,e,c,d⟩:=id hZ;show⟨u,rfl,tJ (s:={s with heap:=h'}) e c d ∅ ⟨x,H,I1,ru,⟨rfl,λys hy=>by rw[I.Kp hy hq];show hx⟩,hZ,λb hb=>(hf b hb).1⟩⟩
 done:=by ext X hP hw hK hc i kP s σ H E I hf st hg;subst hP hw hK;let⟨xs,hq,hx⟩:=hg;let⟨gL,rv,p,hz⟩:=I.list hq;let⟨f0,f1,f2,f3,f4,f5⟩:=hf it ∅;let hl:=rv.length;show FO (I.ok.hd hc) st p.isList ∅ λh' eb=>⟨rfl,I.turned (t':=s.toks) (λb o hb e=>eb b o hb e) f0 f1 f3 f4 f5⟩
 self:=λ_ _ _ _ _ st h=>wpAny_pyIter_listiter st h
def Se{P:bD}{w:bf}{K:aG}{tg:aZ}(a it:ab):Turn P w K tg (ah2 K a) [it] it (λi h=>h.IsTupleIter it a i)where
 mem:=∅
 obj:=λi h st b hb=>by let e:b=it:=∅;subst e;let⟨o,e,c,d⟩:=st;show⟨o,e,λv z=>∅⟩
 keep:=λi h h' st k=>st.at λo e=>k it ∅ o e
 item:=by ext X hP hw hK hc i kP s σ H E I hf st hg;subst hP hw hK;let⟨xs,x,hq,hx⟩:=hg;let⟨gL,rv,p,hz⟩:=I.tuple hq;let⟨u,hu,ru⟩:=rv.get hx;let⟨f0,f1,f2,f3,f4,f5⟩:=hf it ∅;show wpAny_pyNext_tuple_item st (show s.heap.IsTuple a gL.toArray from p) (x:=u) ∅ λh' hZ sb=> ?_;let I1:Inv X kP σ H {s with heap:=h'}:=I.turned (t':=s.toks) (λb o hb e=>(sb.2 b hb).trans e) f0 f1 f3 f4 f5;let⟨o,e,c,d⟩:=id hZ;show⟨u,rfl,tJ (s:={s with heap:=h'}) e c d ∅ ⟨x,H,I1,ru,⟨rfl,λys hy=>by rw[I.TY hy hq];show hx⟩,hZ,λb hb=>(hf b hb).1⟩⟩
 done:=by ext X hP hw hK hc i kP s σ H E I hf st hg;subst hP hw hK;let⟨xs,hq,hx⟩:=hg;let⟨gL,rv,p,hz⟩:=I.tuple hq;let⟨f0,f1,f2,f3,f4,f5⟩:=hf it ∅;let hl:=rv.length;show wpAny_pyNext_tuple_end (I.ok.hd hc) st (show s.heap.IsTuple a gL.toArray from p) ∅ λh' eb=>⟨rfl,I.turned (t':=s.toks) (λb o hb e=>eb b o hb e) f0 f1 f3 f4 f5⟩
 self:=λ_ _ _ _ _ st h=>wpAny_pyIter_tupleiter st h
def Sf{P:bD}{w:bf}{K:aG}{tg:aZ}(it:ab)(lo:Int)(n:Nat):Turn P w K tg (X1 lo n) [it] it (λi h=>BW h it (lo+(i:Nat)*1) ((n:Int)-(i:Nat)) 1)where
 mem:=∅
 obj:=λi h st b hb=>∅
 keep:=λi h h' st k=>k it ∅ _ st
 item:=by ext X hP hw hK hc i kP s σ H E I hf st hg;subst hP hw hK;let⟨f0,f1,f2,f3,f4,f5⟩:=hf it ∅;let W:=Walks.range (prog:=X.prog) (w:=X.w) (I.ok.hd hc) it lo 1 n;show W.item i s _ _ hg st λv h' tk hv hZ kk=> ?_;let⟨t,rfl⟩:=hv;let I1:Inv X kP σ H {s with heap:=h',toks:=tk}:=I.turned (λb o hb e=>kk b o ∅ e) f0 f1 f3 f4 f5;show⟨_,B,tJ (s:={s with heap:=h',toks:=tk}) (n:="range_iterator") hZ B B ∅ ⟨.int (lo+i),H,I1,⟨t,?_⟩,⟨B,B⟩,hZ,λb hb=>(hf b hb).1⟩⟩;rw[Int.mul_one]
 done:=by ext X hP hw hK hc i kP s σ H E I hf st hg;subst hP hw hK;let⟨f0,f1,f2,f3,f4,f5⟩:=hf it ∅;show XD (I.ok.hd hc) st (by have:n<=i:=hg;lk) λh' eb=>⟨B,I.turned (t':=s.toks) (λb o hb e=>eb b o hb e) f0 f1 f3 f4 f5⟩
 self:=λ_ _ _ _ _ st h=>XE st h
section
variable {X:Cx} {tg:aZ}
def U6(K:aG)(tl:TE):TI:=λc H R=>tl c H λx b=>∃a,x= .ref a/\(∃d,SqL K b a d)/\R (ah4 K a) b
def aa5(K:aG)(tl:TE):TI:=λc H R=>tl c H λx b=>∃a,x= .ref a/\(∃d,d7 K b a d)/\R (ah2 K a) b
def YA{l:aZ}{tl:TE}(g:b3 X l tl):n6 X tg l (U6 X.K tl):=by ext c s i H R I h;show aM (g c s i H _ I h) λv d ⟨x,j,f,k,m⟩=> ?_;let⟨a,e,⟨t,n⟩,q⟩:=m;subst e;cases k;let⟨r,u,p,w⟩:=f.list n;show oA p.isList ?_;show⟨↥d, [↥d],_,_,j,B,f.kept (t':=d.toks) λb o e=>bQ _ e,TV a _,⟨_,cg _ B,B,B⟩,λb y=> ?_,q⟩;let e:b=↥d:=∅;subst e;show f.rn (br _) (f.aQ.fresh (br _))
def aaG{l:aZ}{tl:TE}(i:b3 X l tl):n6 X tg l (aa5 X.K tl):=by ext c s j H R I h;show aM (i c s j H _ I h) λv d ⟨x,k,f,m,n⟩=> ?_;let⟨a,e,⟨t,r⟩,q⟩:=n;subst e;cases m;let⟨g,u,p,w⟩:=f.tuple r;show wpAny_pyIter_tuple (show d.heap.IsTuple a g.toArray from p) ?_;show⟨↥d, [↥d],_,_,k,B,f.kept (t':=d.toks) λb o e=>bQ _ e,Se a _,⟨_,cg _ B,B,B⟩,λb y=> ?_,q⟩;let e:b=↥d:=∅;subst e;show f.rn (br _) (f.aQ.fresh (br _))
def JW{a:Y (ab×Obj)}{d:St}{H:Hp}{s:au}{R:It->Hp->Prop}{E:ae->au->Prop}{lo c:Int}{t u v:Tok}{f:Nat}(I:Inv X a d H s)(h: -(2^62)<=lo)(i:lo<2^62)(j: -(2^62)<=c)(k:c<2^62)(q:R (X1 lo (c-lo).toNat) H):ao (aD X.prog X.w) X.A (pyIter (.ref ↥s)) (T2 X a d tg R) E {s with heap:=s.heap.push {cls:= .type "range",data:= .fields #[.int lo t, .int c u, .int 1 v]},toks:=f}:=by
 refine wpAny_pyIter_range (aam ..) (small_one h i j k) ?_;let g:Inv X a d H {s with heap:=s.heap.push {cls:= .type "range",data:= .fields #[.int lo t, .int c u, .int 1 v]},toks:=f}:=I.kept λb o e=>bQ _ e;show⟨(s.heap.push {cls:= .type "range",data:= .fields #[.int lo t, .int c u, .int 1 v]}).objs.size, [(s.heap.push {cls:= .type "range",data:= .fields #[.int lo t, .int c u, .int 1 v]}).objs.size],_,_,H,B,
  g.kept (t':=f) λb o e=>bQ _ e,Sf _ lo (c-lo).toNat,?_,λb l=> ?_,q⟩
 ·let m:lo+((0:Nat):Int)*1=lo:=by simp
  let n:(((c-lo).toNat:Nat):Int)-((0:Nat):Int)=ux lo c 1:=by rw[rangeSize_one];split<;>lk
  change BW _ _ (lo+((0:Nat):Int)*1) ((((c-lo).toNat:Nat):Int)-((0:Nat):Int)) 1;rw[m,n];show cg _ B
 ·let e:b=(s.heap.push {cls:= .type "range",data:= .fields #[.int lo t, .int c u, .int 1 v]}).objs.size:=by simpa using l
  subst e;show g.rn (br _) (g.aQ.fresh (br _))
def af2(a:TA):TI:=λb H R=>a b H λc d=>∃j:Int,c= [.int j]/\-(2^62)<=j/\j<2^62/\R (X1 0 j.toNat) d
def af1(a:TA):TI:=λb H R=>a b H λc d=>∃i j:Int,c= [.int i, .int j]/\(-(2^62)<=i/\i<2^62/\-(2^62)<=j/\j<2^62)/\R (X1 i (j-i).toNat) d
def sk{a:aZ}{f:TA}{p c:Pos}(g:k4 X "range")(i:X.mg "range"=ah)(k:j2 X [a] f)(l:aH [a] X.env= [(ak,eval a X.env)]:=by rfl):n6 X tg (.Call (.Name "range" p) [a] [] c) (af2 f):=by
 ext b s m H R I h;show Call_ (mf I g i boot_range (uu (aM (k c b s m H _ I h) λw x ⟨y,z,n,o,d⟩=> ?_) l B));let⟨j,e,d,u,q⟩:=d;subst e;cases o with
 | cons r v=>cases v;let⟨t,rfl⟩:=r;show call_range_1 (JW n ∅ ∅ d u ∅)
def Uv(l:k4 X "range")(m:X.mg "range"=ah)(n:j2 X [a,b] o)(C:aH [a,b] X.env= [(ak,eval a X.env),(ak,eval b X.env)]:=by rfl)(d:aH [b] X.env= [(ak,eval b X.env)]:=by rfl):
 n6 X tg (.Call (.Name "range" p) [a,b] [] f) (af1 o):=by
 ext c s u H R I h;show Call_ (mf I l m boot_range (uu (aM (n f c s u H _ I h) λD E ⟨L,Q,v,w,g⟩=> ?_) ∅ (by rw[d];rfl)));let⟨i,j,e,⟨g,x,y,z⟩,q⟩:=g;subst e;cases w with
 | cons r k=>
   cases k with
   | cons A k=>cases k;let⟨t,rfl⟩:=r;let⟨T,rfl⟩:=A;show call_range_2 (JW v g x y z q)
def M4(j:TI)(g:TG)(tb:TS):TS:=λD c H=>j c H λa k=>∃W:Nat->Nat->St->Hp->Prop,(∃m,W 0 m c k)/\∀i m c H,W i m c H->
 (a.stop i H/\D.nx c H)\/(a.go i H/\∃b:St->Hp->Prop,(∀d e,b d e->∃h,h<m/\W (i+1) h d e)/\∀x e,a.n_ i H x e->g x c e λf l=>tb {D with nx:=b,ct:=b,bk:=D.nx} f l)
def R9(a:Y ab)(h:bA):Y (ab×Obj):=a.filterMap λb=>(h.get? b).map λo=>(b,o)
def Ab(a:b∈c)(e:h.get? b=J o):(b,o)∈R9 c h:=js.mpr ⟨b,a,∅⟩
def UB(a:p∈R9 c h):p.1∈c/\h.get? p.1=J p.2:=by
 let⟨b,d,e⟩:=js.mp a;cases q:h.get? b with
 | none=>rw[q] at e;cases e
 | some o=>lk
def Inv.pinned(I:Inv X a h H s)(i:∀b∈c,E6 X a H b)(j:∀b∈c,∃o,s.heap.get? b=J o/\∀v,o.data≠ .cell v):Inv X (a++R9 c s.heap) h H s:=
 I.LA λp k=>(dc.mp k).elim (λz=>I.pin p (oo _ z)) λz=>by let⟨f,e⟩:=UB z;let⟨l,m,n,_⟩:=i p.1 f;let⟨o,g,d⟩:=j p.1 f;rw[e] at g;cases g;show⟨e,l,m,n,d⟩
def Inv.vN(I:Inv X (kP++c) a H s):Inv X kP a H s:=I.LA λp b=>I.pin p (oo _ (TK _ b))
def aaD(E:Cr (aD X.prog X.w) X.A X.env X.xe)(hc:X.calm=aa)(hi:n6 X tg iter wi)(hg:y6 X tg g)(l:p4 X L tb)(hs:∀x,qm iter X.env x=pure x:=by ext _;rfl):m9 X (.For tg iter L [] pos) (M4 wi g tb):=by
 ext j s σ H D I h;show wpAny_For (aM (hi j s σ H _ I h) λv s1 h1=>aM h1 λitv s2 h2=> ?_) hs;let⟨it,Q,tn,a,H2,e,I2,T,xI,f2,W,⟨m0,w0⟩,turn⟩:=h2;subst e;let p:∀{z:Hp},(∀b∈Q,z b=ah)->∀b∈Q,E6 X j z b:=λhn b l=>⟨hn b l,(f2 b l).2⟩;show codeAny_forLoop_any (λn s'=>∃i q z,Inv X j q z s'/\tn i s'.heap/\(∀b∈Q,z b=ah)/\W i n q z) ?_ m0 ⟨0,σ,H2,I2,xI,λb l=>(f2 b l).1,w0⟩;ext n s3 ⟨i,t,H3,I3,xH,Ow,w3⟩;obtain⟨stop,qn⟩| ⟨go,c,hN,step⟩:=turn i n t H3 w3
 ·show qw E (aM (T.done X B B B hc i j s3 t H3 X.xe I3 (p Ow) xH stop) λr s4 ⟨hr,I4⟩=> ?_);subst hr;show Ai ⟨t,H3,I4,qn⟩
 ·show qw E (aM (T.item X B B B hc i j s3 t H3 X.xe I3 (p Ow) xH go) λr s4 ⟨u,hr,h4⟩=> ?_);subst hr;show qw E (aM h4 λ_ s5 ⟨x,H5,I5,r5,y5,C,fr5⟩=> ?_);let I5':=I5.pinned (p fr5) (T.obj _ _ C);show qw E (aM (hg _ s5 t H5 x u _ I5' r5 (step x H5 y5)) λ_ s6 ⟨σ6,H6,I6,q6⟩=> ?_);show qw E (aM (l _ s6 σ6 H6 _ I6 q6) λf s7 A=> ?_);let again:∀{k:St} {w:Hp},Inv X (j++R9 Q s5.heap) k w s7->c k w->∃m,m<n/\∃i q z,Inv X j q z s7/\tn i s7.heap/\(∀b∈Q,z b=ah)/\W i m q z:=λ{k w} y n7=>by let⟨m',hm,w7⟩:=hN k w n7;show⟨m',hm,i+1,k,w,y.vN,T.keep _ _ _ C λb l o e=>(y.pin (b,o) (oo _ (oo _ (Ab l e)))).1,λb l=> ?_,w7⟩;let⟨o,e,d⟩:=T.obj _ _ C b l;show(y.pin (b,o) (oo _ (oo _ (Ab l e)))).2.1
  cases f with
  | next=>let⟨k,w,y,n7⟩:=A;show again y n7
  | cont=>let⟨k,w,y,n7⟩:=A;show again y n7
  | brk=>let⟨k,w,y,A⟩:=A;show⟨k,w,y.vN,A⟩
  | ret v=>let⟨x7,k,w,y,r7,A⟩:=A;show⟨x7,k,w,y.vN,r7,A⟩
end
abbrev R2:=V->V->Hp->VK->Prop
def e9(X:Cx)(f:ae->ae->Sem ae)(r:R2):Prop:=
 ∀(a:Y (ab×Obj)) (s:au) (b:St) (H:Hp) (x y:V) (v u:ae) (Q:VK),Inv X a b H s->RelV x v->RelV y u->r x y H Q->
  ao (aD X.prog X.w) X.A (f v u) (n8 X a b Q) X.xe s
def W9(X:Cx)(f:ae->Sem ae)(r:V->Hp->VK->Prop):Prop:=
 ∀(a:Y (ab×Obj)) (s:au) (b:St) (H:Hp) (x:V) (v:ae) (Q:VK),Inv X a b H s->RelV x v->r x H Q->
  ao (aD X.prog X.w) X.A (f v) (n8 X a b Q) X.xe s
def i3(X:Cx)(f:ae)(r:Y V->Hp->VK->Prop):Prop:=
 ∀(a:Y (ab×Obj)) (s:au) (b:St) (H:Hp) (c:Y V) (d:Y ae) (Q:VK),Inv X a b H s->Vals c d->r c H Q->
  ao (aD X.prog X.w) X.A (call f d) (n8 X a b Q) X.xe s
def ai8(X:Cx)(r:V->Hp->(Bool->Hp->Prop)->Prop):Prop:=
 ∀(a:Y (ab×Obj)) (s:au) (b:St) (H:Hp) (x:V) (v:ae) (Q:Bool->Hp->Prop),Inv X a b H s->RelV x v->r x H Q->
  ao (aD X.prog X.w) X.A (truthy v) (X4 X a b Q) X.xe s
def d9(r:R2)(b tb:TE):TE:=λa H Q=>b a H λx c=>tb a c λy d=>r x y d Q
def M9(r:V->Hp->VK->Prop)(a:TE):TE:=λb H Q=>a b H λx c=>r x c Q
def K8(C:Int->Int->Prop)(g:Int->Int->V):R2:=λx y H Q=>∃i j,x= .int i/\y= .int j/\C i j/\Q (g i j) H
def i5(g:Int->Int->V):R2:=λx y H Q=>∃i j,x= .int i/\y= .int j/\Q (g i j) H
def G9(g:Int->V):V->Hp->VK->Prop:=λx H Q=>∃i,x= .int i/\Q (g i) H
section
variable {X:Cx} {a b c:aZ} {ta tb tc:TE} {pos:Pos}
def CW(m:b3 X a ta)(n:b3 X b tb){d:Y (ab×Obj)}{e:St}{R:V->V->Hp->Prop}(I:Inv X d e H s)(h:ta e H λx l=>tb e l λy g=>R x y g){Q:ae->au->Prop}{f:ae->ae->Sem ae}(o:∀v u k x y g,Inv X d e g k->RelV x v->RelV y u->R x y g->ao (aD X.prog X.w) X.A (f v u) Q X.xe k):
 ao (aD X.prog X.w) X.A (eval a X.env) (λv i=>ao (aD X.prog X.w) X.A (eval b X.env) (λu j=>ao (aD X.prog X.w) X.A (f v u) Q X.xe j) X.xe i) X.xe s:=by
 show aM (m d s e H _ I h) λv p ⟨x,l,q,r,t⟩=> ?_;show aM (n d p e l _ q t) λu k ⟨y,g,w,z,A⟩=> ?_;show o v u k x y g w r z A
def bw{e:Operator}{r:R2}(f:e9 X (iM e) r)(g:b3 X a ta)(i:b3 X b tb):b3 X (.BinOp a e b pos) (d9 r ta tb):=by ext d s j H Q I h;show wpAny_BinOp (CW g i I h λv u k x y l m n o q=>f d k j l x y v u Q m n o q)
def fx(f:W9 X (unaryOp g) r)(i:b3 X a ta):b3 X (.UnaryOp g a pos) (M9 r ta):=by ext d s e H Q I h;show UnaryOp_ (aM (i d s e H _ I h) λv j ⟨x,k,l,m,n⟩=>f d j e k x v Q l m n)
def Dl{f:ae->ae->Sem ae}{C:Int->Int->Prop}{g:Int->Int->Int}(rule:∀(i j:Int) (t u:Tok) (s:au) (Q:ae->au->Prop) (E:ae->au->Prop),C i j->Q (.int (g i j) s.toks) {s with toks:=s.toks+1}->ao (aD X.prog X.w) X.A (f (.int i t) (.int j u)) Q E s):
 e9 X f (K8 C λi j=> .int (g i j)):=by
 ext d s n H x y v u Q I e k h;let⟨i,j,rfl,rfl,l,q⟩:=h;let⟨t,rfl⟩:=e;let⟨m,rfl⟩:=k;show rule i j t m s _ _ l ⟨.int (g i j),H,I.tok _,⟨_,B⟩,q⟩
def mr{f:ae->ae->Sem ae}{g:Int->Int->Int}(rule:∀(i j:Int) (t u:Tok) (s:au) (Q:ae->au->Prop) (E:ae->au->Prop),Q (.int (g i j) s.toks) {s with toks:=s.toks+1}->ao (aD X.prog X.w) X.A (f (.int i t) (.int j u)) Q E s):
 e9 X f (i5 λi j=> .int (g i j)):=by
 ext d s m H x y v u Q I e k h;let⟨i,j,rfl,rfl,q⟩:=h;let⟨t,rfl⟩:=e;let⟨l,rfl⟩:=k;show rule i j t l s _ _ ⟨.int (g i j),H,I.tok _,⟨_,B⟩,q⟩
def xA{f:ae->ae->Sem ae}{g:Int->Int->Bool}(rule:∀(i j:Int) (t u:Tok) (s:au) (Q:ae->au->Prop) (E:ae->au->Prop),Q (.bool (g i j)) s->ao (aD X.prog X.w) X.A (f (.int i t) (.int j u)) Q E s):
 e9 X f (i5 λi j=> .bl (g i j)):=by
 ext d s m H x y v u Q I e k h;let⟨i,j,rfl,rfl,q⟩:=h;let⟨t,rfl⟩:=e;let⟨l,rfl⟩:=k;show rule i j t l s _ _ ⟨.bl (g i j),H,I,B,q⟩
def W0(i j:Int):Prop:=0<=j/\j<=1000000/\i.natAbs<2^64
def aeM(k:Nat):(0:Int)<=2^k:=∅
def fJ:e9 X (iM .Add) (i5 λi j=> .int (i+j)):=mr λ_ _ _ _ _ _ _ q=>add_int q
def jG:e9 X (iM .Sub) (i5 λi j=> .int (i-j)):=mr λ_ _ _ _ _ _ _ q=>sub_int q
def Cd:e9 X (iM .Mod) (K8 (λ_ j=>0<j) λi j=> .int (i % j)):=Dl λi j _ _ _ _ _ d q=>by let e:(0:Int)<j:=d;show mod_int' ⋯ ⋯
def pk:e9 X (iM .LShift) (K8 W0 λi j=> .int (i*2^j.toNat)):=Dl λ_ _ _ _ _ _ _ d q=>lshift_int_small d.1 d.2.1 d.2.2 q
def tu:e9 X (iM .RShift) (K8 (λ_ j=>0<=j) λi j=> .int (i/2^j.toNat)):=Dl λi j _ _ _ _ _ d q=>
 rshift_int d ⋯
def px:e9 X (iM .BitAnd) (i5 λi j=> .int (kR i j)):=mr λ_ _ _ _ _ _ _ q=>and_int q
def abR:e9 X (iM .BitOr) (i5 λi j=> .int (qx i j)):=mr λ_ _ _ _ _ _ _ q=>or_int q
def w_:e9 X (iM .BitXor) (i5 λi j=> .int (mU i j)):=mr λ_ _ _ _ _ _ _ q=>xor_int q
def BL:e9 X (inplaceOp .Add) (i5 λi j=> .int (i+j)):=mr λ_ _ _ _ _ _ _ q=>iadd_int q
def LK:e9 X (inplaceOp .Sub) (i5 λi j=> .int (i-j)):=mr λ_ _ _ _ _ _ _ q=>isub_int q
def Zw:e9 X (inplaceOp .BitAnd) (i5 λi j=> .int (kR i j)):=mr λ_ _ _ _ _ _ _ q=>iand_int q
def MW:e9 X (inplaceOp .BitOr) (i5 λi j=> .int (qx i j)):=mr λ_ _ _ _ _ _ _ q=>ior_int q
def NO{f:ae->Sem ae}{g:Int->Int}(rule:∀(i:Int) (t:Tok) (s:au) (Q:ae->au->Prop) (E:ae->au->Prop),Q (.int (g i) s.toks) {s with toks:=s.toks+1}->ao (aD X.prog X.w) X.A (f (.int i t)) Q E s):
 W9 X f (G9 λi=> .int (g i)):=by
 ext d s j H x v Q I e h;let⟨i,rfl,q⟩:=h;let⟨t,rfl⟩:=e;show rule i t s _ _ ⟨.int (g i),H,I.tok _,⟨_,B⟩,q⟩
def fH:W9 X (unaryOp .USub) (G9 λi=> .int (-i)):=NO λ_ _ _ _ _ q=>neg_int q
def aao:W9 X (unaryOp .Invert) (G9 λi=> .int (mV i)):=NO λ_ _ _ _ _ q=>invert_int q
end
def af6:V->V->Bool
 | .bO, .bO=>aa| .bO, .int _=>aa| .int _, .bO=>aa| .bO, .bl _=>aa| .bl _, .bO=>aa| .bO, .str _=>aa| .str _, .bO=>aa
 | .int _, .int _=>aa| .bl _, .bl _=>aa| .str _, .str _=>aa| .gg _, .gg _=>aa
 | .int _, .str _=>aa| .str _, .int _=>aa| .bl _, .str _=>aa| .str _, .bl _=>aa
 | _,_=>ak
def W4:R2:=λx y H Q=>af6 x y=aa/\Q (.bl (decide (x=y))) H
def W3:R2:=λx y H Q=>af6 x y=aa/\Q (.bl (!decide (x=y))) H
def L_:decide (V.int i=V.int j)=(i==j):=by rw[cE];simp
def Nh:decide (V.bl i=V.bl j)=(i==j):=by rw[cE];simp
def LZ:decide (V.str i=V.str j)=(i==j):=by rw[cE];simp
def Ma:decide (V.gg i=V.gg j)=(i.toList==j.toList):=by rw[cE];cases i;cases j;simp
section
variable {X:Cx} {a b c:aZ} {ta tb tc:TE} {pos:Pos}
def dO(I:Inv X d f H s)(q:Q (.bl k) H)(e:k=g):n8 X d f Q (.bool g) s:=by subst e;show⟨.bl k,H,I,B,q⟩
def dG:e9 X (et .Eq) W4:=by
 ext k s l H x y v u Q I g d h;let⟨f,q⟩:=h;cases x with
 | bO=>
   cases g;cases y with
   | bO=>cases d;show PySem.EqNone.eq_none_none (dO I q ∅)
   | bl j=>cases d;show PySem.EqNone.eq_none_bool (dO I q ∅)
   | int j=>let⟨e,rfl⟩:=d;show PySem.EqNone.eq_none_int (dO I q ∅)
   | str j=>let⟨e,rfl⟩:=d;show PySem.EqNone.eq_none_str (dO I q ∅)
   | _=>show aN (show ak=aa from f) dQ
 | bl i=>
   cases g;cases y with
   | bO=>cases d;show PySem.EqNone.eq_bool_none (dO I q ∅)
   | bl j=>cases d;show eq_bool (dO I q Nh)
   | str j=>let⟨e,rfl⟩:=d;show PySem.EqMixed.eq_bool_str (dO I q ∅)
   | _=>show aN (show ak=aa from f) dQ
 | int i=>
   let⟨t,rfl⟩:=g;cases y with
   | bO=>cases d;show PySem.EqNone.eq_int_none (dO I q ∅)
   | int j=>let⟨e,rfl⟩:=d;show eq_int (dO I q L_)
   | str j=>let⟨e,rfl⟩:=d;show PySem.EqMixed.eq_int_str (dO I q ∅)
   | _=>show aN (show ak=aa from f) dQ
 | str i=>
   let⟨t,rfl⟩:=g;cases y with
   | bO=>cases d;show PySem.EqNone.eq_str_none (dO I q ∅)
   | bl j=>cases d;show PySem.EqMixed.eq_str_bool (dO I q ∅)
   | int j=>let⟨e,rfl⟩:=d;show PySem.EqMixed.eq_str_int (dO I q ∅)
   | str j=>let⟨e,rfl⟩:=d;show eq_str (dO I q LZ)
   | _=>show aN (show ak=aa from f) dQ
 | gg i=>
   let⟨t,rfl⟩:=g;cases y with
   | gg j=>let⟨e,rfl⟩:=d;show PySem.W.eq_bytes (dO I q Ma)
   | _=>show aN (show ak=aa from f) dQ
 | _=>cases y<;>show aN (show ak=aa from f) dQ
def gG:e9 X (et .NotEq) W3:=by
 ext k s l H x y v u Q I g d h;let⟨f,q⟩:=h;cases x with
 | bO=>
   cases g;cases y with
   | bO=>cases d;show PySem.EqNone.ne_none_none (dO I q ∅)
   | bl j=>cases d;show PySem.EqNone.ne_none_bool (dO I q ∅)
   | int j=>let⟨e,rfl⟩:=d;show PySem.EqNone.ne_none_int (dO I q ∅)
   | str j=>let⟨e,rfl⟩:=d;show PySem.EqNone.ne_none_str (dO I q ∅)
   | _=>show aN (show ak=aa from f) dQ
 | bl i=>
   cases g;cases y with
   | bO=>cases d;show PySem.EqNone.ne_bool_none (dO I q ∅)
   | bl j=>cases d;show ne_bool (dO I q (congrArg not Nh))
   | str j=>let⟨e,rfl⟩:=d;show PySem.EqMixed.ne_bool_str (dO I q ∅)
   | _=>show aN (show ak=aa from f) dQ
 | int i=>
   let⟨t,rfl⟩:=g;cases y with
   | bO=>cases d;show PySem.EqNone.ne_int_none (dO I q ∅)
   | int j=>let⟨e,rfl⟩:=d;show ne_int (dO I q (congrArg not L_))
   | str j=>let⟨e,rfl⟩:=d;show PySem.EqMixed.ne_int_str (dO I q ∅)
   | _=>show aN (show ak=aa from f) dQ
 | str i=>
   let⟨t,rfl⟩:=g;cases y with
   | bO=>cases d;show PySem.EqNone.ne_str_none (dO I q ∅)
   | bl j=>cases d;show PySem.EqMixed.ne_str_bool (dO I q ∅)
   | int j=>let⟨e,rfl⟩:=d;show PySem.EqMixed.ne_str_int (dO I q ∅)
   | str j=>let⟨e,rfl⟩:=d;show ne_str (dO I q (congrArg not LZ))
   | _=>show aN (show ak=aa from f) dQ
 | gg i=>
   let⟨t,rfl⟩:=g;cases y with
   | gg j=>let⟨e,rfl⟩:=d;show PySem.W.ne_bytes (dO I q (congrArg not Ma))
   | _=>show aN (show ak=aa from f) dQ
 | _=>cases y<;>show aN (show ak=aa from f) dQ
def gH:e9 X (et .Lt) (i5 λi j=> .bl (decide (i<j))):=xA λ_ _ _ _ _ _ _ q=>lt_int q
def hW:e9 X (et .LtE) (i5 λi j=> .bl (decide (i<=j))):=xA λ_ _ _ _ _ _ _ q=>le_int q
def kl:e9 X (et .Gt) (i5 λi j=> .bl (decide (j<i))):=xA λ_ _ _ _ _ _ _ q=>gt_int q
def lq:e9 X (et .GtE) (i5 λi j=> .bl (decide (j<=i))):=xA λ_ _ _ _ _ _ _ q=>ge_int q
def MN(b:aZ)(h:d≠ .In:=by decide)(g:d≠ .NotIn:=by decide):m_ d b=false:=by let e:(d==CmpOp.In)=false:=∅;let f:(d==CmpOp.NotIn)=false:=∅;cases b<;>simp[m_,e,f]
def wz{e:CmpOp}{r:R2}(f:e9 X (et e) r)(g:b3 X a ta)(i:b3 X b tb)(j:m_ e b=ak):b3 X (.Compare a [e] [b] pos) (d9 r ta tb):=by ext d s k H Q I h;show wpAny_Compare1 (CW g i I h λv u l x y m n o p q=>f d l k m x y v u Q n o p q) j
def T8(t:TE):TT:=λd H Q=>t d H λx e=>∃k,x= .bl k/\Q k e
def BA(j:e9 X (et i) r)(l:b3 X a ta)(m:b3 X b tb)(n:m_ i b=ak):p7 X (.Compare a [i] [b] pos) (T8 (d9 r ta tb)):=by ext d s g H Q I h;show XT (aM (l d s g H _ I h) λv o f=> ?_) n;let⟨x,p,q,t,w⟩:=f;show aM (m d o g p _ q w) λu A f=> ?_;let⟨y,C,D,E,L⟩:=f;show aM (j d A g C x y v u _ D t E L) λc s3 f=> ?_;let⟨z,T,I3,r3,k,e,q3⟩:=f;subst e;cases r3;show kL ⟨T,I3,q3⟩
def P9(r f:R2)(ta tb tc:TE):TE:=λd H Q=>ta d H λx g=>tb d g λy h=>r x y h λz e=>∃k,z= .bl k/\
 (if k=aa then tc d e λi j=>f y i j Q else Q (.bl ak) e)
def Kd(t:e9 X (et m) r)(l:e9 X (et g) w)(A:b3 X a ta)(C:b3 X b tb)(D:b3 X c tc)(E:lastMarks [m,g] [b,c]=false:=by with_unfolding_all rfl):b3 X (.Compare a [m,g] [b,c] pos) (P9 r w ta tb tc):=by
 ext f s i H Q I h;show Compare_chain (aM (A f s i H _ I h) λv L j=> ?_) E;let⟨x,T,I1,r1,q1⟩:=j;show chain_link (aM (C f L i T _ I1 q1) λu s2 j=> ?_);let⟨y,H2,I2,n,q2⟩:=j;show aM (t f s2 i H2 x y v u _ I2 r1 n q2) λd s3 j=> ?_;let⟨z,o,p,r3,k,e,q⟩:=j;subst e;cases r3;show kL ?_;cases k with
 | false=>show ite_ff ⟨.bl ak,o,p,B,q⟩
 | true=>show ite_tt (chain_last (aM (D f s3 i o _ p q) λw' s4 ⟨z',H4,I4,r4,q4⟩=>l f s4 i H4 y z' u w' Q I4 n r4 q4))
def oT(t:e9 X (et m) r)(l:e9 X (et i) w)(A:b3 X a ta)(C:b3 X b tb)(D:b3 X c tc)(E:lastMarks [m,i] [b,c]=false:=by with_unfolding_all rfl):p7 X (.Compare a [m,i] [b,c] pos) (T8 (P9 r w ta tb tc)):=by
 ext f s j H Q I h;show isTrue_chain (aM (A f s j H _ I h) λv L g=> ?_) E;let⟨x,T,I1,r1,q1⟩:=g;show test_link (aM (C f L j T _ I1 q1) λu s2 g=> ?_);let⟨y,H2,I2,n,q2⟩:=g;show aM (t f s2 j H2 x y v u _ I2 r1 n q2) λd s3 g=> ?_;let⟨z,o,p,r3,k,e,q⟩:=g;subst e;cases r3;show kL ?_;cases k with
 | false=>let⟨k',e',q'⟩:=q;cases e';show ite_ff ⟨o,p,q'⟩
 | true=>show ite_tt (test_last (aM (D f s3 j o _ p q) λw' s4 g=> ?_));let⟨z',H4,I4,r4,q4⟩:=g;show aM (l f s4 j H4 y z' u w' _ I4 n r4 q4) λd' s5 g=> ?_;let⟨z2,H5,I5,r5,k2,e2,q5⟩:=g;subst e2;cases r5;show kL ⟨H5,I5,q5⟩
def V6(K:aG)(x:V)(H:Hp)(k:Bool):Prop:=
 match x with
 | .bO=>k=ak
 | .bl b=>k=b
 | .int i=>k=(i !=0)
 | .str y=>y.length<=aV/\k=((y.length:Int) !=0)
 | .gg y=>y.size<=aV/\k=((y.size:Int) !=0)
 | .ref p=>(∃d,SqL K H p d/\k= !d.isEmpty)\/(∃d,d7 K H p d/\k= !d.isEmpty)\/∃e,H p=J (.dK e)/\k= !e.isEmpty
 | _=>False
def SX(r:i7 d e):(!e.isEmpty)= !d.isEmpty:=by cases r<;>rfl
def Hz(r:Vals e d):(!d.toArray.isEmpty)= !e.isEmpty:=by cases r<;>simp
def qY:(aV:Nat)<2^63:=⋯
def Mz:ai8 X (λx H Q=>∃k,V6 X.K x H k/\Q k H):=by
 ext u s E H x v Q I l h;let⟨k,e,q⟩:=h;let L:=qY;let T:aV=16777216:=bM;cases x with
 | bO=>cases l;let d:k=false:=e;subst d;show truthy_none ⟨H,I,q⟩
 | bl b=>cases l;let d:k=b:=e;subst d;show kL ⟨H,I,q⟩
 | int i=>let⟨t,rfl⟩:=l;let d:k=(i !=0):=e;subst d;show PySem.P.truthy_int ⟨H,I,q⟩
 | str y=>let⟨t,rfl⟩:=l;obtain⟨C,d⟩:y.length<=aV/\k=((y.length:Int) !=0):=e;subst d;show PySem.P.truthy_str ⋯ ⟨H,I.tok _,q⟩
 | gg y=>let⟨t,rfl⟩:=l;obtain⟨C,d⟩:y.size<=aV/\k=((y.size:Int) !=0):=e;subst d;show PySem.W.truthy_bytes ⋯ ⟨H,I.tok _,q⟩
 | ref p=>
   cases l;let d:(∃j,SqL X.K H p j/\k= !j.isEmpty)\/(∃j,d7 X.K H p j/\k= !j.isEmpty)\/∃f,H p=some (.dK f)/\k= !f.isEmpty:=e;obtain⟨j,n,d⟩| ⟨j,n,d⟩| ⟨f,n,d⟩:=d
   ·subst d;let⟨w,r,z,A⟩:=I.list n;let g:=r.length;show wpAny_truthy_list z.isList ⋯ ⟨H,I.tok _,by rw[Hz r];show q⟩
   ·subst d;let⟨w,r,z,A⟩:=I.tuple n;let g:=r.length;show truthy_tuple z ⋯ ⟨H,I.tok _,by rw[Hz r];show q⟩
   ·subst d;obtain⟨A,D,o,r,m⟩:f.length<=aV/\(p==fu)=false/\∃o,i7 f o/\s.heap.DictOf (g8 X.prog X.w) p o:=I.aQ p _ n;let g:f.length=o.length:=iE r;show wpAny_truthy_dict D m ⋯ ⟨H,I.tok _,by rw[SX r];show q⟩
 | _=>show(show False from e).elim
def Wo(g:b3 X a ta)(i:∀whole,rj a X.env whole=(do let v<-whole;ml a.pos;fW [v] (truthy v))):
 p7 X a (λe H Q=>ta e H λx f=>∃k,V6 X.K x f k/\Q k f):=by
 ext d s e H Q I h;show isTrue_plain (aM (g d s e H _ I h) λv j ⟨x,l,m,n,o⟩=>Mz d j e l x v Q m n o) (i _)
def vals1(r:Vals [x] d):∃u,d= [u]/\RelV x u:=by
 cases r with
 | cons e f=>cases f;show⟨_,B,e⟩
def vals2(r:Vals [x,y] e):∃u d,e= [u,d]/\RelV x u/\RelV y d:=by
 cases r with
 | cons f g=>
   cases g with
   | cons h i=>cases i;show⟨_,_,B,f,h⟩
def Bp:i3 X (.builtin "abs") (λe H Q=>∃i,e= [.int i]/\Q (.int (if i<0 then-i else i)) H):=by ext d s f H e g Q I r h;let⟨i,rfl,q⟩:=h;let⟨u,rfl,t,rfl⟩:=vals1 r;show call_abs_int λu j=>⟨.int (if i<0 then-i else i),H,I.tok _,⟨_,B⟩,q⟩
def lZ:i3 X (.builtin "ord") (λe H Q=>∃x,e= [.str x]/\x.length=1/\Q (.int (x.cps.getD 0 0:Nat)) H):=by ext d s g H e i Q I r h;let⟨x,rfl,f,q⟩:=h;let⟨u,rfl,t,rfl⟩:=vals1 r;show ord_of_one f ⟨.int _,H,I.tok _,⟨_,B⟩,q⟩
end
structure pN(h:bA)(x dx C:ab)(mA:Str->az ae):Prop where
 obj:h.get? x=J (oC C dx)
 ns:h.Ns1 dx mA
 ne:dx≠x
def UJ{h:bA}(n:h.Ns1 f g):∃c,h.get? f=J c/\∀name,zF name c=J (g name):=by
 let⟨o,d,r,i,j,k,_,l⟩:=n;show⟨o,i,λname=> ?_⟩;let e:=l name;delta nsFind findBy at e;rw[<-Array.find?_toList] at e;delta zF;rw[j];dsimp only;split
 ·cbv
 ·rename_i q;rw[q] at e;let a:d.toList.any (·.refKey)=false:=by rw[XQ];ext y m;let⟨z,t,b⟩:=k y (Array.mem_toList_iff.mp m);simp[DictEntry.refKey,b]
  let p:¬d.toList.any (·.refKey)=true:=⋯;rw[aj p];show congrArg J e
def pN.look(I:pN h x b C c):∃a,PySem.W.InstAt h x (oC C b) C (J a)/\∀name,zF name a=J (c name):=
 let⟨a,d,e⟩:=UJ I.ns
 ⟨a,⟨I.obj,B,B,d⟩,e⟩
section
variable {prog:bD} {w:bf} {A:bY} {E:ae->au->Prop} {s:au} {K:aG} {x dx C f:ab} {mA:Str->az ae} {name:Str} {v:ae}
def get_map(X:K.In s.heap)(I:pN s.heap x dx C mA)(d:yW K C name=aa)(e:FR K C=aa)(g:lL K (.ref C) name=J ah)(i:mA name=J v)(b:Vx v=aa)(h:Q v {s with toks:=s.toks+1}):
 ao (aD prog w) A (getAttr (.ref x) name c) Q E s:=by
 let⟨j,a,k⟩:=I.look;show PySem.W.get_value X a (EV d).1 (PySem.W.findObj_own e g B ∅) b h
def Xe(X:K.In s.heap)(I:pN s.heap x dx C mA)(b:yW K C name=aa)(c:lL K (.ref C) name=J (J (.ref f)))(d:Jz K (.ref f)=aa)(e:mA name=ah)(h:Q (.ref f, [.ref x]) s):
 ao (aD prog w) A (getMethod (.ref x) name j) Q E s:=by
 let⟨g,a,i⟩:=I.look;show PySem.W.method_fn X a (EV b).1 (EV b).2 c (eU.mp d) (by change(zF name g).map (·.isSome)=J ak;rw[i,e];rfl) h
def Ys(X:K.In s.heap)(I:pN s.heap x dx C mA)(l:lL K (.ref C) "__setattr__"=J (J (.builtin "object.__setattr__")))(m:TC K C=aa)(n:GL K C name=J ah)(o:FR K C=aa)(p:KW mA q)(r: ⇑q<=aV)(h:∀e,pN e x dx C (λy=>if y=name then J v else mA y)->jz dx s.heap e->Q () {s with heap:=e,toks:=s.toks+2}):
 ao (aD prog w) A (setAttr (.ref x) name v) Q E s:=by
 let⟨H,a,L⟩:=I.look;show PySem.W.set_plain X a l (PySem.W.osa_open (s:={s with toks:=s.toks+1}) (r:=ah) X a m n λb=> ?_);let⟨cd,t,g⟩:=PySem.W.any_some o;let u:s.heap.get? x=J ⟨.ref C,J dx, .plain, #[]⟩:=I.obj;show ag (ax (ag (ag (wpAny_loadPart u (ag (PySem.W.Looks.here (s:={s with toks:=s.toks+1}) (PySem.W.looks_clsIn X t) ?_))))));rw[g];show ax (a:=J dx) (ag (ax (ag ?_)));show wpAny_nsSet1 (s:={s with toks:=s.toks+1}) I.ns λe c d=> ?_;let⟨T,z,D,i,j,k⟩:=c.count (PySem.Within.cons name v p);show ag (wpAny_lookBehind i (by rw[j];show pastItsLine_dict (da k (by rw[cX];cbv))) ?_);show ax (h _ ⟨(d.2 _ (eF I.ne)).trans I.obj,c,I.ne⟩ d)
def WW(X:K.In s.heap)(c:VE K C=aa)(e:lL K (.ref C) "__init__"=J (J (.ref f)))(i:PySem.W.typeIn K (.ref f)=J (.type "function"))(h:iP (aD prog w) (A.under (.builtin "type.__call__" ⟨.ref C::a,b⟩)) (.call (.ref f) ⟨.ref (↥s+1)::a,b⟩) (PySem.W.InitBack (↥s+1) R)
  {s with heap:=(s.heap.push mL).push (oC C ↥s)}):
 iP (aD prog w) A (.call (.ref C) ⟨a,b⟩) R s:=by
 let⟨j,g,d,t,os⟩:=s;show PySem.W.make_core (PySem.W.makes_of X c) (PySem.W.looks_findIn X e) (λself=>PySem.W.bind_fn X self i) (.inl B) h
end
def n3(f:Str)(v:V):Y (Str×V)->Y (Str×V)
 | []=> [(f,v)]
 | (g,x)::r=>if g=f then(g,v)::r else(g,x)::n3 f v r
def Gn(f g:Str)(v:V):∀a:Y (Str×V),(n3 f v a).lookup g=if g=f then J v else a.lookup g
 | []=>by
   change List.lookup g [(f,v)]=_;cases h:g=f
   ·cbv
   ·cbv
 | (k,x)::r=>by
   let b:=Gn f g v r;rw[show n3 f v ((k,x)::r)=(if k=f then(k,v)::r else(k,x)::n3 f v r)from B];cases c:k=f
   ·lk
   ·lk
def AD(f:Str)(v:V):∀a:Y (Str×V),f∈(n3 f v a).map (·.1)/\∀g,g∈a.map (·.1)->g∈(n3 f v a).map (·.1)
 | []=>⟨by simp[n3],λg h=>∅⟩
 | (k,x)::r=>by
   let⟨b,c⟩:=AD f v r;rw[show n3 f v ((k,x)::r)=(if k=f then(k,v)::r else(k,x)::n3 f v r)from B];cases d:k=f
   ·lk
   ·lk
def Gp(f:Str)(v:V):∀a:Y (Str×V),⇑(n3 f v a)<= ⇑a+1
 | []=>by simp[n3]
 | (k,x)::r=>by
   let b:=Gp f v r;rw[show n3 f v ((k,x)::r)=(if k=f then(k,v)::r else(k,x)::n3 f v r)from B];cases c:k=f
   ·cbv
   ·cbv
def p6.some_of(r:p6 (J v) o):∃u,o=J u/\RelV v u:=by
 cases o with
 | none=>show(show False from r).elim
 | some u=>show⟨u,B,r⟩
def p6.none_of(r:p6 ah o):o=none:=by
 cases o with
 | none=>rfl
 | some u=>show(show False from r).elim
def UW(r:RelV v u):Vx u=true:=by
 cases v with
 | bO=>cases(show u=ft from r);rfl
 | bl b=>cases(show u=lV b from r);rfl
 | int i=>let⟨t,e⟩:=(show∃t,u=jC i t from r);cases e;rfl
 | str x=>let⟨t,e⟩:=(show∃t,u=we x t from r);cases e;rfl
 | gg b=>let⟨t,e⟩:=(show∃t,u=Value.bytes b t from r);cases e;rfl
 | oh b=>let⟨t,e⟩:=(show∃t,u=Lb b t from r);cases e;rfl
 | ref a=>cases(show u=bK a from r);rfl
 | ty n=>cases(show u=sD n from r);rfl
section
variable {P:bD} {w:bf} {H H':Hp} {h h':bA} {a C dx:ab} {fs fs':Y (Str×V)}
def wG(c:i6 P w H h)(e:H a=J (.ins C dx fs)):∃b,pN h a dx C b/\(∀f,p6 (fs.lookup f) (b f))/\KW b (fs.map (·.1))/\ ⇑fs<=1000/\H dx=J (.own a):=by let⟨d,z,g,i,b,n,r,q⟩:=(show f7 P w H h a (.ins C dx fs)from c a _ e);show⟨b,⟨i,n,g⟩,r,q,z,d⟩
end
structure jm(K:aG)(C:ab):Prop where
 pg:yW K C Str.empty=aa
 hd:FR K C=aa
 po:TC K C=aa
 sa:lL K (.ref C) "__setattr__"=J (J (.builtin "object.__setattr__"))
def jm.get{K:aG}{C:ab}(c:jm K C)(f:Str):yW K C f=true:=c.pg
def O4(K:aG)(C:ab)(f:Str):Prop:=lL K (.ref C) f=J ah
def O4.abI{K:aG}{C:ab}{f:Str}(n:O4 K C f):GL K C f=J none:=by delta GL;rw[show lL K (.ref C) f=J ah from n];rfl
structure Meth(K:aG)(C:ab)(m:Str)(f:ab):Prop where
 at_:lL K (.ref C) m=J (J (.ref f))
 fn:Jz K (.ref f)=aa
 kp:oE K (.ref f)=aa
section
variable {X:Cx} {kP:Y (ab×Obj)} {σ:St} {H:Hp} {s:au} {a C dx:ab} {fs:Y (Str×V)} {f:Str} {v:V} {A:bY} {E:ae->au->Prop}
def Ta(I:Inv X kP σ H s)(e:H a=J (.ins C dx fs))(c:jm X.K C)(n:O4 X.K C f)(l:fs.lookup f=J v)(h:∀u g,Inv X kP σ H g->RelV v u->Q u g):ao (aD X.prog X.w) A (getAttr (.ref a) f b) Q E s:=by let⟨j,d,r,_,_,_⟩:=wG I.aQ e;let⟨u,k,i⟩:=p6.some_of (v:=v) (o:=j f) ⋯;show get_map I.ee d (c.get f) c.hd n k (UW i) (h u _ (I.tok _) i)
def HA(I:Inv X kP σ H s)(e:H a=J (.ins C dx fs))(c:jm X.K C)(k:Meth X.K C m g)(l:fs.lookup m=ah)(h:Q (.ref g, [.ref a]) s):ao (aD X.prog X.w) A (getMethod (.ref a) m j) Q E s:=by let⟨d,b,r,_,_,_⟩:=wG I.aQ e;let i:d m=none:=p6.none_of ⋯;show Xe I.ee b (c.get m) k.at_ k.fn i h
def Su(I:Inv X kP σ H s)(e:H a=J (.ins C dx fs))(c:jm X.K C)(n:O4 X.K C f)(hl: ⇑fs<1000)(p:RelV y u)(h:∀j,Inv X kP σ (upd H a (.ins C dx (n3 f y fs))) j->Q () j):ao (aD X.prog X.w) A (setAttr (.ref a) f u) Q E s:=by
 let⟨k,d,r,l,_,m⟩:=wG I.aQ e;let t: ⇑(fs.map (·.1))<=aV:=by rw[aF,bM];lk
 show Ys I.ee d c.sa c.po n.abI c.hd l t λw i x=>h _ ?_;let D:∃o,w.get? dx=J o:=let⟨o,_,_,L,_⟩:=i.ns;⟨o,L⟩;show I.write (x:=a) (e:=dx) (by rw[e];show cM) (.inr m) (λb q T z=>(x.2 b T).trans z) D ?_;show⟨by rw[aS d.ne];show m,?_,d.ne,i.obj,_,i.ns,λg=> ?_,λg hg=> ?_⟩
 ·have:=Gp f y fs;lk
 ·change p6 ((n3 f y fs).lookup g) (if g=f then J u else k g);rw[Gn];cases q:g=f
  ·rw[ar q,ar q];show p
  ·cbv
 ·cases q:g=f
  ·rw[q];show(AD f y fs).1
  ·show(AD f y fs).2 g (l g λz=>hg ?_);change(if g=f then J u else k g)=ah;rw[aj q];show z
def Inv.made(I:Inv X kP σ H s):Inv X kP σ (upd (upd H ↥s (.own (↥s+1))) (↥s+1) (.ins C ↥s []))
 {s with heap:=(s.heap.push mL).push (oC C ↥s)}:=by
 have c:(s.heap.push mL).get? ↥s=J mL:=cg s.heap B;let g:((s.heap.push mL).push (oC C ↥s)).get? (↥s+1)=J (oC C ↥s):=by
  have:=cg (s.heap.push mL) (o:=oC C ↥s) B
  rwa [fC] at this
 let h:(s.heap.push mL).Ns ↥s (λ_=>ah):=⟨mL, #[],_,c,B,(λe i=>aN i ∅),λ_=>B⟩;let j:=I.laid (a:=↥s) (o:= .own (↥s+1)) (h':=s.heap.push mL) (t':=s.toks) (λb u q=>bQ _ q) (br _) ⟨_,c⟩;show j.laid (a:=↥s+1) (o:= .ins C ↥s []) (t':=s.toks) (λb u q=>bQ _ q) (sj (fC _ _)) ?_;let d: ↥s≠ ↥s+1:=cK (uO _);show⟨by rw[aS d,bg],eT _,d,g,λ_=>ah,(Heap.Ns1.of_empty h).at λo q=>bQ _ q,λ_=>cM,λy k=>aN B k⟩
def ZS(g:jY e f b (eval e b)=eval e b)(h:ao (aD c w) A (eval e b) (λo d=>ao (aD c w) A (getAttr o f aa) Q E d) E s):ao (aD c w) A (eval (.Attribute e f i) b) Q E s:=
 Attribute_any_ h (by rw[arm_eval_Attribute,g])
end
def M5(K:aG)(d:TE)(f:Str):TE:=λe H Q=>d e H λx b=>∃a C g c v,x= .ref a/\b a=J (.ins C g c)/\jm K C/\O4 K C f/\c.lookup f=J v/\Q v b
def V3(K:aG)(g h:TE)(f:Str):TS:=λD b H=>h b H λy i=>g b i λx d=>∃a C e c,x= .ref a/\d a=J (.ins C e c)/\jm K C/\O4 K C f/\ ⇑c<1000/\
 D.nx b (upd d a (.ins C e (n3 f y c)))
section
variable {X:Cx} {o e value:aZ} {f:Str} {pos pos' tR:Pos} {ta tv:TE}
def aaM(d:b3 X e ta)(g:jY e f X.env (eval e X.env)=eval e X.env):b3 X (.Attribute e f pos) (M5 X.K ta f):=by ext b s i H Q I h;show ZS g (aM (d b s i H _ I h) λu z j=> ?_);let⟨x,k,m,p,a,C,A,D,v,r,t,c,n,l,q⟩:=j;subst r;obtain rfl:u=bK a:=p;show Ta m t c n l λE L w y=>⟨v,k,w,y,q⟩
def aaE(i:b3 X o ta)(j:b3 X value tv)(k:nu value (J (.Attribute o f pos')) pos.line X.env=pure ak):m9 X (.Assign [.Attribute o f pos'] value pos) (V3 X.K ta tv f):=by ext b s d H D I h;show plainObj_wpAny_Assign_Attribute (aM (j b s d H _ I h) λu m g=> ?_) k;let⟨y,p,r,t,q⟩:=g;show aM (i b m d p _ r q) λv T g=> ?_;let⟨x,H2,w,z,a,C,dx,fs,A,E,c,n,l,L⟩:=g;subst A;obtain rfl:v=bK a:=z;show Su w E c n l t λs3 Q=>⟨d,_,Q,L⟩
end
section
variable {X:Cx} {kP:Y (ab×Obj)} {σ:St} {H:Hp} {s:au} {A:bY} {E:ae->au->Prop} {Q:ae->au->Prop} {c:ae} {b:Bool}
inductive iS(K:aG)(H:Hp):V->ae->Prop where
 | bO:iS K H .bO (.type "NoneType")
 | bl (x:Bool):iS K H (.bl x) (.type "bool")
 | int (i:Int):iS K H (.int i) (.type "int")
 | str (x:Str):iS K H (.str x) (.type "str")
 | oh (x:UInt64):iS K H (.oh x) (.type "float")
 | lst {a:ab} {xs:Y V} (e:H a=J (.lst xs)):iS K H (.ref a) (.type "list")
 | cx {a:ab} {o:Obj} {xs:Y V} (e:H a=J (.cx o (.lst xs))):iS K H (.ref a) (.type "list")
 | tup {a:ab} {xs:Y V} (e:H a=J (.tup xs)):iS K H (.ref a) (.type "tuple")
 | dK {a:ab} {ck:Y (Key×V)} (e:H a=J (.dK ck)):iS K H (.ref a) (.type "dict")
 | dT {a:ab} {ck:Y (Y Key×V)} (e:H a=J (.dT ck)):iS K H (.ref a) (.type "dict")
 | ins {a C dx:ab} {fs:Y (Str×V)} (e:H a=J (.ins C dx fs)) (cl:jm K C) (ha:lL K (.ref C) "__class__"=J (J (.builtin "object.__class__")))
    (hn:PySem.W.specialIn K (.builtin "object.__class__") "__get__"=J (J (.builtin "getset_descriptor.__get__"))) (htk:PySem.W.takesIn K (.builtin "object.__class__")=J aa)
    (hm:PySem.W.mroIn K C (.type "object")=J aa):iS K H (.ref a) (.ref C)
def US(I:Inv X kP σ H s)(g:RelV x u)(D:iS X.K H x t)(e:HV X.K t c=J b)(h:∀L,Q (.bool b) {s with toks:=L}):
 ao (aD X.prog X.w) A (call (.builtin "isinstance") [u,c]) Q E s:=by
 cases D with
 | bO=>cases(show u=ft from g);show kO PySem.W.kitx_none I.ee cM e (λz=>nomatch z) h
 | bl y=>cases(show u=lV y from g);show kO PySem.W.kitx_bool I.ee cM e (λz=>nomatch z) h
 | int i=>let⟨t,q⟩:=(show∃t,u=jC i t from g);cases q;show kO PySem.W.kitx_int I.ee cM e (λz=>nomatch z) h
 | str y=>let⟨t,q⟩:=(show∃t,u=we y t from g);cases q;show kO PySem.W.kitx_str I.ee cM e (λz=>nomatch z) h
 | oh y=>let⟨t,q⟩:=(show∃t,u=Lb y t from g);cases q;show kO PySem.W.kitx_float I.ee cM e (λz=>nomatch z) h
 | @lst a m j=>cases(show u=bK a from g);let⟨_,_,n,_,k⟩:=(show f7 X.prog X.w H s.heap a (.lst m)from I.aQ a _ j);show kO TF I.ee ⟨_,k,B⟩ e (λz=>nomatch z) h
 | @cx a T m j=>cases(show u=bK a from g);let⟨_,_,_,n,_,k⟩:=(show f7 X.prog X.w H s.heap a (.cx T (.lst m))from I.aQ a _ j);show kO TF I.ee ⟨_,k,B⟩ e (λz=>nomatch z) h
 | @tup a m j=>cases(show u=bK a from g);let⟨_,_,_,p⟩:=(show f7 X.prog X.w H s.heap a (.tup m)from I.aQ a _ j);let⟨o,k,r,_⟩:=p;show kO PySem.W.kitx_tuple I.ee ⟨o,k,r⟩ e (λz=>nomatch z) h
 | @dK a l j=>cases(show u=bK a from g);let⟨_,_,vs,_,p⟩:=(show f7 X.prog X.w H s.heap a (.dK l)from I.aQ a _ j);let⟨o,es,ep,k,r,_⟩:=p;show kO TH I.ee ⟨o,k,r.1⟩ e (λz=>nomatch z) h
 | @dT a l j=>cases(show u=bK a from g);let⟨_,_,m,_,o,es,ep,k,r,_⟩:=(show f7 X.prog X.w H s.heap a (.dT l)from I.aQ a _ j);show kO TH I.ee ⟨o,k,r.1⟩ e (λz=>nomatch z) h
 | @ins a C dx fs j w ha hn v hm=>cases(show u=bK a from g);let⟨mA,d,_⟩:=wG I.aQ j;let⟨od,f,_⟩:=d.look;show kO (PySem.W.kitx_own (w.get _) w.hd ha hn v hm) I.ee f e (λz=>nomatch z) h
end
structure cS(k:Nat)(A:bY):Prop where
 hd:A.handled=ah
 dp:A.depth+3*k+5<recursionLimit
 un:A.units+16*k+200<ey
def cS.mono(r:cS k A)(h:j<=k):cS j A:=⟨r.hd,by have:=r.dp;lk,by have:=r.un;lk⟩
def cS.deeper(r:cS (k+1) A)(a:Env):cS k (A.deeper a):=
 ⟨r.hd,by have:=r.dp;change A.depth+1+3*k+5<_;lk,by have:=r.un;change A.units+3+16*k+200<_;lk⟩
def SO{A:bY}:(A.under (.builtin "type.__call__" ⟨.ref C::a,b⟩)).depth=A.depth+1:=by
 first| rfl| simp[JE,Code.weight,Code.isCreation,Code.isGuard,Code.isCaller,Code.frames,KZ,guardIds]
def SN{A:bY}:(A.under (.builtin "type.__call__" ⟨.ref C::a,b⟩)).units=A.units+1:=by
 first| rfl| simp[JE,Code.cUnits,Code.frames,KZ]
def cS.make(r:cS (k+1) A)(C:ab)(a:Y ae)(b:Y (Str×ae)):cS k (A.under (.builtin "type.__call__" ⟨.ref C::a,b⟩)):=
 ⟨r.hd,by have:=r.dp;rw[SO];lk,by have:=r.un;rw[SN];lk⟩
def cS.depth(r:cS k A):A.depth<recursionLimit:=by have:=r.dp;lk
def cS.units(r:cS k A):A.units+64<ey:=by have:=r.un;lk
def c7:TA:=λ_ H Q=>Q [] H
def b8(b:TE)(c:TA):TA:=λa H Q=>b a H λx d=>c a d λe f=>Q (x::e) f
section
variable {X:Cx} {e:aZ} {es:Y aZ} {te:TE} {t:TA} {pos:Pos}
def cQ:j2 X [] c7:=λ_ _ _ _ H Q I h=>VI ⟨[],H,I, .nil,h⟩
def dM(c:b3 X e te)(d:j2 X es t)(f:aH (e::es) X.env=(ak,eval e X.env)::aH es X.env:=by rfl):j2 X (e::es) (b8 te t):=by ext pos a s b H Q I h;rw[f];change ao _ _ (spliced ((ak,eval e X.env)::dh pos (aH es X.env))) _ _ s;show FU (aM (c a s b H _ I h) λu g ⟨x,i,j,k,l⟩=> ?_);show aM (d pos a g b i _ j l) λr v ⟨m,n,o,p,q⟩=>⟨x::m,n,o, .cons k p,q⟩
def U9(t:TA):TE:=λc H Q=>t c H λa b=> ⇑a<=aV/\∀p,b p=ah->Q (.ref p) (upd b p (.tup a))
def M3(t:TA):TE:=λc H Q=>t c H λa b=> ⇑a<=aV/\∀p,b p=ah->Q (.ref p) (upd b p (.lst a))
def fI(h:j2 X es t):b3 X (.Tuple es m pos) (U9 t):=by ext a s g H Q I i;show wpAny_Tuple_spliced (aM (h pos a s g H _ I i) λj c ⟨k,d,f,r,z,q⟩=>⟨by rw[<-r.length];show z,?_⟩);let l:d ↥c=none:=f.aQ.fresh (br _);show⟨.ref ↥c,upd d ↥c (.tup k),f.laid (t':=c.toks) (λb u e=>bQ _ e) (br _) ?_,B,q _ l⟩;show⟨z,j,r,⟨_,cg _ B,B,_,B⟩⟩
def aY(h:j2 X es t):b3 X (.List es pos) (M3 t):=by ext a s g H Q I i;show wpAny_List_spliced (aM (h pos a s g H _ I i) λj c ⟨k,d,f,r,z,q⟩=>⟨by rw[<-r.length];show z,?_⟩);let l:d ↥c=none:=f.aQ.fresh (br _);show⟨.ref ↥c,upd d ↥c (.lst k),f.laid (t':=c.toks) (λb u e=>bQ _ e) (br _) ?_,B,q _ l⟩;show⟨z,j,0,r,cg _ B⟩
end
abbrev Sp:=Y V->Hp->VK->XK->Prop
abbrev jn:=Y Env->Hp->au->XK->ae->au->Prop
structure pO(P:bD)(w:bf)(K:aG)(mg:Str->az ae)(base:bA)(A:bY)(outer:Y Env)(s:au)(H:Hp):Prop where
 frames:A.frames=J outer
 mod:Mod K mg base
 bs:∀b o,base.get? b=J o->s.heap.get? b=J o/\H b=ah
 mC:base.objs.size<= ↥s
 jK:s.heap.FunFrames base outer
 pY:∀b∈E9 outer,H b=ah
 aQ:i6 P w H s.heap
 bare:rb s.gens
def ab9(a:Y Env)(P:bD)(w:bf)(H:Hp)(s:au)(Q:VK)(u:ae)(b:au):Prop:=
 ∃v c,b.os=s.os/\rb b.gens/\Un (E9 a) [] H c s.heap b.heap/\i6 P w c b.heap/\RelV v u/\Q v c
def n9(c:jn)(a:Y Env)(P:bD)(w:bf)(H:Hp)(s:au)(Q:VK)(E:XK)(r:tW)(b:au):Prop:=
 match r with
 | .ok (.ret u)=>ab9 a P w H s Q u b
 | .ok _=>False
 | .error e=>c a H s E e b
structure dY(P:bD)(w:bf)(K:aG)(mg:Str->az ae)(base:bA)(CX:jn)(k:Nat)(f:ab)(fd:gz)(ps:Y Str)(sp:Sp):Prop where
 len:∀vs H Q E,sp vs H Q E-> ⇑vs=⇑ps
 run:∀(A:bY) (outer:Y Env) (s:au) (H:Hp) (args:Args) (us:Y ae) (vs:Y V) (Q:VK) (E:XK),cS k A->pO P w K mg base A outer s H->ra s fd args (ps.zip us)->Vals vs us->sp vs H Q E->
  iP (aD P w) A (.call (.ref f) args) (n9 CX outer P w H s Q E) s
def dY.mono{P:bD}{w:bf}{K:aG}{c:Str->az ae}{a:bA}{d:jn}{j k:Nat}{f:ab}{e:gz}{g:Y Str}{i:Sp}(F:dY P w K c a d j f e g i)(h:j<=k):
 dY P w K c a d k f e g i:=⟨F.len,λA b s H args l m Q E n=>F.run A b s H args l m Q E (n.mono h)⟩
def dY.imp{P:bD}{w:bf}{K:aG}{e:Str->az ae}{a:bA}{g:jn}{k:Nat}{f:ab}{i:gz}{j:Y Str}{l d:Sp}(F:dY P w K e a g k f i j l)(h:∀c H Q E,d c H Q E->l c H Q E):dY P w K e a g k f i j d:=
 ⟨λc H Q E q=>F.len c H Q E (h _ _ _ _ q),λA b s H args m c Q E n o p r t=>F.run A b s H args m c Q E n o p r (h _ _ _ _ t)⟩
def pO.make{P:bD}{w:bf}{K:aG}{c:Str->az ae}{b:bA}{A:bY}{a:Y Env}{s:au}{H:Hp}(e:pO P w K c b A a s H)(C:ab)(d:Y ae)(f:Y (Str×ae)):
 pO P w K c b (A.under (.builtin "type.__call__" ⟨.ref C::d,f⟩)) a s H:=⟨by first| show e.frames| (simpa[JE,Code.envs,KZ,pushEnvs] using e.frames),e.mod,e.bs,e.mC,e.jK,e.pY,e.aQ,e.bare⟩
section
variable {X:Cx} {kP:Y (ab×Obj)} {σ:St} {H:Hp} {s s':au}
def Inv.NL(I:Inv X kP σ H s):pO X.prog X.w X.K X.mg X.base X.A X.stack s H:=
 ⟨I.ok.frames,I.ok.mod,I.bs,da I.ok.mC I.sz,I.stack,I.Lp,I.aQ,I.bare⟩
def Inv.after(I:Inv X kP σ H s)(h:ab9 X.stack X.prog X.w H s Q u s'):n8 X kP σ Q u s':=by let⟨v,f,os,a,i,c,r,q⟩:=h;let⟨j,g,d,t,e⟩:=s';obtain rfl:e=s.os:=os;show⟨v,f,I.call (h':=j) (g':=g) (d':=d) (t':=t) (ch:= []) i c a (λb z=>aN z ∅),r,q⟩
end
def v9(b:Sp)(a:Y V)(E:XK)(t:TA):TE:=λc H Q=>t c H λd e=>b (d++a) e Q E
def u5(C:ab)(m:Str)(f:Sp)(b:Y V)(E:XK)(g:TE)(t:TA):TE:=λc H Q=>g c H λx d=>∃a h e,x= .ref a/\d a=J (.ins C h e)/\e.lookup m=ah/\
 t c d λi j=>f (x::(i++b)) j Q E
def B9(C:ab)(d:Sp)(b:Y V)(E:XK)(t:TA):TE:=λe H Q=>t e H λf c=>∀x a,c x=ah->c a=ah->a≠x->
 d (.ref x::(f++b)) (upd (upd c a (.own x)) x (.ins C a [])) (λv g=>v= .bO/\Q (.ref x) g) E
/---/def Binds(K:aG)(d:gz)(b:Y Str)(c:Y ae):Prop:=
 ∀(s:au) (a:Y ae),K.In s.heap-> ⇑(a++c)=⇑b->ra s d ⟨a, []⟩ (b.zip (a++c))
def Binds.all{K:aG}{c:gz}{b:Y Str}(h:∀a:Y ae,⇑a=⇑b->xr c ⟨a, []⟩=pure (b.zip a)):Binds K c b []:=λs a _ d=>by rw[eS] at d⊢;show .of_eq (h a d)
/---/def Passes(c:jn)(X:Cx)(E:XK):Prop:=∀(a:Y (ab×Obj)) (d:St) (H:Hp) (s:au) (e:ae) (b:au),Inv X a d H s->c X.stack H s E e b->X.xe e b
section
variable {X:Cx} {CX:jn} {k:Nat} {f C:ab} {fd:gz} {ps:Y Str} {sp:Sp} {gM:Y V} {ds:Y ae} {E:XK} {x m:Str} {p pos cO:Pos} {e o:aZ} {es:Y aZ} {ta:TE} {t:TA}
def wV(F:dY X.prog X.w X.K X.mg X.base CX k f fd ps sp)(g:cS k X.A)(i:Binds X.K fd ps ds)(j:Vals gM ds)(l:Passes CX X E)(I:Inv X a c H s)(r:Vals vs us)(h:sp (vs++gM) H Q E):ao (aD X.prog X.w) X.A (call (.ref f) us) (n8 X a c Q) X.xe s:=by
 let d:Vals (vs++gM) (us++ds):=r.append j;let n: ⇑(us++ds)=⇑ps:=by rw[<-d.length];show F.len _ _ _ _ h
 show Cp (sA (F.run X.A X.stack s H ⟨us, []⟩ (us++ds) (vs++gM) Q E g I.NL (i s us I.ee n) d h) λr q b=> ?_);cases r with
 | error e=>show l a c H s e q I b
 | ok v=>
   cases v with
   | ret u=>show I.after b
   | next=>show gZ b
   | brk=>show gZ b
   | cont=>show gZ b
def YL(F:dY X.prog X.w X.K X.mg X.base CX k f fd ps sp)(g:cS k X.A)(i:k4 X x)(j:X.mg x=J (.ref f))(l:oE X.K (.ref f)=aa)(n:Binds X.K fd ps ds)(u:Vals gM ds)(v:Passes CX X E)(w:j2 X (e::es) t)(b:(x==("__debug__":Str))=false:=by decide)(y:aH (e::es) X.env=(ak,eval e X.env)::aH es X.env:=by rfl)(c:(dh pos (aH es X.env)).any (·.1)=false:=by rfl):
 b3 X (.Call (.Name x p) (e::es) [] pos) (v9 sp gM E t):=by
 ext a s z H Q I h;show ow (sU I i j ?_ b);show yH (h₀:=X.base) I.ok.mod.rr l (aM (w pos a s z H _ I h) λA D ⟨L,T,d,r,q⟩=>⟨d.ee,?_⟩) y c;show wV F g n u v d r q
def YE(y:b3 X o ta)(c:jm X.K C)(i:Meth X.K C m f)(F:dY X.prog X.w X.K X.mg X.base CX k f fd ps sp)(z:cS k X.A)(A:Binds X.K fd ps ds)(D:Vals gM ds)(L:Passes CX X E)(T:j2 X (e::es) t)(d:aH (e::es) X.env=(ak,eval e X.env)::aH es X.env:=by rfl)(g:(dh pos (aH es X.env)).any (·.1)=false:=by rfl)
 (ht:eval (.Call (.Attribute o m cO) (e::es) [] pos) X.env=(do
  let j<-eval o X.env
  ml cO.atName
  let(f,first)<-fW [j] (getMethod j m pl)
  nF pos f first (dh pos (aH (e::es) X.env)) (nG pos (nq [] X.env))):=by rfl):
 b3 X (.Call (.Attribute o m cO) (e::es) [] pos) (u5 C m sp gM E ta t):=by
 ext b s n H Q I h;show Rf (pl:=pl) (aM (y b s n H _ I h) λu s1 h9=> ?_) ht;let⟨x,H1,v,rx,a,dx,fs,ex,ea,l,q⟩:=h9;subst ex;obtain rfl:u=bK a:=rx;show HA v ea c i l ?_;show yH (first:= [.ref a]) (h₀:=X.base) I.ok.mod.rr i.kp (aM (T pos b s1 n H1 _ v q) λus s2 ⟨vs,H2,w,r,q2⟩=>⟨w.ee,?_⟩) d g;show wV (us:= .ref a::us) (vs:= .ref a::vs) F z A D L w (.cons B r) q2
def WC(j:b3 X o ta)(c:jm X.K C)(g:Meth X.K C m f)(F:dY X.prog X.w X.K X.mg X.base CX k f fd ps sp)(n:cS k X.A)(r:Binds X.K fd ps ds)(v:Vals gM ds)(w:Passes CX X E)(y:eval (.Call (.Attribute o m cO) [] [] pos) X.env=(do
  let i<-eval o X.env
  ml cO.atName
  let(f,first)<-fW [i] (getMethod i m z)
  nF pos f first (dh pos (aH [] X.env)) (nG pos (nq [] X.env))):=by rfl):
 b3 X (.Call (.Attribute o m cO) [] [] pos) (u5 C m sp gM E ta c7):=by
 ext b s A H Q I h;show Rf (pl:=z) (aM (j b s A H _ I h) λu s1 D=> ?_) y;let⟨x,H1,d,L,a,dx,fs,T,ea,l,q⟩:=D;subst T;obtain rfl:u=bK a:=L;show HA d ea c g l ?_;show R_ (first:= [.ref a]) d.ee g.kp (wV (us:= [.ref a]) (vs:= [.ref a]) F n r v w d (.cons B .nil) q)
structure Mk(K:aG)(C f:ab):Prop where
 makes:VE K C=aa
 init:lL K (.ref C) "__init__"=J (J (.ref f))
 fn:Jz K (.ref f)=aa
 kp:oE K (.ref C)=aa
def JQ(a:Mk X.K C f)(F:dY X.prog X.w X.K X.mg X.base CX k f fd ps sp)(q:cS (k+1) X.A)(w:Binds X.K fd ps ds)(y:Vals gM ds)(z:Passes CX X E)(I:Inv X b i H s)(r:Vals j us)(h:∀x d,H x=ah->H d=ah->d≠x->sp (.ref x::(j++gM)) (upd (upd H d (.own x)) x (.ins C d [])) (λv A=>v= .bO/\Q (.ref x) A) E):
 ao (aD X.prog X.w) X.A (call (.ref C) us) (n8 X b i Q) X.xe s:=by
 let l:=h (↥s+1) ↥s (I.aQ.fresh (vL _)) (I.aQ.fresh (br _)) (cK (uO _));let g:=Inv.made (C:=C) I;let n:Vals (V.ref (↥s+1)::(j++gM)) (bK (↥s+1)::(us++ds)):= .cons B (r.append y);let D: ⇑(bK (↥s+1)::us++ds)=⇑ps:=by let e:=n.length;rw[F.len _ _ _ _ l] at e;show e.symm
 refine Cp (WW (f:=f) I.ee a.makes a.init (eU.mp a.fn) (sA (F.run _ X.stack _ _ ⟨bK (↥s+1)::us, []⟩ (bK (↥s+1)::(us++ds)) _ _ E (q.make C us [])
  (g.NL.make C us []) (w _ (bK (↥s+1)::us) g.ee D) n l) λr L c=> ?_))
 cases r with
 | error e=>show z b i _ _ e L g c
 | ok T=>
   cases T with
   | ret u=>let⟨v,H',I3,rv,ev,q3⟩:=g.after c;subst ev;show⟨rv,⟨V.ref (↥s+1),H',I3,B,q3⟩⟩
   | next=>show gZ c
   | brk=>show gZ c
   | cont=>show gZ c
def YG(a:Mk X.K C f)(F:dY X.prog X.w X.K X.mg X.base CX k f fd ps sp)(i:cS (k+1) X.A)(j:k4 X x)(l:X.mg x=J (.ref C))(n:Binds X.K fd ps ds)(u:Vals gM ds)(v:Passes CX X E)(w:j2 X (e::es) t)(c:(x==("__debug__":Str))=false:=by decide)(y:aH (e::es) X.env=(ak,eval e X.env)::aH es X.env:=by rfl)(d:(dh pos (aH es X.env)).any (·.1)=false:=by rfl):
 b3 X (.Call (.Name x p) (e::es) [] pos) (B9 C sp gM E t):=by
 ext b s z H Q I h;show ow (sU I j l ?_ c);show yH (h₀:=X.base) I.ok.mod.rr a.kp (aM (w pos b s z H _ I h) λA D ⟨L,T,g,r,q⟩=>⟨g.ee,?_⟩) y d;show JQ a F i n u v g r q
def WD(a:Mk X.K C f)(F:dY X.prog X.w X.K X.mg X.base CX k f fd ps sp)(d:cS (k+1) X.A)(g:k4 X x)(i:X.mg x=J (.ref C))(j:Binds X.K fd ps ds)(l:Vals gM ds)(n:Passes CX X E)(b:(x==("__debug__":Str))=false:=by decide):b3 X (.Call (.Name x p) [] [] pos) (B9 C sp gM E c7):=by ext c s q H Q I h;show ow (sU I g i ?_ b);show R_ I.ee a.kp (JQ (us:= []) a F d j l n I .nil h)
end
section
variable {X:Cx} {CX:jn} {k:Nat} {f C:ab} {fd:gz} {ps ks:Y Str} {sp:Sp} {E:XK} {x m:Str} {p pos cO aeU:Pos} {e o:aZ} {es:Y aZ} {kws:Y q_} {te ta:TE} {t tk:TA} {nm:az Str}
variable {g:Y ae->Y ae->Y ae} {gV:Y V->Y V->Y V}
end
structure md(N P:Y Str)(sc:gb):Prop where
 kind:sc.kind= .function
 co:sc.isCoroutine=ak
 gen:sc.isGenerator=ak
 nd:N.Nodup
 pre:N.take ⇑P=P
 par:∀x∈P,sc.names.lookup x=J .local\/sc.names.lookup x=J .cell
 aaU:∀y∈sc.names,y.2≠ .free
def Jl{kindOf:Str->az ip}{x:Str}:∀{a:Y (Str×ae)} {m:Str->az ae},(∀v,(x,v)∉a)->pP kindOf a m x=m x
 | [],_,_=>rfl
 | (n,v)::r,m,h=>by
   delta pP;rw[Jl λw b=>h w (iA _ b)];split
   ·lk
   ·rfl
def Jn{kindOf:Str->az ip}{x:Str}:∀{a:Y (Str×ae)} {m:Str->az ae},(∀v,(x,v)∉a)->pQ kindOf a m x=m x
 | [],_,_=>rfl
 | (n,v)::r,m,h=>by
   delta pQ;rw[Jn λw b=>h w (iA _ b)];split
   ·rfl
   ·lk
def Jm{kindOf:Str->az ip}{x:Str}:∀{P:Y Str} {a:Y ae} {i:Nat} {m:Str->az ae},P.Nodup->P[i]? =J x->a[i]? =J v->kindOf x=J .local->
 pP kindOf (P.zip a) m x=J v
 | [],_,_,_,_,h,_,_=>∅
 | _::_, [],_,_,_,_,h,_=>∅
 | p::P,w::a,0,m,b,c,d,e=>by simp at c d;subst c;subst d;change pP kindOf ((p,w)::P.zip a) m p=_;delta pP;rw[Jl λv f=>(eR.mp b).1 (Ib f).1,ar e];simp
 | p::P,w::a,i+1,m,b,c,d,e=>by change pP kindOf ((p,w)::P.zip a) m x=_;delta pP;show Jm (i:=i) (eR.mp b).2 ∅ ∅ e
def Jo{kindOf:Str->az ip}{x:Str}:∀{P:Y Str} {a:Y ae} {i:Nat} {m:Str->az ae},P.Nodup->P[i]? =J x->a[i]? =J v->kindOf x≠J .local->
 pQ kindOf (P.zip a) m x=J v
 | [],_,_,_,_,h,_,_=>∅
 | _::_, [],_,_,_,_,h,_=>∅
 | p::P,w::a,0,m,b,c,d,e=>by simp at c d;subst c;subst d;change pQ kindOf ((p,w)::P.zip a) m p=_;delta pQ;rw[Jn λv f=>(eR.mp b).1 (Ib f).1,aj e];simp
 | p::P,w::a,i+1,m,b,c,d,e=>by change pQ kindOf ((p,w)::P.zip a) m x=_;delta pQ;show Jo (i:=i) (eR.mp b).2 ∅ ∅ e
/---/def start(a:Y Str)(b:Y V):St:=b.map J++de (⇑a- ⇑b) ah
def E5(CX:jn)(P:bD)(w:bf)(K:aG)(mg:Str->az ae)(base:bA)(N:Y Str)(qual:Str)(scope:gb)(f:ab)(cd:ae)(A:bY)(outer:Y Env)(s:au)(H:Hp)(E:XK):Cx where
 prog:=P
 w:=w
 K:=K
 mg:=mg
 base:=base
 A:=A.deeper (jd qual scope ↥s f cd)
 N:=N
 s_0:=s
 H_0:=H
 env:=jd qual scope ↥s f cd
 outer:=outer
 stack:=jd qual scope ↥s f cd::outer
 ex:= []
 calm:=aa
 fn:=λ_=>aa
 pn:= []
 xe:=λe s'=>ao (aD P w) (A.deeper (jd qual scope ↥s f cd)) (leaving (jd qual scope ↥s f cd) e) (λ_ t_=>CX outer H s E e t_) (λe' t_=>CX outer H s E e' t_) s'
def KP{a:gb}(h:a.names.lookup x=J .cell):∃c,(fE n a.names []).lookup x=J c:=by let q:=QT a.names n [] (.inl h);show Ee.mp q
def UT{CX:jn}{P:bD}{w:bf}{K:aG}{mg:Str->az ae}{m:bA}{d t:Y Str}{l:Str}{g:gb}{f:ab}{cd:ae}{A:bY}{j:Y Env}{s s1:au}{H:Hp}{E:XK}{us:Y ae}{C:Y V}(S:md d t g)(hd:A.handled=ah)(n:pO P w K mg m A j s H)(hl: ⇑C=⇑t)(r:Vals C us)(x:InCallC s ↥s (pP (jd l g ↥s f cd).kindOf (t.zip us) λ_=>ah) (fE (↥s+1) g.names []) (pQ (jd l g ↥s f cd).kindOf (t.zip us) λ_=>ah) s1):
 Inv (E5 CX P w K mg m d l g f cd A j s H E) [] (start d C) H s1:=by
 let ub: ⇑t<= ⇑d:=by have:=congrArg kY S.pre;rw[gw] at this;lk
 let⟨T,tk,rfl,hk⟩:=x.done;let D:∀b:ab,b∉(E5 CX P w K mg m d l g f cd A j s H E).ex:=λb z=>aN (show b∈([]:Y ab)from z) ⋯;show⟨⟨n.mod,S.kind,B,B,br _,λy z c T o=> ?_,λy I=> ?_,λy c _ h=> ?_,λ_=>hd,Around.frames_deeper n.frames, .inr ⟨B,B⟩,λb z=>aN z (D b),n.bs,n.mC,λb _ _=>D b,λb z=>aN z (D b),n.jK,n.pY⟩,
  rfl,n.bare,Un.kept hk,⟨_,x.toInCall.ns,λi y v T o h3=> ?_⟩,λy c h=>⟨_,x.cell y c h⟩,n.aQ.fresh (br _),λy c h=> ?_,λp L=>aN (show p∈([]:Y (ab×Obj))from L) ⋯,n.aQ.kept hk,?_⟩
 ·show name_of_addr x.apart (gP T) (gP o)
 ·let I:g.names.lookup y=J .cell\/g.names.lookup y=J .free:=I;obtain I| I:=I
  ·show KP I
  ·show aN B (S.aaU _ (gP I))
 ·show nh (x.above y c (gP h))
 ·have hi:i<⇑C:=by
   delta start at o;cases hi:i<⇑C
   ·show hi
   ·lk
  have ha:C[i]? =J v:=by
   delta start at o;rw[List.getElem?_append_left ∅,cP] at o;cases e:C[i]? with
   | none=>rw[e] at o;cases o
   | some a=>rw[e] at o;cases o;rfl
  let⟨u,hu,rv⟩:=r.get ha;let L:t[i]? =J y:=by rw[<-S.pre,Rj ∅];show T
  let Q:t.Nodup:=by rw[<-S.pre];show S.nd.sublist (XJ _ _)
  show⟨u,rv,?_⟩;obtain k| k:=S.par y (cD L)
  ·show .inl ⟨k,Jm Q L hu k⟩
  ·let⟨c,e⟩:=KP (n:=↥s+1) k;show .inr ⟨.inl k,c,e,?_⟩;let q:=x.cell y c e;rw[Jo Q L hu (by change g.names.lookup y≠_;rw[k];decide)] at q;show q
 ·show n.aQ.fresh (nh (x.above y c (gP h)))
 ·delta start;change _=⇑d;rw[dA,aF,ES]
  cbv
def abY{CX:jn}{P:bD}{w:bf}{K:aG}{mg:Str->az ae}{j:bA}{k:Nat}{f:ab}{name h:Str}{l:Arguments}{m:Y eY}{d:gb}{dV c9 doc pm i ct oc:ae}{an od:az ab}{Dj:Array (az ae)}{a ps:Y Str}{sp:Sp}(lk:K.lookup f=J ⟨oc,od, .func (lP name h l m d dV c9 doc pm an i ct),Dj⟩)(Oi:HW K i h=aa)(S:md a ps d)(len:∀p H Q E,sp p H Q E-> ⇑p=⇑ps)(D:∀(A:bY) (g:Y Env) (s:au) (H:Hp) (p:Y V) (Q:VK) (E:XK),cS k (A.deeper (jd h d ↥s f i))->sp p H Q E->
  ∃t,p4 (E5 CX P w K mg j a h d f i A g s H E) m t/\t {nx:=λ_ C=>Q .bO C,rt:=Q} (start a p) H):
 dY P w K mg j CX (k+1) f (lP name h l m d dV c9 doc pm an i ct) ps sp:=by
 refine⟨len,λA g s H args us p Q E hr e0 hb r xM=> ?_⟩;let hl:=len _ _ _ _ xM;let KX:K.In s.heap:=e0.mod.rr.keeps λb o e=>(e0.bs b o e).1;let lim:s.heap.NoLimit:=e0.mod.nolimit.keeps λb o e=>(e0.bs b o e).1;let L:∀y∈ps.zip us,d.names.lookup y.1=J .local\/(d.names.lookup y.1=J .cell/\((fE (↥s+1) d.names []).lookup y.1).isSome=aa):=λ(⟨n,v⟩) hy=>by
  obtain q| q:=S.par n (Ib hy).1
  ·show .inl q
  ·show .inr ⟨q,QT _ _ _ (.inl q)⟩
 refine codeAny_call_function hr.depth (KX _ _ lk) B S.co S.gen B (PySem.W.codeRec_of KX Oi) (hb _ _ _ _ ?_);show wpAny_newFunctionEnv_cells S.kind L λenv he s1 x=> ?_;subst he;show⟨lim.keeps x.toInCall.keep,codeAny_func ?_⟩;let⟨t,ht,hq⟩:=D A g s H p Q E (hr.deeper _) xM;let I:Inv (E5 CX P w K mg j a h d f i A g s H E) [] (start a p) H s1:=UT S hr.hd e0 hl r x;show ja (ht [] s1 (start a p) H _ I hq) (λfl s' T=> ?_) λe s' T=>T;let fin:∀{z:St} {C:Hp} {v:V} {u:ae},Inv (E5 CX P w K mg j a h d f i A g s H E) [] z C s'->RelV v u->Q v C->ab9 g P w H s Q u s':=
  λ{z C v u} c rv q=>⟨v,C,c.os,c.bare,c.base,c.aQ,rv,q⟩
 cases fl with
 | ret u=>let⟨v,z,C,c,rv,q⟩:=T;show fin c rv q
 | next=>let⟨z,C,c,q⟩:=T;show fin (v:=V.bO) (u:=ft) c B q
 | brk=>let⟨_,_,_,q⟩:=T;show gZ q
 | cont=>let⟨_,_,_,q⟩:=T;show gZ q
section
variable {X:Cx} {x:Str} {p pos:Pos} {e:aZ} {es:Y aZ} {t:TA} {id T:String} {r:Y V->Hp->VK->Prop}
def j5(r:Y V->Hp->VK->Prop)(t:TA):TE:=λa H Q=>t a H λb c=>r b c Q
def Ke(f:i3 X (.builtin id) r)(g:k4 X x)(i:X.mg x=ah)(j:oO x=J (.builtin id))(k:j2 X (e::es) t)(l:x≠"__name__":=by decide)(b:(x==("__debug__":Str))=false:=by decide)
 (m:aH (e::es) X.env=(ak,eval e X.env)::aH es X.env:=by rfl)(c:(dh pos (aH es X.env)).any (·.1)=false:=by rfl):b3 X (.Call (.Name x p) (e::es) [] pos) (j5 r t):=by
 ext a s d H Q I h;show ow (mf I g i j ?_ l b);show PyProof.Rows.callWith_builtin1 (aM (k pos a s d H _ I h) λn o ⟨q,u,v,w,y⟩=>f a o d u q n Q v w y) m c
def Ux(f:i3 X (.type T) r)(g:k4 X x)(i:X.mg x=ah)(j:oO x=J (.type T))(k:j2 X (e::es) t)(l:x≠"__name__":=by decide)(b:(x==("__debug__":Str))=false:=by decide)
 (m:aH (e::es) X.env=(ak,eval e X.env)::aH es X.env:=by rfl)(c:(dh pos (aH es X.env)).any (·.1)=false:=by rfl):b3 X (.Call (.Name x p) (e::es) [] pos) (j5 r t):=by
 ext a s d H Q I h;show ow (mf I g i j ?_ l b);show uu (aM (k pos a s d H _ I h) λn o ⟨q,u,v,w,y⟩=>f a o d u q n Q v w y) m c
end
end L2
namespace HT
open PySem PyProof.Rows
/---/def lexLt:Y Int->Y Int->Bool
 | [], []=>ak
 | [],_::_=>aa
 | _::_, []=>ak
 | x::a,y::b=>if x=y then lexLt a b else decide (x<y)
def Ac(x y:Int)(a b:Y Int):lexLt (x::a) (y::b)=if x=y then lexLt a b else decide (x<y):=B
def Qc:lexLt [] []=false:=B
def Py(y:Int)(a:Y Int):lexLt [] (y::a)=true:=B
def Pz(x:Int)(a:Y Int):lexLt (x::a) []=false:=B
def Xq(A:bY)(s:au)(a:Int)(t:Tok)(c:Int)(u:Tok):∃e,Mq A s (.int a t) (.int c u) e/\(e=aa↔a=c):=
 ⟨(a==c),Rc a t c u,∅⟩
def Wk(A:bY)(s:au)(a:Int)(t:Tok)(c:Int)(u:Tok)(b:bD)(w:bf)(E:ae->au->Prop)(Q:ae->au->Prop)(h:Q (.bool (decide (a<c))) s):
 ao (aD b w) A (sE .Lt (.int a t) (.int c u)) Q E s:=
 (PyProof.Rows.lt_int h:ao (aD b w) A (et .Lt (.int a t) (.int c u)) Q E s)
section
open PySem.SeqAt
open PySem.AutoSeq1 (wpAny_loadPart')
open PySem.MeetsSeq PySem.MeetsSeq2 PySem.MeetsSeq3
def PU(l b:ab)(i f:Array ae)(n n2:Nat)(dd dd2:az ab)(sl sl2:Array (az ae))(Q T:Y Int)(hi:eG i.toList Q)(hj:eG f.toList T):
 Meets (fw.«tuple.__lt__» ⟨[.ref l, .ref b], []⟩)
  (λ_ R s=>s.heap.get? l=J {cls:= .type "tuple",dict:=dd,data:= .seq i n,slots:=sl}/\s.heap.get? b=J {cls:= .type "tuple",dict:=dd2,data:= .seq f n2,slots:=sl2}/\
   R (.ok (.ret (.bool (lexLt Q T)))) s):=
 .of_wp fun v w A R s h=>by
  let⟨hp,g,d,tk,os⟩:=s;let⟨hl,hb,h⟩:=h;let f2:=AutoSeq1.sub_tuple_tuple;let z1:i.size=⇑Q:=by rw[<-hi.length];simp
  let z2:f.size=⇑T:=by rw[<-hj.length];simp
  wp_walk using wpAny_loadPart' hl,wpAny_loadPart' hb,wpAny_forIn_list _ (λo b s'=>b.1=ah/\s'=⟨hp,g,d,tk,os⟩/\∃(vs ws:Y ae) (k m:Y Int),o=vs.zip ws/\
   eG vs k/\eG ws m/\ ⇑k+f.size=⇑m+i.size/\R (.ok (.ret (.bool (lexLt k m)))) ⟨hp,g,d,tk,os⟩) _
  case turn=>
   ext⟨y,x⟩ o b s' ⟨C,rfl,vs,ws,k,m,p,D,r,j,E⟩;cases D with
   | nil=>rw[List.zip_nil_left] at p;cases p
   | cons a t I=>
     cases r with
     | nil=>rw[List.zip_nil_right] at p;cases p
     | cons c u L=>
       rw[FX] at p;injection p with hyx H
       injection hyx with hy hx;subst hy hx;rw[Ac] at E;erw[cX] at j;let⟨e,he,z⟩:=Xq A.in1 ⟨hp,g,d,tk,os⟩ a t c u;show ag (he v w _ _ ?_);cases e with
       | true=>
         rw[ar (z.mp B)] at E
         wp_walk
         show⟨B,B,_,_,_,_,H,I,L,⋯,E⟩
       | false=>
         rw[aj (λq=>aN (z.mpr q) dQ)] at E;let hri:=Wk A.in1 ⟨hp,g,d,tk,os⟩ a t c u v w
         wp_walk using hri
         show⟨_,B,∅⟩
  case fin=>
   ext⟨b1,b2⟩ s' ⟨C,rfl,vs,ws,k,m,p,D,r,j,E⟩;simp only at C;subst C;let hv:lexLt k m=decide (i.size<f.size):=by
    cases D with
    | nil=>
      cases r with
      | nil=>erw[lK] at j;rw[Qc];show(jw ∅).symm
      | cons c u hw=>erw[lK,cX] at j;rw[Py];show(gX ∅).symm
    | cons a t hv=>
      cases r with
      | nil=>erw[lK,cX] at j;rw[Pz];show(jw ⋯).symm
      | cons c u hw=>rw[FX] at p;cases p
   rw[hv] at E
   wp_walk
   show⟨_,B,by simpa[Builtin.Tuple.tupleCompareSizes] using E⟩
  case h=>show⟨B,B,i.toList,f.toList,Q,T,B,hi,hj,⋯,h⟩
end
section
variable {prog:bD} {w:bf} {A:bY} {E:ae->au->Prop} {s:au}
def SQ(t:gJ s.heap l c)(u:gJ s.heap b a)(v:eG c.toList g)(y:eG a.toList i)(z:A.units<ey)(h:Q (.bool (lexLt g i)) s):ao (aD prog w) A (et .Lt (.ref l) (.ref b)) Q E s:=by
 let⟨⟨C,D,m,H⟩,o,p,n,q⟩:=id t;let⟨⟨r,j,data2,k⟩,d,e,I,f⟩:=id u;simp only at p q e f;subst p q e f;show richCompare_meets_room (op:= .Lt) ⟨_,o,B⟩ ⟨_,d,B⟩ PySem.F.slot_tuple_lt PySem.F.entry_tuple_lt (PySem.F.args_tuple_lt_2 _ _) (PU l b c a n I D j H k g i v y)
  ⟨o,d,show lV (lexLt g i)≠Value.notImplemented/\Q (.bool (lexLt g i)) s from⟨(λx=>nomatch x),h⟩⟩ z
def ZQ(v:gJ s.heap t d.toArray)(x:gJ s.heap b a.toArray)(H:d≠ [])(y:a= []->Q (.ref t) s)(z:a≠ []->Q (.ref ↥s) {s with heap:=s.heap.push {cls:= .type "tuple",data:= .seq (d++a).toArray}})
 (C: ⇑d+⇑a<=aV):ao (aD prog w) A (iM .Add (.ref t) (.ref b)) Q E s:=by
 let⟨⟨D,k,l,m⟩,j,o,n,p⟩:=id v;let⟨⟨q,f,data2,g⟩,c,h,r,i⟩:=id x;simp only at o p h i;subst o p h i;let e:d.toArray++a.toArray=(d++a).toArray:=⋯;cases u:a= []
 ·exact Nl ⟨_,j,B⟩ ⟨_,c,B⟩ Jy Mo Es Em (Ed _ _)
   (tuple_addW1 t b d.toArray a.toArray n r k f m g ∅ ∅) ⟨j,c,y u⟩
 ·refine Nl ⟨_,j,B⟩ ⟨_,c,B⟩ Jy Mo Es Em (Ed _ _)
   (tuple_addW2 t b d.toArray a.toArray n r k f m g ∅ ∅ ⋯) ⟨j,c,?_⟩
  rw[e];show z u
def d3(n d:Nat):az Int->Nat
 | none=>d
 | some v=>if v<0 then(v+(n:Int)).toNat else min v.toNat n
def Bc(n d:Nat):d3 n d ah=d:=B
def wq(n d k:Nat):d3 n d (J (k:Int))=min k n:=by change(if(k:Int)<0 then((k:Int)+(n:Int)).toNat else min (k:Int).toNat n)=min k n;rw[aj ∅,fo]
def aax(n d:Nat)(a:d<=n)(o:az Int):d3 n d o<=n:=by
 cases o with
 | none=>show a
 | some v=>
   change(if v<0 then(v+(n:Int)).toNat else min v.toNat n)<=n;cases b:v<0
   ·rw[ar b];lk
   ·grind
def Me(v:Int)(n d:Nat):(if v<0 then max (v+(n:Int)) 0 else min v (n:Int))=((d3 n d (J v):Nat):Int):=by
 change(if v<0 then max (v+(n:Int)) 0 else min v (n:Int))=(((if v<0 then(v+(n:Int)).toNat else min v.toNat n):Nat):Int);cases a:v<0
 ·erw[ar a];cbv
 ·erw[aj a];grind
def Ts(lo a:az Int)(n:Nat):DT lo a 1 (n:Int)=(((d3 n 0 lo:Nat):Int),((d3 n n a:Nat):Int)):=by
 let b:¬((1:Int)<0):=∅;delta DT;erw[b,fF];show tm ?_ ?_
 ·cases lo with
  | none=>rfl
  | some v=>show Me v n 0
 ·cases a with
  | none=>rfl
  | some v=>show Me v n n
def SA(i j:Nat):x_ (i:Int) (j:Int) 1=j-i:=by delta x_;let a:(1:Int)>0:=∅;erw[a,gq,Int.ediv_one];split<;>lk
def Hc(p:pK v o)(h:Q o s):ao (aD prog w) A (Builtin.Slice.slicePartIndex v) Q E s:=by
 cases p with
 | none=>show slicePart_none h
 | int i t=>show slicePart_int h
def OV{lo a:az Int}{n:Nat}{Q:Int×Int×Nat->au->Prop}(f:s.heap.IsSliceOf g d e .none)(i:pK d lo)(j:pK e a)(h:Q (((d3 n 0 lo:Nat):Int),1,d3 n n a-d3 n 0 lo) s):ao (aD prog w) A (OT (.ref g) (pure (n:Int))) Q E s:=by let⟨os,b,k,c⟩:=id f;delta OT Builtin.Slice.sliceFields;show ag (ag (oR b c (x:=d) B (ag (oR b c (x:=e) B (ag (oR b c (x:= .none) B (ax ?_)))))));show ag (slicePart_none ?_);change ao _ _ (if((1:Int)==0)=aa then _ else _) _ _ s;rw[aj ∅];show ag (Hc i (ag (Hc j (ag (ax ?_)))));change ao _ _ (match DT lo a 1 (n:Int)with| (lo,a)=>pure (lo,(1:Int),x_ lo a 1)) _ _ s;rw[Ts lo a n];change ao _ _ (pure (((d3 n 0 lo:Nat):Int),(1:Int),x_ ((d3 n 0 lo:Nat):Int) ((d3 n n a:Nat):Int) 1)) _ _ s;rw[SA];show ax h
def Wy(a:Array ae)(i k:Nat):((bR k).filterMap λ(m:Nat)=>a[((i:Int)+(m:Int)*1).toNat]?).toArray=((a.toList.drop i).take k).toArray:=by let e:(λ(m:Nat)=>a[((i:Int)+(m:Int)*1).toNat]?)=λm=>a[i+m]? :=⋯;rw[e];have:=pick_run a i k;rw[FY] at this;let b:((λx=>a[x]?)∘λx=>i+x)=λm=>a[i+m]? :=B;rw[b] at this;rw[this]
def OO{a:Array ae}{lo c:az Int}{Q:ae->au->Prop}(d:gJ s.heap t a)(j:s.heap.IsSliceOf k l m .none)(n:pK l lo)(o:pK m c)(r:¬(d3 a.size 0 lo=0/\d3 a.size a.size c=a.size))(h:Q (.ref ↥s) {s with heap:=s.heap.push {cls:= .type "tuple",data:= .seq ((a.toList.drop (d3 a.size 0 lo)).take (d3 a.size a.size c-d3 a.size 0 lo)).toArray}})
 (p:a.size<=aV):ao (aD prog w) A (getItem (.ref t) (.ref k)) Q E s:=by
 have b:sizeOk (.seq ((a.toList.drop (d3 a.size 0 lo)).take (d3 a.size a.size c-d3 a.size 0 lo)).toArray):=by
  change((a.toList.drop (d3 a.size 0 lo)).take (d3 a.size a.size c-d3 a.size 0 lo)).toArray.size<=aV;rw[jR,gw,zo,fR]
  omega
 let u:d3 a.size a.size c<=a.size:=aax _ _ (br _) c;let⟨os,e,f,q⟩:=id j;let g:s.TypeIs (.ref k) "slice":=⟨os,e,f⟩;delta getItem
 try with_reducible show gm ?_
 first| show ag (ax ?_)| skip
 refine ag (wpAny_sequenceKey d.typeIs ∅ ?_);show ag (mI (name:=Lc "__getitem__") d.typeIs DR
  (iD DR d.typeIs entry_tuple_getitem ?_ (args_tuple_getitem _ _)))
 change ao _ _ (Builtin.Tuple.tupleItemsOf (.ref t)>>=_) _ _ s;show ag (tupleItemsOf_ d ?_);show ag (sy g ?_);rw[ar ∅];show ag (OV j n o ?_);let i:¬((((d3 a.size 0 lo:Nat):Int)==0 && (1:Int)==1 && (d3 a.size a.size c-d3 a.size 0 lo)==a.size)=aa):=∅;change ao _ _ (if(((d3 a.size 0 lo:Nat):Int)==0 && (1:Int)==1 && (d3 a.size a.size c-d3 a.size 0 lo)==a.size)=aa then _ else _) _ _ s;rw[aj i,Wy]
 first
  | show ag (m:=yc _) (fc (ax ⟨_,B,ax h⟩) b)
  | show ag (m:=yc _) (fc (ag (ax (ax ⟨_,B,ax h⟩))) b)
  | show ag (ag (m:=yc _) (fc (ax (ax ⟨_,B,ax h⟩)) b))
  | show ag (ag (m:=yc _) (fc (ax ⟨_,B,ax h⟩) b))
end
end HT
namespace L2
open PySem PySem.Spec PyProof.Rows
abbrev TO:=St->Hp->(az Int->Hp->Prop)->Prop
def X5(X:Cx)(e:az aZ)(t:TO):Prop:=
 ∀(a:Y (ab×Obj)) (s:au) (b:St) (H:Hp) (Q:az Int->Hp->Prop),Inv X a b H s->t b H Q->
  ao (aD X.prog X.w) X.A (evalPart e X.env) (λu d=>∃o c,Inv X a b c d/\pK u o/\Q o c) X.xe s
def ac0:TO:=λ_ H Q=>Q ah H
def ad6(t:TE):TO:=λa H Q=>t a H λx b=>∃i,x= .int i/\Q (J i) b
section
variable {X:Cx} {e:aZ} {te:TE} {lo hi:az aZ} {tl th:TO} {pos p2:Pos}
def nB:X5 X ah ac0:=by ext a s b H Q I h;rw[evalPart_none];show ax ⟨ah,H,I, .none,h⟩
def iN(h:b3 X e te):X5 X (J e) (ad6 te):=by ext a s b H Q I c;rw[evalPart_some];show aM (h a s b H _ I c) λu k ⟨x,d,f,g,j⟩=> ?_;let⟨i,rfl,q⟩:=j;let⟨t,rfl⟩:=g;show⟨J i,d,f, .int i t,q⟩
def T1(X:Cx)(r:V->az Int->az Int->Hp->VK->Prop):Prop:=
 ∀(a:Y (ab×Obj)) (s:au) (b:St) (H:Hp) (x:V) (v c d:ae) (lo hi:az Int) (f:ab) (Q:VK),Inv X a b H s->RelV x v->s.heap.IsSliceOf f c d .none->pK c lo->pK d hi->r x lo hi H Q->
  ∃T id,typeLookup (.type T) "__getitem__"=pure (J (.builtin id))/\s.TypeIs v T/\ao (aD X.prog X.w) X.A (getItem v (.ref f)) (n8 X a b Q) X.xe s
def S8(r:V->az Int->az Int->Hp->VK->Prop)(te:TE)(tl th:TO):TE:=λa H Q=>te a H λx b=>tl a b λl c=>th a c λu d=>r x l u d Q
def kc(j:T1 X r)(k:b3 X e te)(m:X5 X lo tl)(n:X5 X hi th):b3 X (.Subscript e (.Slice lo hi ah p2) pos) (S8 r te tl th):=by ext a s d H Q I h;show Subscript_ (aM (k a s d H _ I h) λv o ⟨x,p,t,w,y⟩=> ?_);show wpAny_Slice (aM (m a o d p _ t y) λf z ⟨l,A,C,D,E⟩=>aM (n a z d A _ C E) λg c ⟨u,i,L,pu,q3⟩=> ?_);rw[evalPart_none];show ax ?_;let I4:Inv X a d i {c with heap:=c.heap.push {cls:= .type "slice",data:= .fields #[f,g, .none]}}:=L.kept (t':=c.toks) λb ob q=>bQ _ q;let⟨T,id,hT,ht,hg⟩:=j a {c with heap:=c.heap.push {cls:= .type "slice",data:= .fields #[f,g, .none]}} d i x v f g l u ↥c Q I4 w (Heap.IsSliceOf.new ..) D pu q3;change ao (aD X.prog X.w) X.A (subscriptTail e (.Slice lo hi ah p2) v (.ref ↥c)) (n8 X a d Q) X.xe {c with heap:=c.heap.push {cls:= .type "slice",data:= .fields #[f,g, .none]}};show tail_any (ops:= [.ref ↥c,v]) ht hT hg (by with_unfolding_all rfl)
def C9(a:Y V)(lo hi:az Int):Y V:=(a.drop (HT.d3 ⇑a 0 lo)).take (HT.d3 ⇑a ⇑a hi-HT.d3 ⇑a 0 lo)
def Gu(a:Y V)(lo hi:az Int): ⇑(C9 a lo hi)<= ⇑a:=by delta C9;rw[gw,zo];lk
def Z7(K:aG):V->az Int->az Int->Hp->VK->Prop:=λx lo hi H Q=>∃a b,x= .ref a/\d7 K H a b/\
 ¬(HT.d3 ⇑b 0 lo=0/\HT.d3 ⇑b ⇑b hi=⇑b)/\∀p,H p=ah->Q (.ref p) (upd H p (.tup (C9 b lo hi)))
def aav:T1 X (Z7 X.K):=by
 ext f s p H x v t u lo hi w Q I j k l m h;let⟨a,c,rfl,n,y,q⟩:=h;cases j;let⟨g,r,i,o⟩:=I.tuple n;let d:g.toArray.size=⇑c:=by rw[jR];show r.length.symm
 show⟨"tuple",_,DR.lookup,i.typeIs,?_⟩;show HT.OO i k l m ∅ ?_ ∅;rw[d];show⟨.ref ↥s,_,I.laid (t':=s.toks) (o:= .tup (C9 c lo hi)) (λb z q=>bQ _ q) (br _) ?_,B,q _ (I.aQ.fresh (br _))⟩;show⟨da (Gu c lo hi) o,_,(r.drop (HT.d3 ⇑c 0 lo)).take (HT.d3 ⇑c ⇑c hi-HT.d3 ⇑c 0 lo),IsTup.new _ _⟩
def ae6(K:aG):R2:=λx y H Q=>∃a b d c,x= .ref a/\y= .ref b/\d7 K H a d/\d7 K H b c/\d≠ []/\ ⇑d+⇑c<=aV/\
 (c= []->Q (.ref a) H)/\(c≠ []->∀p,H p=ah->Q (.ref p) (upd H p (.tup (d++c))))
def Vals.wB(r:Vals a b):b= []↔a= []:=by
 cases r with
 | nil=>simp
 | cons _ _=>simp
def YP:e9 X (iM .Add) (ae6 X.K):=by ext d s D H x y v u Q I i j h;let⟨a,b,k,l,rfl,rfl,m,n,o,p,r,t⟩:=h;cases i;cases j;let⟨A,f,C,_⟩:=I.tuple m;let⟨g,c,p2,_⟩:=I.tuple n;show HT.ZQ C p2 (λz=>o (f.wB.mp z)) (λz=>⟨.ref a,H,I,rfl,r (c.wB.mp z)⟩) (λz=> ?_) (by rw[<-f.length,<-c.length];show p);show⟨.ref ↥s,_,I.laid (t':=s.toks) (o:= .tup (k++l)) (λb E q=>bQ _ q) (br _) ?_,B,t (λw=>z (c.wB.mpr w)) _ (I.aQ.fresh (br _))⟩;show⟨∅,_,f.append c,IsTup.new _ _⟩
end
def G5(n:Nat)(i:Int):az Nat:=if 0<=i then(if i<n then J i.toNat else ah)else if-(n:Int)<=i then J (i+n).toNat else ah
def n4{a:Type}(b:Y a)(i:Int):az a:=(G5 ⇑b i).bind λj=>b[j]?
def LJ(h:G5 n i=J j):seqIndex? i n=J j/\j<n/\-(n:Int)<=i/\i<n:=by
 delta G5 at h;cases b:0<=i
 ·rw[ar b] at h;cases a:i<n
  ·rw[ar a] at h;let e:i.toNat=j:=bu h;show⟨by rw[Nn b a,e],⋯,⋯,a⟩
  ·rw[aj a] at h;cases h
 ·rw[aj b] at h;cases a: -(n:Int)<=i
  ·rw[ar a] at h;let e:(i+n).toNat=j:=bu h;show⟨by rw[seqIndex_neg (by cbv) a,e],⋯,a,⋯⟩
  ·rw[aj a] at h;cases h
def Mh(h:n4 a i=J v):∃j,seqIndex? i ⇑a=J j/\a[j]? =J v/\j<⇑a/\-(⇑a:Int)<=i/\i<⇑a:=by
 delta n4 at h;cases e:G5 ⇑a i with
 | none=>rw[e] at h;cases h
 | some j=>rw[e] at h;let⟨b,c,d,f⟩:=LJ e;show⟨j,b,h,c,d,f⟩
def Y1(b:aZ):Prop:=∀o i,subscripted b ak o i=operate [o,i] (getItem o i)
def T3(X:Cx)(r:R2):Prop:=
 ∀(c a:aZ) (b:Y (ab×Obj)) (s:au) (d:St) (H:Hp) (x y:V) (v u:ae) (Q:VK),Inv X b d H s->RelV x v->RelV y u->r x y H Q->
  subscripted a ak v u=operate [v,u] (getItem v u)->ao (aD X.prog X.w) X.A (subscriptTail c a v u) (n8 X b d Q) X.xe s
def O9(X:Cx)(id:String)(r:V->Y V->Hp->VK->Prop):Prop:=
 ∀(a:Y (ab×Obj)) (s:au) (b:St) (H:Hp) (x:V) (c:Y V) (v:ae) (d:Y ae) (Q:VK),Inv X a b H s->RelV x v->Vals c d->r x c H Q->
  ao (aD X.prog X.w) X.A (call (.builtin id) (v::d)) (n8 X a b Q) X.xe s
section
variable {X:Cx} {a b:aZ} {ta tb:TE} {pos:Pos}
def Ny(d:T3 X r)(e:b3 X a ta)(f:b3 X b tb)(g:Y1 b):b3 X (.Subscript a b pos) (d9 r ta tb):=by ext c s i H Q I h;show Subscript_ (CW e f I h λv u j x y k l m n q=>d a b c j i k x y v u Q l m n q (g _ _))
def E4(K:aG):R2:=λx y H Q=>∃p c i v,x= .ref p/\y= .int i/\SqL K H p c/\n4 c i=J v/\Q v H
def C7(K:aG):R2:=λx y H Q=>∃p c i v,x= .ref p/\y= .int i/\d7 K H p c/\n4 c i=J v/\Q v H
def Zr:T3 X (E4 X.K):=by
 ext f g c s n H x y v u Q I C D h o;let⟨p,xs,i,z,rfl,rfl,E,L,q⟩:=h;cases C;let⟨t,rfl⟩:=D;let⟨k,r,l,hz⟩:=I.list E;let⟨j,e,T,h3,h4,h5⟩:=Mh L;let⟨w,ew,m⟩:=r.get T;let hl:=r.length;let hn:=qY;let d:n8 X c n Q w s:=⟨z,H,I,m,q⟩;cases A:0<=i
 ·let hj:i.toNat=j:=by rw[Nn A h5] at e;show bu e
  show item_listR l.isList A ⋯ ⋯ d o
 ·have hj:(i+(k.toArray.size:Int)).toNat=j:=by rw[seqIndex_neg ∅ h4] at e;rw[jR,<-hl];show bu e
  exact XF (x:=w) l.isList.typeIs slot_list_getitem.lookup
   (wpAny_getItem_list_neg (Q:=λr s'=>r=w/\n8 X c n Q r s') l.isList ∅ ∅ ⋯ ⋯ ⟨rfl,d⟩) o
def abf:T3 X (C7 X.K):=by
 ext d e c s k H x y v u Q I m n h o;let⟨p,T,i,z,rfl,rfl,A,C,q⟩:=h;cases m;let⟨t,rfl⟩:=n;let⟨D,r,l,hz⟩:=I.tuple A;let⟨j,h1,E,h3,h4,h5⟩:=Mh C;let⟨w,ew,f⟩:=r.get E;let hl:=r.length;let hn:=qY;let g:n8 X c k Q w s:=⟨z,H,I,f,q⟩;show XF (x:=w) l.typeIs slot_tuple_getitem.lookup
  (getItem_tuple (j:=j) (Q:=λr L=>r=w/\n8 X c k Q r L) l ⋯ ⋯ ∅ ⋯ ⟨rfl,g⟩) o
def SM(c:Y ae)(n j:Nat)(u:ae):wd (·.setIfInBounds j u) {cls:= .type "list",data:= .seq c.toArray n}={cls:= .type "list",data:= .seq (c.set j u).toArray n}:=by simp[wd]
def Inv.lst(I:Inv X d g H s)(h:H p=J (.lst f)):
 ∃(c:Y ae) (n:Nat),Vals f c/\s.heap.get? p=J {cls:= .type "list",data:= .seq c.toArray n}/\ ⇑f<=aV:=by
 let⟨z,c,n,r,e⟩:=I.aQ p _ h;show⟨c,n,r,e,z⟩
def Inv.aaW{s:au}{l i:Y V}{g c:Y ae}(I:Inv X d m H s)(h:H p=J (.lst l))(o:s.heap.get? p=J {cls:= .type "list",data:= .seq g.toArray n})(j:f {cls:= .type "list",data:= .seq g.toArray n}={cls:= .type "list",data:= .seq c.toArray k})(r:Vals i c)(v: ⇑i<=aV)(t:Nat):
 Inv X d m (upd H p (.lst i)) {s with heap:=s.heap.update p f,toks:=t}:=by
 let e:(s.heap.update p f).get? p=J {cls:= .type "list",data:= .seq c.toArray k}:=by rw[kH f o (by rw[j]<;>rfl),j]
 show I.write (x:=p) (e:=p) (by rw[h];trivial) (.inl B) (λb u w q=>(gO _ _ (eF w)).trans q) ⟨_,e⟩ ?_;show⟨v,c,k,r,e⟩
def U1:V->V->V->Hp->(Hp->Prop)->Prop:=λo i v H Q=>∃p c k j,o= .ref p/\i= .int k/\H p=J (.lst c)/\G5 ⇑c k=J j/\Q (upd H p (.lst (c.set j v)))
def set_list:aa9 X U1:=by
 ext c s m H o i v T iv u Q I w x y h;let⟨p,z,k,j,rfl,rfl,g,A,q⟩:=h;cases w;let⟨t,rfl⟩:=x;let⟨d,n,r,f,hz⟩:=I.lst g;let⟨e,h2,C,D⟩:=LJ A;let E:=r.length;let hn:=qY;let I':Inv X c m (upd H p (.lst (z.set j v))) {s with heap:=s.heap.update p (wd (·.setIfInBounds j u))}:=
  I.aaW g f (SM d n j u) (r.set y j) ∅ s.toks
 cases l:0<=k
 ·let L:k.toNat=j:=by rw[Nn l D] at e;show bu e
  show PySem.W.ki_setAt f l ⋯ ∅ ⋯
 ·let L:(k+(d.toArray.size:Int)).toNat=j:=by rw[seqIndex_neg ∅ C] at e;rw[jR,<-E];show bu e
  show PySem.W.ki_setBack f ∅ ∅ ⋯ ⋯
def Qy(lo c:az Int)(n:Nat):(sliceBounds lo c ah n).1=((HT.d3 n 0 lo:Nat):Int)/\(sliceBounds lo c ah n).2.1=((HT.d3 n n c:Nat):Int)/\(sliceBounds lo c ah n).2.2=1:=by
 show⟨?_,?_,B⟩
 ·cases lo with
  | none=>simp[sliceBounds,HT.d3]
  | some i=>
    erw[sliceBounds,HT.d3,VF,show(1:Int)>0 by decide,gq];cases h:i<0
    ·lk
    ·grind
 ·cases c with
  | none=>simp[sliceBounds,HT.d3]
  | some i=>
    erw[sliceBounds,HT.d3,VF,show(1:Int)>0 by decide,gq];cases h:i<0
    ·lk
    ·lk
def PV(c:Y ae)(lo d:az Int):slicePick c.toArray lo d ah=((c.drop (HT.d3 ⇑c 0 lo)).take (HT.d3 ⇑c ⇑c d-HT.d3 ⇑c 0 lo)).toArray:=by let⟨e,f,g⟩:=Qy lo d c.toArray.size;delta slicePick;rw[e,f,g];erw[sliceRange_one,pick_run,jR]<;>rfl
def S4(K:aG):V->az Int->az Int->Hp->VK->Prop:=λx lo d H Q=>∃a c,x= .ref a/\SqL K H a c/\∀p,H p=ah->Q (.ref p) (upd H p (.lst (C9 c lo d)))
def Yo:T1 X (S4 X.K):=by ext e s p H x v t u lo f w Q I i j k l h;let⟨a,c,rfl,m,q⟩:=h;cases i;let⟨n,r,g,o⟩:=I.list m;let d:=r.length;show⟨"list",_,slot_list_getitem.lookup,g.isList.typeIs,?_⟩;show wpAny_getItem_list_slice g.isList j k l .none ∅ ?_ ∅;rw[PV,<-d];show⟨.ref ↥s,_,I.laid (t':=s.toks) (o:= .lst (C9 c lo f)) (λb y q=>bQ _ q) (br _) ?_,rfl,q _ (I.aQ.fresh (br _))⟩;show⟨da (Gu c lo f) o,_,0,(r.drop (HT.d3 c.length 0 lo)).take (HT.d3 c.length c.length f-HT.d3 c.length 0 lo),cg _ rfl⟩
def A7:V->Bool
 | .bO=>aa
 | .bl _=>aa
 | .int _=>aa
 | .str _=>aa
 | _=>ak
def G6:V->V->Bool
 | .bO, .bO=>aa
 | .bl a, .bl b=>a==b
 | .bl a, .int b=>(if a then 1 else 0)==b
 | .int a, .bl b=>a==(if b then 1 else 0)
 | .int a, .int b=>a==b
 | .str a, .str b=>a==b
 | _,_=>ak
def abp(e:RelV y u)(c:RelV x v)(g:A7 y=aa)(f:A7 x=aa):Mq A s u v (G6 y x):=by
 cases y with
 | bO=>
   cases e;cases x with
   | bO=>cases c;show SeqAt.EqAt.same _
   | bl b=>cases c;show SeqAt.EqAt.none_bool b
   | int b=>let⟨t,rfl⟩:=c;show SeqAt.EqAt.none_int b t
   | str b=>let⟨t,rfl⟩:=c;show SeqAt.EqAt.none_str b t
   | _=>show aN (show ak=aa from f) dQ
 | bl a=>
   cases e;cases x with
   | bO=>cases c;show SeqAt.EqAt.bool_none a
   | bl b=>cases c;show SeqAt.EqAt.bool_bool a b
   | int b=>let⟨t,rfl⟩:=c;show SeqAt.EqAt.bool_int a b t
   | str b=>let⟨t,rfl⟩:=c;show SeqAt.EqAt.bool_str a b t
   | _=>show aN (show ak=aa from f) dQ
 | int a=>
   let⟨d,rfl⟩:=e;cases x with
   | bO=>cases c;show SeqAt.EqAt.int_none a d
   | bl b=>cases c;show SeqAt.EqAt.int_bool a d b
   | int b=>let⟨t,rfl⟩:=c;show Rc a d b t
   | str b=>let⟨t,rfl⟩:=c;show Rb a d b t
   | _=>show aN (show ak=aa from f) dQ
 | str a=>
   let⟨d,rfl⟩:=e;cases x with
   | bO=>cases c;show SeqAt.EqAt.str_none a d
   | bl b=>cases c;show SeqAt.EqAt.str_bool a d b
   | int b=>let⟨t,rfl⟩:=c;show Ra a d b t
   | str b=>let⟨t,rfl⟩:=c;show SeqAt.EqAt.str_str a d b t
   | _=>show aN (show ak=aa from f) dQ
 | _=>show aN (show ak=aa from g) dQ
def w9(x:V)(u:ae):Bool:=match u with
 | .none=>G6 .bO x
 | .bool b=>G6 (.bl b) x
 | .int i _=>G6 (.int i) x
 | .str z _=>G6 (.str z) x
 | _=>ak
def xh{x y:V}{u:ae}(r:RelV y u)(f:A7 y=aa):w9 x u=G6 y x:=by
 cases y with
 | bO=>cases r;rfl
 | bl b=>cases r;rfl
 | int i=>let⟨t,rfl⟩:=r;rfl
 | str z=>let⟨t,rfl⟩:=r;rfl
 | _=>show aN (show ak=aa from f) dQ
def tf:∀{c:Y V} {d:Y ae},Vals c d->c.all A7=aa->d.any (w9 x)=c.any λy=>G6 y x
 | _,_, .nil,_=>rfl
 | y::c,u::d, .cons r t,f=>by rw[sd,cn] at f;rw[oH,oH,xh r f.1,tf t f.2]
def qK{A:bY}{s:au}{x:V}{v:ae}(g:RelV x v)(h:A7 x=aa):∀{d:Y V} {e:Y ae},Vals d e->d.all A7=aa->∀u∈e,Mq A s u v (w9 x u)
 | _,_, .nil,_=>λu c=>∅
 | y::d,u::e, .cons r t,f=>λi c=>by
   rw[sd,cn] at f;obtain rfl| c:=cp.mp c
   ·rw[xh r f.1];show abp r g f.1 h
   ·show qK g h t f.2 i c
def W6(x:V)(c:Y V):Bool:=c.any λy=>G6 y x
def N2(K:aG)(d:Bool):R2:=λx y H Q=>∃p c,y= .ref p/\(SqL K H p c\/d7 K H p c)/\A7 x=aa/\c.all A7=aa/\Q (.bl (if d then !W6 x c else W6 x c)) H
def Uz:e9 X (et .In) (N2 X.K ak):=by
 ext f s n H x y v u Q I i k h;let⟨p,o,rfl,d,j,e,q⟩:=h;cases k;obtain d| d:=d
 ·let⟨c,r,g,l⟩:=I.list d;show SeqAt.in_listAt (w9 x) g.isList (λw m=>qK i j r e w ∅) ⟨.bl _,H,I,B,?_⟩;rw[show c.toArray.any (w9 x)=c.any (w9 x) by simp,tf r e];show q
 ·let⟨c,r,g,l⟩:=I.tuple d;show SeqAt.in_tupleAt (w9 x) g (λw m=>qK i j r e w ∅) ⟨.bl _,H,I,B,?_⟩;rw[show c.toArray.any (w9 x)=c.any (w9 x) by simp,tf r e];show q
def QC:e9 X (et .NotIn) (N2 X.K aa):=by
 ext f s n H x y v u Q I i k h;let⟨p,o,rfl,d,j,e,q⟩:=h;cases k;obtain d| d:=d
 ·let⟨c,r,g,l⟩:=I.list d;show SeqAt.notIn_listAt (w9 x) g.isList (λw m=>qK i j r e w ∅) ⟨.bl _,H,I,B,?_⟩;rw[show c.toArray.any (w9 x)=c.any (w9 x) by simp,tf r e];show q
 ·let⟨c,r,g,l⟩:=I.tuple d;show SeqAt.notIn_tupleAt (w9 x) g (λw m=>qK i j r e w ∅) ⟨.bl _,H,I,B,?_⟩;rw[show c.toArray.any (w9 x)=c.any (w9 x) by simp,tf r e];show q
def QM:i3 X (.builtin "len") (λk H Q=>∃p c,k= [.ref p]/\(SqL X.K H p c\/d7 X.K H p c)/\Q (.int ⇑c) H):=by
 ext f s n H k o Q I r h;let⟨p,c,rfl,d,q⟩:=h;let⟨u,rfl,l⟩:=vals1 r;cases l;let t:=qY;obtain d| d:=d
 ·let⟨g,i,j,m⟩:=I.list d;let e:=i.length;show Calls.call_len_list j.isList ⋯ ⟨.int ⇑c,H,I.tok _,⟨s.toks+1,∅⟩,q⟩
 ·let⟨g,i,j,m⟩:=I.tuple d;let e:=i.length;show len_tuple j ⋯ ⟨.int ⇑c,H,I.tok _,⟨s.toks+1,∅⟩,q⟩
def QL:i3 X (.type "list") (λC H Q=>∃p f,C= [.ref p]/\(SqL X.K H p f\/d7 X.K H p f)/\∀l,H l=ah->Q (.ref l) (upd H l (.lst f))):=by
 ext g s E H C T Q I r h;let⟨p,f,rfl,k,q⟩:=h;let⟨u,rfl,L⟩:=vals1 r;cases L;let m:∀(c:Y ae),Vals f c-> ⇑f<=aV->∀(d:bA) (i:Nat),(∀b D,s.heap.get? b=J D->d.get? b=J D)->
  d.get? ↥s=J {cls:= .type "list",dict:=ah,data:= .seq c.toArray i,slots:= #[]}->n8 X g E Q (.ref ↥s) {s with heap:=d}:=λc j t d i v e=>
  ⟨.ref ↥s,_,I.laid (t':=s.toks) v (br _) (show f7 X.prog X.w _ d _ (.lst f)from⟨t,c,i,j,e⟩),B,q _ (I.aQ.fresh (br _))⟩
 obtain k| k:=k
 ·let⟨c,j,x,t⟩:=I.list k;let w:=j.length;let⟨o,y,z,n,A⟩:=x.isList;show call_list_seq p (.inl B) y z A (λd i v e=>m c j t d i v e) ∅
 ·let⟨c,j,x,t⟩:=I.tuple k;let w:=j.length;let⟨o,y,z,n,A⟩:=x;show call_list_seq p (.inr B) y z A (λd i v e=>m c j t d i v e) ∅
def ab1(K:aG)(T:String)(x:V)(H:Hp):Prop:=match x with
 | .str _=>T="str"
 | .int _=>T="int"
 | .ref p=>(T="list"/\∃d,SqL K H p d)\/(T="tuple"/\∃o,K.lookup p=J o/\o.cls= .type "tuple"/\o.dict=ah)\/
    (T="dict"/\((∃c,H p=J (.dK c))\/∃c,H p=J (.dT c)))\/(T="set"/\∃S n,H p=J (.set S n))
 | _=>False
def My(I:Inv X h A H s)(r:RelV x v)(g:ab1 X.K T x H):
 s.TypeIs v T/\∀a,v= .ref a->∃m,s.heap.get? a=J m/\m.dict=none:=by
 cases x with
 | str z=>let⟨t,rfl⟩:=r;cases(show T="str" from g);show⟨typeIs_str s z t,λ_ e=>nomatch e⟩
 | int i=>let⟨t,rfl⟩:=r;cases(show T="int" from g);show⟨typeIs_int s i t,λ_ e=>nomatch e⟩
 | ref p=>
   cases r;obtain⟨rfl,C,u⟩| ⟨rfl,o,d,w,j⟩| ⟨rfl,d⟩| ⟨rfl,S,n,d⟩:=g
   ·let⟨y,_,q,_⟩:=I.list u;show⟨q.isList.typeIs,λa e=> ?_⟩;cases e;let⟨o,n,e,c,j,_⟩:=q;show⟨o,e,j⟩
   ·show⟨⟨o,I.ee p o d,w⟩,λa e=> ?_⟩;cases e;show⟨o,I.ee _ o d,j⟩
   ·have z:∃o,s.heap.get? p=J o/\o.ExactDict:=by
     obtain⟨k,d⟩| ⟨k,d⟩:=d
     ·let⟨_,_,_,_,o,_,_,e,f,_⟩:=I.aQ p _ d;show⟨o,e,f⟩
     ·let⟨_,_,_,_,o,_,_,e,f,_⟩:=I.aQ p _ d;show⟨o,e,f⟩
    let⟨o,e,f⟩:=z;show⟨⟨o,e,f.1⟩,λa l=> ?_⟩;cases l;show⟨o,e,f.2.1⟩
   ·let⟨o,_,_,_,e,f,_⟩:=I.aQ p _ d;show⟨⟨o,e,f.1⟩,λa l=> ?_⟩;cases l;show⟨o,e,f.2.1⟩
 | _=>show gZ g
def V1(K:aG)(T:String)(r:V->Y V->Hp->VK->Prop)(d:TE):TE:=λe H Q=>d e H λx c=>ab1 K T x c/\r x [] c Q
def N0(K:aG)(T:String)(r:V->Y V->Hp->VK->Prop)(e:TE)(t:TA):TE:=λc H Q=>e c H λx d=>ab1 K T x d/\t c d λf g=>r x f g Q
variable {o e:aZ} {es:Y aZ} {to:TE} {t:TA} {name:Str} {cO dX:Pos} {T id:String} {r:V->Y V->Hp->VK->Prop}
def aaN(m:Cq T)(g:Slot T name id)(i:typeOf (.builtin id)=pure (.type "method_descriptor"))(n:O9 X id r)(p:b3 X o to)(d:jY o name X.env (eval o X.env)=eval o X.env:=by rfl)(f:(cO.endLine==dX.line)=true:=by rfl):b3 X (.Call (.Attribute o name cO) [] [] dX) (V1 X.K T r to):=by ext c s j H Q I h;show wpAny_Call_method0_late d f (aM (p c s j H _ I h) λv q ⟨x,u,k,l,w,y⟩=> ?_);let⟨z,A⟩:=My k l w;show⟨T,id,m,g,i,z,A,EF B (yB (n c q j u x [] v [] Q k l .nil y))⟩
def abQ(q:Cq T)(g:Slot T name id)(k:typeOf (.builtin id)=pure (.type "method_descriptor"))(u:O9 X id r)(w:b3 X o to)(y:j2 X (e::es) t)(d:jY o name X.env (eval o X.env)=eval o X.env:=by rfl)
 (i:((dh dX (aH (e::es) X.env)).all (λx=> !x.1) && (nG dX (nq [] X.env)).all (λx=>x.1.isSome)
  && decide (⇑(e::es)+⇑([]:List q_)+(if([]:Y q_).isEmpty then 0 else 1)<30))=true:=by rfl)
 (f:(cO.endLine==dX.line)=true:=by rfl)(z:aH (e::es) X.env=(ak,eval e X.env)::aH es X.env:=by rfl)(j:(dh dX (aH es X.env)).any (·.1)=false:=by rfl):
 b3 X (.Call (.Attribute o name cO) (e::es) [] dX) (N0 X.K T r to t):=by
 ext c s l H Q I h;show wpAny_Call_method_late d i f B (aM (w c s l H _ I h) λv A ⟨x,C,m,n,D,E⟩=> ?_);let⟨L,h2⟩:=My m n D;show⟨T,id,q,g,k,L,h2,?_⟩;let p:=y dX c A l C _ m E;rw[z] at p⊢;show EF ∅ (Tw ?_);show aM p λus s2 ⟨vs,H2,I2,r2,q2⟩=>u c s2 l H2 x vs v us Q I2 n r2 q2
end
def ab5(X:Cx)(id:String)(r:V->Y V->Hp->VK->Prop):Prop:=
 ∀(a:Y (ab×Obj)) (s:au) (b:St) (H:Hp) (x:V) (c:Y V) (v:ae) (d:Y ae) (Q:VK),Inv X a b H s->RelV x v->Vals c d->r x c H Q->
  ao (aD X.prog X.w) X.A (call (.builtin id) (v::d)) (n8 X a b Q) X.xe s
def Vals.one{x:V}{a:Y ae}(h:Vals [x] a):∃u,a= [u]/\RelV x u:=by
 cases h with
 | cons r t=>cases t;show⟨_,B,r⟩
def Vals.zero:∀{a:Y ae},Vals [] a->a= []
 | _, .nil=>rfl
def Vals.dropLast{a:Y V}{b:Y ae}(h:Vals a b):Vals a.dropLast b.dropLast:=by
 induction h with
 | nil=>show .nil
 | cons r t c=>
   cases t with
   | nil=>show .nil
   | cons q d=>show .cons r c
def Vals.rep(h:Vals a b):∀k:Nat,Vals (de k a).flatten (de k b).flatten
 | 0=> .nil
 | k+1=>by rw[rM,rM,qj,qj];show Vals.append h (Vals.rep h k)
def HG{a:Type}(l:Y a):l.eraseIdx (⇑l-1)=l.dropLast:=⋯
def foldl_rep(a:Y ae):∀(k:Nat) (b:Y ae),
 Mw (λc d=>c++d) b.toArray (de k a.toArray)=(b++(de k a).flatten).toArray
 | 0,b=>⋯
 | k+1,b=>by let e:b.toArray++a.toArray=(b++a).toArray:=⋯;let f:(b++a)++(de k a).flatten=b++(de (k+1) a).flatten:=⋯;rw[<-f,<-foldl_rep a k (b++a),<-e,rM,gU]
section
variable {X:Cx} {kP:Y (ab×Obj)} {σ:St} {H:Hp} {s:au} {l b:ab} {xs ys zs:Y V}
def Inv.CL{a its':Y ae}{n:Nat}{f:Array ae->Array ae}{c:Nat}(I:Inv X kP σ H s)(d:H l=J (.lst xs))(e:s.heap.get? l=J {cls:= .type "list",data:= .seq a.toArray n})(g:f a.toArray=its'.toArray)(h:Vals ys its')(i: ⇑ys<=aV):
 Inv X kP σ (upd H l (.lst ys)) {s with heap:=s.heap.update l (wd f),toks:=c}:=by
 let q:=PySem.IsL.update e f;rw[g] at q;show I.write (x:=l) (e:=l) (by rw[d];show trivial) (.inl B) (λm u j k=>(gO s.heap (wd f) (eF j)).trans k) ⟨_,q⟩ ?_;show⟨i,its',_,h,q⟩
def Inv.NJ(I:Inv X kP σ H s)(c:Vals ys a)(d: ⇑ys<=aV):
 Inv X kP σ (upd H ↥s (.lst ys)) {s with heap:=s.heap.push {cls:= .type "list",data:= .seq a.toArray},toks:=t'}:=
 I.laid (λ_ _ q=>bQ _ q) (br _) ⟨d,a,0,c,cg _ B⟩
def Inv.fresh(I:Inv X kP σ H s):H ↥s=none:=I.aQ.fresh (br _)
def Inv.pL(I:Inv X kP σ H s)(c:H l=J (.lst xs)): ⇑xs<=aV/\∃(a:Y ae) (n:Nat),Vals xs a/\ ⇑xs=⇑a/\s.heap.get? l=J {cls:= .type "list",data:= .seq a.toArray n}:=by let⟨z,a,n,r,e⟩:=I.aQ l _ c;show⟨z,a,n,r,r.length,e⟩
def Kj{n:Nat}(h:n<=aV):yd n=false:=by delta yd;show jw ∅
end
section
variable {X:Cx}
def R8:V->Y V->Hp->VK->Prop:=λx b H Q=>∃l a y,x= .ref l/\b= [y]/\H l=J (.lst a)/\ ⇑a<aV/\Q .bO (upd H l (.lst (a++ [y])))
def kb:ab5 X "list.append" R8:=by
 ext b s i H x j v k Q I d f h;let⟨l,m,y,rfl,rfl,c,o,q⟩:=h;cases d;let⟨u,rfl,g⟩:=f.one;let⟨z,a,n,r,p,e⟩:=I.pL c;show qN F.slot_list_append ⟨_,e,B⟩ F.entry_list_append (F.args_list_append_2 _ _) (PySem.list_append l a.toArray n u ∅) ⟨e,?_⟩;show⟨.bO,_,I.CL (its':=a++ [u]) c e ⋯ (r.append (.cons g .nil)) ?_,B,q⟩;rw[dA,qe]
 cbv
def ac3:V->Y V->Hp->VK->Prop:=λx d H Q=>∃l b a c,x= .ref l/\d= [.ref b]/\H l=J (.lst a)/\H b=J (.lst c)/\ ⇑a+⇑c<=aV/\Q .bO (upd H l (.lst (a++c)))
def lU:ab5 X "list.extend" ac3:=by
 ext f s A H x C v D Q I j k h;let⟨l,b,E,L,rfl,rfl,i,m,T,q⟩:=h;cases j;let⟨u,rfl,o⟩:=k.one;cases o;let⟨z,c,n,r,hl,e⟩:=I.pL i;let⟨z2,a,p,t,w,y⟩:=I.pL m;let g:c.toArray.size+a.toArray.size<=aV:=∅;let d:¬(!c.toArray.isEmpty && yd (c.toArray.size+a.toArray.size))=true:=by rw[Kj g,Jx];show dQ
 refine qN F.slot_list_extend ⟨_,e,B⟩ F.entry_list_extend (F.args_list_extend_2 _ _)
  (AutoSeq1.list_extend_list_list_0 l c.toArray n b a.toArray p d ∅ ∅) ⟨e,y,?_⟩
 show⟨.bO,_,I.CL (its':=c++a) i e ⋯ (r.append t) ?_,B,q⟩;rw[dA]
 cbv
def af9:V->Y V->Hp->VK->Prop:=λx b H Q=>∃l a y,x= .ref l/\b= []/\H l=J (.lst a)/\a[⇑a-1]? =J y/\Q y (upd H l (.lst a.dropLast))
def MP:ab5 X "list.pop" af9:=by
 ext b s m H x o v p Q I g i h;let⟨l,t,y,rfl,rfl,f,j,q⟩:=h;cases g;let c:=i.zero;subst c;let⟨z,a,n,r,w,e⟩:=I.pL f;let⟨u,A,k⟩:=r.get j;let d:a.toArray[a.toArray.size-1]? =J u:=∅;show qN F.slot_list_pop ⟨_,e,B⟩ F.entry_list_pop (F.args_list_pop_1 _) (MeetsSeq.list_pop_last l a.toArray n u d ∅) ⟨e,?_⟩;show⟨y,_,I.CL (its':=a.dropLast) f e ?_ r.dropLast ?_,k,q⟩
 ·cbv
 ·lk
def ag0:R2:=λx y H Q=>∃l b a c,x= .ref l/\y= .ref b/\H l=J (.lst a)/\H b=J (.lst c)/\ ⇑a+⇑c<=aV/\∀p,H p=ah->Q (.ref p) (upd H p (.lst (a++c)))
def gF:e9 X (iM .Add) ag0:=by ext d s t H x y v u Q I f g h;let⟨l,b,w,A,rfl,rfl,i,j,C,q⟩:=h;cases f;cases g;let⟨z,c,n,r,D,e⟩:=I.pL i;let⟨E,a,L,k,m,o⟩:=I.pL j;show PySem.P.add_list e o ?_ ∅;let p:c.toArray++a.toArray=(c++a).toArray:=⋯;rw[p];show⟨.ref _,_,I.NJ (t':=s.toks) (r.append k) ∅,B,q _ I.fresh⟩
def af8:R2:=λx y H Q=>∃l k a,x= .ref l/\y= .int k/\H l=J (.lst a)/\-(2^63)<=k/\k<2^63/\ ⇑a*k.toNat<=aV/\
 ∀p,H p=ah->Q (.ref p) (upd H p (.lst (de k.toNat a).flatten))
def len_rep(a:Y c)(k:Nat): ⇑(de k a).flatten=k*⇑a:=by
 induction k with
 | zero=>simp
 | succ k b=>rw[rM,qj,dA,b,Nat.succ_mul,Lg]
def MJ:e9 X (iM .Mult) af8:=by
 ext j s σ H x y v u Q I w A h;let⟨l,k,xs,rfl,rfl,C,D,E,L,q⟩:=h;cases w;let⟨t,rfl⟩:=A;let⟨z,b,n,r,hl,e⟩:=I.pL C;let d:b.toArray.size*k.toNat<=aV:=∅;let f:¬b.toArray.size*k.toNat>(2^63-1)/8:=by have:(aV:Nat)<=(2^63-1)/8:=⋯;lk
 let g:¬(!fw.List.listFitsIndex k)=true:=by rw[fitsIndex_both D E];show dQ
 let c:¬yd (b.toArray.size*k.toNat)=true:=by rw[Kj d];show dQ
 have i:Mw (λo p=>o++p) #[] (de (if b.toArray.isEmpty=aa then 0 else k.toNat) b.toArray)=(de k.toNat b).flatten.toArray:=by
  let T:∀m:Nat,Mw (λo p=>o++p) #[] (de m b.toArray)=(de m b).flatten.toArray:=λm=>by have:=foldl_rep b m [];rw[uS] at this;show this
  rw[T];cases b with
  | nil=>simp
  | cons a r'=>rw[aj ⋯]
 refine wpAny_binaryOp_repeat_ref (T:="list") (U:="int") ∅ ⟨_,e,B⟩ (λs'=>typeIs_int s' k t) noFill_list_mul F.fills_int_mul F.slot_int_rmul repeat_list F.slot_int_index.lookup
  (qN F.slot_int_rmul (typeIs_int s k t) F.entry_int_rmul (F.args_int_rmul_2 _ _) (int___rmul___int_list k t l b.toArray n)
   ⟨e,B,⟨_,e,B⟩,qN F.slot_list_mul ⟨_,e,B⟩ F.entry_list_mul (F.args_list_mul_2 _ _) (AutoListH.list___mul___list_int_3 l b.toArray n k t g f c) ⟨e,?_⟩⟩)
 rw[i];show⟨.ref _,_,I.NJ (t':=s.toks) (r.rep k.toNat) (by rw[len_rep,AR];show L),B,q _ I.fresh⟩
end
section
variable {prog:bD} {w:bf} {A:bY} {E:ae->au->Prop} {s:au}
set_option maxRecDepth 100000 in
end
section
variable {X:Cx}
end
def Vals.ints:∀{b:Y Int} {a:Y ae},Vals (b.map V.int) a->eG a b
 | [],a,h=>by rw[nc] at h;cases h;show IntsAre.nil
 | n::b,a,h=>by
   rw[bp] at h;cases h with
   | cons r t=>let⟨k,rfl⟩:=r;show IntsAre.cons n k (Vals.ints t)
def Fv:∀{a:Y ae} {b:Y Int},eG a b->Vals (b.map V.int) a
 | _,_, .nil=>by rw[nc];show Paired.nil
 | _,_, .cons n t h=>by rw[bp];show Paired.cons (show RelV (V.int n) (jC n t)from⟨t,B⟩) (Fv h)
def Vals.DO:∀{c:List Bool} {a:List ae},Vals (c.map V.bl) a->a=c.map lV
 | [],a,h=>by rw[nc] at h;cases h;rfl
 | b::c,a,h=>by
   rw[bp] at h;cases h with
   | cons r t=>cases r;rw[Vals.DO t,bp]
def Vals.ko{a:ab}{b:List ae}(r:Vals [V.ref a] b):b= [bK a]:=by
 cases r with
 | cons r t=>cases t;cases r;rfl
section
variable {prog:bD} {w:bf} {A:bY} {E:ae->au->Prop} {s:au} {l:ab} {gL:Y ae} {ns:Y Int} {Q:ae->au->Prop}
def Yn(j:A.handled=ah)(f:s.heap.IsList l gL.toArray)(g:eG gL ns)(h:∀a c d,(∀b o,s.heap.get? b=J o->a.get? b=J o)->Q (.int ns.sum d) {s with heap:=a,toks:=c}):ao (aD prog w) A (call (.builtin "sum") [.ref l]) Q E s:=by
 let⟨k,e⟩:=g.allInts.items;let i:numsOf (intItems k).toList=ns:=by rw[<-e];show g.numsOf
 rw[Mp] at i;rw[e] at f;show PySem.sum_intListG j f λa c d m=> ?_;have:=h a c d m;rw[preSum_eq,rE ⋯,i];show this
def Zh(p:A.handled=ah)(k:s.heap.IsList l gL.toArray)(m:eG gL ns)(q:0<⇑ns)(h:∀d g c r,(∀b o,s.heap.get? b=J o->d.get? b=J o)->c∈ns->(∀a,a∈ns->a<=c)->Q (.int c r) {s with heap:=d,toks:=g}):ao (aD prog w) A (call (.builtin "max") [.ref l]) Q E s:=by
 let⟨f,e⟩:=m.allInts.items;let n:numsOf (intItems f).toList=ns:=by rw[<-e];show m.numsOf
 rw[Mp] at n;subst n;rw[e] at k;let i:0<f.size:=∅;show PySem.max_intList p k i λv d g u x=> ?_;let⟨t,rfl⟩:=intItems_at u;let⟨D,y⟩:=argBest_gt (numAt f) (f.size-1);show h d g _ t x ?_ λa z=> ?_
 ·rw[CF];show Z_ ⋯
 ·let⟨j,C,rfl⟩:=mem_getD z;rw[aF,fR] at C;rw[<-CF];show y j ⋯
def Zf(p:A.handled=ah)(k:s.heap.IsList l gL.toArray)(m:eG gL ns)(q:0<⇑ns)(h:∀d g c r,(∀b o,s.heap.get? b=J o->d.get? b=J o)->c∈ns->(∀a,a∈ns->c<=a)->Q (.int c r) {s with heap:=d,toks:=g}):ao (aD prog w) A (call (.builtin "min") [.ref l]) Q E s:=by
 let⟨f,e⟩:=m.allInts.items;let n:numsOf (intItems f).toList=ns:=by rw[<-e];show m.numsOf
 rw[Mp] at n;subst n;rw[e] at k;let i:0<f.size:=∅;show PySem.min_intList p k i λv d g u x=> ?_;let⟨t,rfl⟩:=intItems_at u;let⟨D,y⟩:=argBest_lt (numAt f) (f.size-1);show h d g _ t x ?_ λa z=> ?_
 ·rw[CF];show Z_ ⋯
 ·let⟨j,C,rfl⟩:=mem_getD z;rw[aF,fR] at C;rw[<-CF];show y j ⋯
end
section
variable {X:Cx}
def Z6(K:aG):Y V->Hp->VK->Prop:=λc H Q=>∃(a:ab) (b:Y Int),c= [V.ref a]/\SqL K H a (b.map V.int)/\Q (.int b.sum) H
def aa1(K:aG):Y V->Hp->VK->Prop:=λc H Q=>∃(a:ab) (b:Y Int),c= [V.ref a]/\SqL K H a (b.map V.int)/\0<⇑b/\∀m,m∈b->(∀y,y∈b->y<=m)->Q (.int m) H
def aa0(K:aG):Y V->Hp->VK->Prop:=λc H Q=>∃(a:ab) (b:Y Int),c= [V.ref a]/\SqL K H a (b.map V.int)/\0<⇑b/\∀m,m∈b->(∀y,y∈b->m<=y)->Q (.int m) H
def abv(c:X.calm=aa):i3 X (.builtin "sum") (Z6 X.K):=by ext b s j H k l Q I r h;let⟨a,m,rfl,d,q⟩:=h;let⟨e,f,g,_⟩:=I.list d;rw[Vals.ko r];show Yn (I.ok.hd c) g.isList f.ints λn o p i=>⟨.int _,H,I.kept i,⟨_,B⟩,q⟩
def abx(d:X.calm=aa):i3 X (.builtin "max") (aa1 X.K):=by ext b s n H o p Q I r h;let⟨a,t,rfl,e,c,q⟩:=h;let⟨f,g,i,_⟩:=I.list e;rw[Vals.ko r];show Zh (I.ok.hd d) i.isList g.ints c λu v m w j k l=>⟨.int _,H,I.kept j,⟨_,B⟩,q m k l⟩
def abw(d:X.calm=aa):i3 X (.builtin "min") (aa0 X.K):=by ext b s n H o p Q I r h;let⟨a,t,rfl,e,c,q⟩:=h;let⟨f,g,i,_⟩:=I.list e;rw[Vals.ko r];show Zf (I.ok.hd d) i.isList g.ints c λu v m w j k l=>⟨.int _,H,I.kept j,⟨_,B⟩,q m k l⟩
end
section
variable {X:Cx}
def Y7(K:aG):V->Y V->Hp->VK->Prop:=λx d H Q=>∃(a:ab) (b:Y V) (y:V) (j:Nat) (z:V),x=V.ref a/\d= [y]/\SqL K H a b/\A7 y=aa/\b.all A7=aa/\b[j]? =J z/\G6 z y=aa/\
 (∀(m:Nat) (c:V),m<j->b[m]? =J c->G6 c y=ak)/\Q (.int (j:Nat)) H
def LO{a:Y V}(f:a.all A7=aa){j:Nat}{z:V}(h:a[j]? =J z):A7 z=true:=eQ.mp f z (cD h)
def WS:O9 X "list.index" (Y7 X.K):=by
 ext f s σ H x xs v us Q I rx g h;let⟨a,i,y,j,z,rfl,rfl,hs,fy,c,C,k,l,q⟩:=h;cases rx;cases g with
 | cons ry rt=>
   rename_i uy ut;cases rt;let⟨b,e,⟨⟨cls,dd,D,sl⟩,n,E,L,Og,T⟩,hlen⟩:=I.list hs;simp only at L T;subst L T;let⟨u,hu,ru⟩:=e.get C;let⟨hjl,o⟩:=dZ.mp hu;let hvl:=e.length;let hj:j<b.toArray.size:=⋯;let Du:=bM;show qN uz ⟨_,E,B⟩ PySem.F.entry_list_index (PySem.F.args_list_index_2 _ _)
    (SeqAt.list_indexAt a b.toArray n dd sl uy (w9 y) j hj ⋯ ?_ ?_) ⟨E,λu' hu'=>qK ry fy e c u' ∅,?_⟩
   ·let p:b.toArray[j]=u:=by simpa using o
    rw[p,xh ru (LO c C)];show k
   ·ext m hm r;let Od:m<⇑b:=∅;let t:m<⇑i:=∅;let d:i[m]? =J i[m]:=cW t;let⟨u2,w,A⟩:=e.get d;let⟨_,hme⟩:=dZ.mp w;let p:b.toArray[m]=u2:=∅;rw[p,xh A (LO c d)];show l m _ r d
   ·show⟨.int (j:Nat),H,I.tok _,⟨_,B⟩,q⟩
end
section
variable {X:Cx}
end
def Ks{c:bD}{w:bf}{A:bY}{E:ae->au->Prop}{s:au}{l:ab}{b:Array ae}{Q:ae->au->Prop}(d:s.heap.IsList l b)(h:∀a:au,a={s with heap:=s.heap.push {cls:= .type "list_iterator",data:= .fields #[.ref l, .int 0 0]}}->
  (a.heap.IsListIter ↥s l 0/\a.heap.IsList l b)->l≠ ↥s->Q (.ref ↥s) a):ao (aD c w) A (pyIter (.ref l)) Q E s:=by
 let f:l<↥s:=by let⟨_,e,_⟩:=d;show bF e
 show oA d (h _ B ⟨⟨_,cg _ B,B,B⟩,d.push _⟩ (cK f))
def Gb{c:bD}{w:bf}{A:bY}{g:Y Bool}{a:Y ae}(e:a=g.map lV):
 TruthOf c w A (λi v=>a.toArray[i]? =J v) (λi=>g.getD i ak):=λi v s Q E l h=>by
 let d:a[i]? =J v:=⋯;rw[e,cP] at d;let⟨b,j,rfl⟩:=qd.mp d;let k:g.getD i ak=b:=by rw[dJ,j]<;>rfl
 let f:Q (g.getD i ak) s:=h;rw[k] at f;show kL f
def any_range:∀a:List Bool,(bR a.length).any (λi=>a.getD i false)=a.any id
 | []=>rfl
 | b::a=>by
   rw[cX,rF,oH,vy,oH,<-any_range a]
   all_goals rfl
def all_range:∀a:List Bool,(bR a.length).all (λi=>a.getD i false)=a.all id
 | []=>rfl
 | b::a=>by
   rw[cX,rF,sd,vz,sd,<-all_range a]
   all_goals rfl
section
variable {X:Cx}
def aa2(K:aG):Y V->Hp->VK->Prop:=λc H Q=>∃(a:ab) (b:Y Bool),c= [V.ref a]/\SqL K H a (b.map V.bl)/\Q (.bl (b.any id)) H
def aa3(K:aG):Y V->Hp->VK->Prop:=λc H Q=>∃(a:ab) (b:Y Bool),c= [V.ref a]/\SqL K H a (b.map V.bl)/\Q (.bl (b.all id)) H
def aby(k:X.calm=aa):i3 X (.builtin "any") (aa2 X.K):=by
 ext d s v H w x Q I r h;let⟨a,y,rfl,l,q⟩:=h;let⟨e,m,n,_⟩:=I.list l;rw[Vals.ko r];let g:=m.DO;show call_any_walk (Ks n.isList λi p st f=> ?_);subst p;show⟨_,_,_,_,_,_,_,B,sC (A:=X.A.in1) (I.ok.hd k) _ a f e.toArray,st,Gb g,λz A t=> ?_⟩;show⟨.bl _,H,I.kept λb o j=>t b o (λc=> ?_) (bQ _ j),?_,q⟩
 ·obtain u| c:=cp.mp c
  ·show aN (u▸bF j) (jy _)
  ·cases c
 ·change lV _=lV _;rw[<-any_range,g,jR,aF]
def abz(k:X.calm=aa):i3 X (.builtin "all") (aa3 X.K):=by
 ext d s v H w x Q I r h;let⟨a,y,rfl,l,q⟩:=h;let⟨e,m,n,_⟩:=I.list l;rw[Vals.ko r];let g:=m.DO;show call_all_walk (Ks n.isList λi p st f=> ?_);subst p;show⟨_,_,_,_,_,_,_,B,sC (A:=X.A.in1) (I.ok.hd k) _ a f e.toArray,st,Gb g,λz A t=> ?_⟩;show⟨.bl _,H,I.kept λb o j=>t b o (λc=> ?_) (bQ _ j),?_,q⟩
 ·obtain u| c:=cp.mp c
  ·show aN (u▸bF j) (jy _)
  ·cases c
 ·change lV _=lV _;rw[<-all_range,g,jR,aF]
end
mutual
inductive Dp(K:aG)(H:Hp):V->nX->Prop
 | bO:Dp K H .bO .none
 | bl (b:Bool):Dp K H (.bl b) (.bool b)
 | int (i:Int):Dp K H (.int i) (.int i)
 | str (x:Str):Dp K H (.str x) (.str x)
 | lst {a:ab} {xs:Y V} {ds:Y nX}:SqL K H a xs->pF K H xs ds->Dp K H (.ref a) (.list ds)
 | tup {a:ab} {xs:Y V} {ds:Y nX}:d7 K H a xs->pF K H xs ds->Dp K H (.ref a) (.tuple ds)
inductive pF(K:aG)(H:Hp):Y V->Y nX->Prop
 | nil:pF K H [] []
 | cons {v:V} {vs:Y V} {d:nX} {ds:Y nX}:Dp K H v d->pF K H vs ds->pF K H (v::vs) (d::ds)
end
section
variable {X:Cx} {kP:Y (ab×Obj)} {σ:St} {H:Hp} {s:au}
mutual
def Dp.reads(I:Inv X kP σ H s):∀(d:nX) (v:V) (u:ae),Dp X.K H v d->RelV v u->∃c,Reads s.heap u d c
 | .none,_,_,h,r=>by cases h;cases r;show⟨_,Reads.none⟩
 | .bool b,_,_,h,r=>by cases h;cases r;show⟨_,Reads.bool b⟩
 | .int i,_,_,h,r=>by cases h;let⟨t,rfl⟩:=r;show⟨_,Reads.int i t⟩
 | .str x,_,_,h,r=>by cases h;let⟨t,rfl⟩:=r;show⟨_,Reads.str x t⟩
 | .list e,_,_,h,r=>by
   cases h with
   | lst f g=>cases r;let⟨a,j,⟨o,n,k,l,_,m⟩,_⟩:=I.list f;let⟨c,p⟩:=Dp.readsAll I e _ a g j;show⟨_,Reads.list k l m p⟩
 | .tuple e,_,_,h,r=>by
   cases h with
   | tup f g=>cases r;let⟨a,j,⟨o,k,l,n,m⟩,_⟩:=I.tuple f;let⟨c,p⟩:=Dp.readsAll I e _ a g j;show⟨_,Reads.tuple k l m p⟩
 | .dict _,_,_,h,_=>by cases h
def Dp.readsAll(I:Inv X kP σ H s):∀(a:Y nX) (b:Y V) (c:Y ae),pF X.K H b a->Vals b c->∃e,ReadsAll s.heap c a e
 | [],_,_,h,r=>by cases h;cases r;show⟨_,ReadsAll.nil⟩
 | d::a,_,_,h,r=>by
   cases h with
   | cons f g=>
     cases r with
     | cons i j=>let⟨e,k⟩:=Dp.reads I d _ _ f i;let⟨m,l⟩:=Dp.readsAll I a _ _ g j;show⟨_,ReadsAll.cons k l⟩
end
end
section
variable {X:Cx}
def V4(K:aG):R2:=λx y H Q=>∃d e,Dp K H x d/\Dp K H y e/\oN d=aa/\oN e=aa/\Q (.bl (Mj d e)) H
def Z9(K:aG):R2:=λx y H Q=>∃d e,Dp K H x d/\Dp K H y e/\oN d=aa/\oN e=aa/\Q (.bl (!Mj d e)) H
def aaQ(b:X.A.units+64<ey):e9 X (et .Eq) (V4 X.K):=by ext a s n H x y v u Q I c f h;let⟨d,e,g,i,j,k,q⟩:=h;let⟨o,l⟩:=Dp.reads I d x v g c;let⟨p,m⟩:=Dp.reads I e y u i f;show SeqAt.compareEq_shaped l m j k b ⟨.bl _,H,I,B,q⟩
def aaP(b:X.A.units+64<ey):e9 X (et .NotEq) (Z9 X.K):=by ext a s n H x y v u Q I c f h;let⟨d,e,g,i,j,k,q⟩:=h;let⟨o,l⟩:=Dp.reads I d x v g c;let⟨p,m⟩:=Dp.reads I e y u i f;show SeqAt.compareNe_shaped l m j k b ⟨.bl _,H,I,B,q⟩
end
abbrev Nk(h:bA)(c:ab)(v:az ae):Prop:=h.IsCell c v
def af7(a b:gb):gb:=
 {a with names:=a.names.map λ(n,k)=>if(k== .free && b.kind== .function && b.names.lookup n==J .cell)then(n, .cell)else(n,k)}
def o4(a:Y (Str×ab)):Y (Str×ip)->Y (Str×ab)->Y (Str×ab)
 | [],b=>b
 | (n,k)::r,b=>if k== .free then o4 a r ((n,(a.lookup n).getD 0)::b)else o4 a r b
def FF(d:Env)(f:Str×ip->Y (Str×ab)->Sem (ForInStep (Y (Str×ab))))(i:∀n k c,f (n,k) c=if k== .free then(do let a<-cellOf d n;pure (.yield ((n,a)::c)))else pure (.yield c)):
 ∀(b:Y (Str×ip)) (g:Y (Str×ab)),(∀y∈b,y.2= .free->∃c,d.cells.lookup y.1=J c)->forIn b g f=pure (o4 d.cells b g)
 | [],g,_=>by rw[Jv];rfl
 | (n,k)::r,g,h=>by
   rw[aac,i];let l:=λg=>FF d f i r g λy m=>h y (iA _ m);delta o4;cases j:(k==zL)=aa
   ·rw[ar j,ar j];let⟨c,o⟩:=h (n,k) ie ∅;let e:cellOf d n=pure c:=by delta cellOf;rw[o]
    rw[e];let p:(d.cells.lookup n).getD 0=c:=∅;rw[p];show l _
   ·cbv
def Tf(h:∀y∈a.names,y.2= .free->∃c,b.cells.lookup y.1=J c):closureFor a b=pure (o4 b.cells a.names []):=by erw[closureFor];rw[FF b _ (λn k c=>B) a.names [] h];rfl
def mem_lookup:∀{l:Y (Str×a)} {n:Str} {c:a},(n,c)∈l->∃b,l.lookup n=J b
 | (k,v)::r,n,c,h=>by
   rw[kM];cases d:n==k with
   | true=>show⟨_,B⟩
   | false=>
     obtain e| h:=cp.mp h
     ·cases e;simp at d
     ·show mem_lookup h
def vb:∀{a:Y (Str×ip)} {b:Y (Str×ab)} {n:Str} {c:ab},(n,c)∈o4 d a b->(n,c)∈b\/((n, .free)∈a/\c=(d.lookup n).getD 0)
 | [],_,_,_,h=> .inl h
 | (m,k)::r,b,n,c,h=>by
   delta o4 at h;split at h
   ·rename_i e;let e:k= .free:=∅;obtain h| ⟨f,g⟩:=vb h
    ·lk
    ·cbv
   ·obtain h| ⟨f,g⟩:=vb h
    ·show .inl h
    ·cbv
def zD:∀{a:Y (Str×ip)} {b:Y (Str×ab)} {p:Str×ab},p∈b->p∈o4 c a b
 | [],_,_,h=>h
 | (m,k)::r,b,p,h=>by
   delta o4;split
   ·show zD (iA _ h)
   ·show zD h
def zC:∀{a:Y (Str×ip)} {acc:Y (Str×ab)} {n:Str},(n, .free)∈a->(n,(cells.lookup n).getD 0)∈o4 cells a acc
 | (m,k)::r,acc,n,h=>by
   delta o4;obtain e| h:=cp.mp h
   ·cases e;show zD ie
   ·split
    ·show zC h
    ·show zC h
def sx:∀{a:Y (Str×ip)} {h:bA} {d:Y (Str×ab)} {x:Str} {c:ab},(x,c)∈fE h.objs.size a d->
 (x,c)∈d\/((x, .cell)∈a/\h.objs.size<=c/\Nk (pushCells h a) c ah)
 | [],_,_,_,_,h=> .inl h
 | (n,k)::r,h,d,x,c,b=>by
   delta fE at b;delta pushCells;split at b
   ·rename_i f;rw[ar f];let f:k= .cell:=∅;rw[<-fC h {cls:= .type "cell",data:= .cell ah}] at b;obtain b| ⟨i,g,j⟩:=sx b
    ·obtain e| b:=cp.mp b
     ·cases e;show .inr ⟨f▸ie,br _,_,Aj r _ _ _ (cg _ B),B⟩
     ·show .inl b
    ·rw[fC] at g;show .inr ⟨iA _ i,GO g,j⟩
   ·rename_i f;rw[aj f];obtain b| ⟨i,g,j⟩:=sx b
    ·show .inl b
    ·cbv
def vI:∀{names:Y (Str×ip)} {n:Nat} {a:Y (Str×ab)} {p:Str×ab},p∈a->p∈fE n names a
 | [],_,_,_,h=>h
 | (m,k)::r,n,a,p,h=>by
   delta fE;split
   ·show vI (iA _ h)
   ·show vI h
def AJ:∀{a:Y (Str×ip)} {n:Nat} {acc:Y (Str×ab)} {x:Str},(x, .cell)∈a->∃c,(x,c)∈fE n a acc
 | (m,k)::r,n,acc,x,h=>by
   delta fE;obtain e| h:=cp.mp h
   ·cases e;show⟨n,vI ie⟩
   ·split
    ·show AJ h
    ·show AJ h
def AI:∀{e:Y (Str×ip)} {h:bA} {d:Y (Str×ab)} {x y:Str} {c:ab},(∀p∈d,p.2<h.objs.size)->(∀x y c,(x,c)∈d->(y,c)∈d->x=y)->
 (x,c)∈fE h.objs.size e d->(y,c)∈fE h.objs.size e d->x=y
 | [],_,_,_,_,_,_,i,g,f=>i _ _ _ g f
 | (n,k)::r,h,d,x,y,c,m,i,g,f=>by
   delta fE at g f;split at g
   ·rename_i j;rw[ar j] at f;rw[<-fC h {cls:= .type "cell",data:= .cell ah}] at g f;show AI (h:=h.push _) (λp l=> ?_) (λx y c a b=> ?_) g f
    ·rw[fC];obtain rfl| l:=cp.mp l
     ·show uO _
     ·lk
    ·lk
   ·rename_i j;rw[aj j] at f;show AI m i g f
def RC{a:Model}{A:bY}{E:ae->au->Prop}{s:au}{b:gb}{globals:ab}{d:Y (Str×ab)}{g:Str}{i:az ab}{code:ae}{f:Env}{e:ab}{Q:Env->au->Prop}(h:Q (newEnv b ↥s globals (fE (↥s+1) b.names d) g i code (J f) e)
  {s with heap:=pushCells (s.heap.push {cls:= .type "dict",data:= .dict #[]}) b.names}):
 ao a A (newFunctionEnv b globals d [] g i code (J f) e) Q E s:=by
 erw[newFunctionEnv,Fu,gq];show ag (wpAny_alloc ?_);show ag (wpAny_layCells _ (λn k c=>B) b.names d _ _ ?_);rw[show ↥({s with heap:=s.heap.push {cls:= .type "dict",data:= .dict #[]}}:au)=↥s+1 from fC ..];rw[Jv];show ag (ax (ax h))
def zA{c:gb}:∀{a:Y (Str×ip)} {x:Str} {k:ip},
 (a.map λ(n,k)=>if(k==zL && c.kind== .function && c.names.lookup n==J .cell)then(n,Ia)else(n,k)).lookup x=J k->
 ∃d,a.lookup x=J d/\(k=d\/(d= .free/\k= .cell))
 | [],_,_,h=>∅
 | (n,b)::r,x,k,h=>by
   let e:=@zA c r x k;let f:List.lookup x ((if(b==zL && c.kind== .function && c.names.lookup n==J .cell)=aa then(n,Ia)else(n,b))::(r.map _))=J k:=h;cases g:x==n with
   | true=>lk
   | false=>lk
structure pG(N:Y Str)(sc scope:gb)(own:Y (Str×Nat)):Prop where
 kind:scope.kind= .function
 uniq:∀y∈scope.names,scope.names.lookup y.1=J y.2
 ix:∀p∈own,N[p.2]? =J p.1
 free:∀y∈scope.names,y.2= .free->sc.names.lookup y.1=J .cell\/sc.names.lookup y.1=J .free
 own:∀y∈scope.names,y.2= .local\/y.2= .cell->y.1∈own.map (·.1)\/y.1∉N
/---/def wipe(a:St):LN0->St
 | []=>a
 | v::b=>(wipe a b).set v ah
def zu(a:St):∀b:LN0,⇑(wipe a b)=⇑a
 | []=>rfl
 | v::b=>by delta wipe;rw[jU,zu a b]
def An:∀{a:LN0},(wipe b a)[i]? =J (J x)->b[i]? =J (J x)/\i∉a
 | [],h=>⟨h,⋯⟩
 | v::a,h=>by
   delta wipe at h;cases c:v=i
   ·lk
   ·rw[Fp c] at h;let⟨d,e⟩:=An h;show⟨d,⋯⟩
abbrev Cx.eA(X:Cx)(s:au)(H:Hp)(a:gb)(b:Env)(c:Y ab):Cx:={X with s_0:=s,H_0:=H,env:=b,outer:=X.stack,ex:=c,fn:=λx=>a.names.lookup x==J .cell,pn:= [],xe:=λ_ _=>False}
section
variable {X:Cx} {kP:Y (ab×Obj)} {σ:St} {H:Hp} {s:au}
def RQ{d:gb}{own:Y (Str×Nat)}(I:Inv X kP σ H s)(C:pG X.N X.env.scope d own)(hN:X.N.Nodup)(u:∀b∈fp,E6 X kP H b/\b<↥s):
 Inv (X.eA s H d (fU d (fE (↥s+1) d.names (o4 X.env.cells d.names [])) ↥s X.env) fp) [] (wipe σ (own.map (·.2))) H {s with heap:=pushCells (s.heap.push {cls:= .type "dict",data:= .dict #[]}) d.names}:=by
 have L:∀y∈d.names,y.2= .free->∃c,X.env.cells.lookup y.1=J c:=λy v e=>by
  obtain k| k:=C.free y v e
  ·show I.ok.has _ (.inl k)
  ·show I.ok.has _ (.inr k)
 generalize g:fU d (fE (↥s+1) d.names (o4 X.env.cells d.names [])) ↥s X.env=f;let kp:∀b o,s.heap.get? b=J o->(pushCells (s.heap.push {cls:= .type "dict",data:= .dict #[]}) d.names).get? b=J o:=λb o e=>Aj _ _ _ _ (bQ _ e);let hL:f.locals=↥s:=by rw[<-g];rfl
 let j:f.cells=fE (↥s+1) d.names (o4 X.env.cells d.names []):=by rw[<-g];rfl
 let Q:f.scope=af7 d X.env.scope:=by rw[<-g];rfl
 rw[<-fC s.heap {cls:= .type "dict",data:= .dict #[]}] at j;let cm:∀{y c},(y,c)∈o4 X.env.cells d.names []->X.env.cells.lookup y=J c/\c<↥s:=λ{y c} l=>by
  obtain l| ⟨h,rfl⟩:=vb l
  ·cases l
  ·let⟨c,hc⟩:=L _ h B;rw[hc];let⟨w,z⟩:=I.cell _ _ hc;show⟨B,z.lt⟩
 have T:∀{y c},f.cells.lookup y=J c->(X.env.cells.lookup y=J c/\c<↥s)\/(↥s+1<=c/\Nk (pushCells (s.heap.push {cls:= .type "dict",data:= .dict #[]}) d.names) c ah):=λ{y c} e=>by
  rw[j] at e;obtain l| ⟨_,h2,h3⟩:=sx (gP e)
  ·show .inl (cm l)
  ·rw[fC] at h2;show .inr ⟨h2,h3⟩
 have look:∀{y},d.names.lookup y=J .free->∃c,f.cells.lookup y=J c/\X.env.cells.lookup y=J c:=λ{y} hl=>by
  let v:(y,zL)∈d.names:=gP hl;let⟨c',n⟩:=mem_lookup (vI (names:=d.names) (n:=(s.heap.push {cls:= .type "dict",data:= .dict #[]}).objs.size) (zC (cells:=X.env.cells) (acc:= []) v));rw[<-j] at n;show⟨c',n,?_⟩;rw[j] at n;obtain l| ⟨h,_,_⟩:=sx (gP n)
  ·show(cm l).1
  ·have:=C.uniq _ h;rw[hl] at this;cases this
 have okB:(X.eA s H d f fp).Ok:=by
  refine⟨I.ok.mod,by change f.scope.kind=_;rw[Q];show C.kind,by change f.globals=_;rw[<-g];show I.ok.glob,by change f.builtins=_;rw[<-g];show I.ok.blt,∅,
   λy z c e1 D=> ?_,λy v=> ?_,λy c z e=> ?_,I.ok.hd,I.ok.frames, .inl B,λb hb=>⟨?_,λy c e z=> ?_⟩,I.bs,da I.ok.mC I.sz,λb o e hb=> ?_,λb hb z=> ?_,I.stack,I.Lp⟩
  ·let e1:f.cells.lookup y=J c:=e1;let D:f.cells.lookup z=J c:=D;rw[j] at e1 D;show AI (λp hp=> ?_) (λy z c a b=>I.ok.inj y z c (cm a).1 (cm b).1) (gP e1) (gP D);rw[fC];show y_ (cm (y:=p.1) (c:=p.2) hp).2
  ·change∃c,f.cells.lookup y=J c;let x:∀k,f.kindOf y=J k->(k= .cell\/k= .free)->∃c,f.cells.lookup y=J c:=λk hk oe=>by
      delta Env.kindOf at hk;rw[Q] at hk;let⟨E,e,r⟩:=zA hk;have:E= .cell\/E= .free:=⋯;obtain rfl| rfl:=this
      ·let⟨c,l⟩:=AJ (n:=(s.heap.push {cls:= .type "dict",data:= .dict #[]}).objs.size) (acc:=o4 X.env.cells d.names []) (gP e);let⟨c',n⟩:=mem_lookup l;show⟨c',∅⟩
      ·lk
   obtain v| v:=v
   ·show x _ v (.inl B)
   ·show x _ v (.inr B)
  ·have z:(d.names.lookup y==J Ia)=true:=z;let z:d.names.lookup y=J .cell:=∅;let e:f.cells.lookup y=J c:=e;rw[j] at e;obtain l| ⟨_,h2,_⟩:=sx (gP e)
   ·obtain l| ⟨h,_⟩:=vb l
    ·cases l
    ·let q:=C.uniq _ h;rw[z] at q;cases q
   ·rw[fC] at h2;show GO h2
  ·lk
  ·let e:f.cells.lookup y=J c:=e;obtain⟨h,_⟩| ⟨h,_⟩:=T e
   ·show(u b hb).1.2.2.2.2.1 y c h z
   ·lk
  ·rcases(u b hb).1.2.2.2.1 with z| z
   ·show I.ok.tS b o e z
   ·show aN (gv (bF e) (da I.ok.mC z)) (jy _)
  ·obtain z| z:=cp.mp (I.B_ b z)
   ·show(u b hb).1.2.1 z
   ·show(u b hb).1.2.2.1 z
 show⟨okB,B,I.bare,Un.kept kp,⟨λ_=>ah,?_,λi y av e1 D t=> ?_⟩,λy c e=> ?_,?_,λy c e=> ?_,λp hp=> ?_,I.aQ.kept kp,by rw[zu];show I.len⟩
 ·change Heap.Ns _ f.locals _;rw[hL];show Heap.Ns.keeps (Heap.Ns.new ..) λb o e=>Aj _ _ _ _ e
 ·let⟨D,ek⟩:=An D;let A:d.names.lookup y=J .free/\(f.kindOf y=J .cell\/f.kindOf y=J .free):=by
   have x:∀k,f.scope.names.lookup y=J k->k= .local\/k= .cell\/k= .free->d.names.lookup y=J .free/\(f.kindOf y=J .cell\/f.kindOf y=J .free):=λk hk oe=>by
    have DF:=hk;rw[Q] at hk;let⟨E,e,r⟩:=zA hk;let no:¬(E= .local\/E= .cell):=λhh=>by
     obtain n| n:=C.own _ (gP e) hh
     ·let⟨p,hp,hpy⟩:=a_.mp n;let t:=C.ix p hp;have:p.1=y:=hpy;rw[this] at t;show ek (a_.mpr ⟨p,hp,Bg hN t e1⟩)
     ·lk
    obtain rfl| ⟨rfl,rfl⟩:=r
    ·obtain rfl| rfl| rfl:=oe
     ·show aN (.inl B) no
     ·show aN (.inr B) no
     ·show⟨e, .inr DF⟩
    ·show⟨e, .inl DF⟩
   let t:N3 f.scope y:=t;obtain t| t| t:=t
   ·show x _ t (.inl B)
   ·cbv
   ·cbv
  let⟨m,hn,hl⟩:=I.loc;let acj:N3 X.env.scope y:=(C.free _ (gP A.1) B).elim (λk=> .inr (.inl k)) (λk=> .inr (.inr k));let⟨w,r,q⟩:=hl i y av e1 D acj;show⟨w,r, .inr ⟨A.2,?_⟩⟩;let⟨c,h,h2⟩:=look A.1;obtain⟨k,_⟩| ⟨_,c',n,z⟩:=q
  ·let k:X.env.scope.names.lookup y=J .local:=k;obtain E| E:=C.free _ (gP A.1) rfl<;>rw[show X.env.scope.names.lookup y=_ from E] at k<;>cases k
  ·rw[h2] at n;cases n;show⟨c,h,z.keeps kp⟩
 ·let e:f.cells.lookup y=J c:=e;obtain⟨h,_⟩| ⟨_,z⟩:=T e
  ·let⟨w,z⟩:=I.cell y c h;show⟨w,z.keeps kp⟩
  ·show⟨_,z⟩
 ·change H f.locals=ah;rw[hL];show I.aQ.fresh (br _)
 ·let e:f.cells.lookup y=J c:=e;obtain⟨h,_⟩| ⟨h,_⟩:=T e
  ·show I.jf y c h
  ·show I.aQ.fresh (GO h)
 ·show aN (show p∈([]:Y (ab×Obj))++ [] from hp) ⋯
def abD(I:Inv X kP σ H s)(d:H D=some (.lst f))(o:f.length<aV)(r:RelV y v)(h:∀g,Inv X kP σ (upd H D (.lst (f++ [y]))) g->Q .none g):ao (aD X.prog X.w) X.A (call (.builtin "list.append") [.ref D,v]) Q E s:=by let⟨j,c,n,i,e⟩:=I.aQ D _ d;let p:=i.length;show append_at (hsz:=∅) e λk l a=> ?_;show h {s with heap:=k} (I.write (t':=s.toks) (by rw[d];trivial) (.inl rfl) (λb u m q=>(l.2 b m).trans q) ⟨_,a⟩ ⟨⋯,c++ [v],n+1,i.append (.cons r .nil),?_⟩);rw[a];simp
def O8(X:Cx)(a:Y aZ)(t:TT):Prop:=
 ∀(kP:Y (ab×Obj)) (s:au) (σ:St) (H:Hp) (Q:Bool->Hp->Prop),Inv X kP σ H s->t σ H Q->
  ao (aD X.prog X.w) X.A (forIn a aa λc r=>if r=aa then do let b<-rj c X.env (eval c X.env);pure (za b)else pure (za r)) (X4 X kP σ Q) X.xe s
def Q8:TT:=λ_ H Q=>Q aa H
def d_:O8 X [] Q8:=λ_ _ _ H _ I h=>wpAny_tests_nil ⟨H,I,h⟩
def eV(h:p7 X c t):O8 X [c] t:=λkP s σ H Q I a=>wpAny_tests_one (h kP s σ H Q I a)
end
def rl(h:ao b A t Q (λ_ _=>False) s)(c:∀a s,Q a s->d a s):ao b A t d E s:=ja h c λ_ _ z=>gZ z
def QJ(I:Nat->au->Prop)(z:∀n s,I n s->ao (aD a w) A (dE it) (λr f=>match r with
  | none=>R (.ok .next) f
  | some v=>ao (aD a w) A (letOwnedTupleGo d it v) (λ_ g=>ao (aD a w) A (assign d b v) (λ_ l=>
   ao (aD a w) A (forIn C aa λc r=>if r=aa then do let D<-rj c b (eval c b);pure (za D)else pure (za r)) (λD i=>
    if D=aa then ao (aD a w) A (eval E b) (λx o=>
     ao (aD a w) A (call (.builtin "list.append") [H,x]) (λ_ p=>∃m,m<n/\I m p) (tO (aD a w) A b λe j=>R (.error e) j) o) (tO (aD a w) A b λe j=>R (.error e) j) i
    else∃m,m<n/\I m i) (tO (aD a w) A b λe j=>R (.error e) j) l) (tO (aD a w) A b λe j=>R (.error e) j) g) (tO (aD a w) A b λe j=>R (.error e) j) f) (tO (aD a w) A b λe j=>R (.error e) j) s)
 (n:Nat)(h:I n s):
 iP (aD a w) A (.compLoop (.ListComp E [⟨d,iter,C,0⟩] u pos) 0 it H b) R s:=by
 show codeAny_loop B I (λn s hI=> ?_) n h;change ao _ A ((compTurn (.ListComp E [⟨d,iter,C,0⟩] u pos) 0 it H b).onRaise (λx=>do noteFrame x b;theTreesLotGoes x)) _ _ s;show wpAny_noted ?_;rw[compTurn_list];show ag (Mn (ag (ja (z n s hI) (λr f q=> ?_) λ_ _ k=>k)));cases r with
 | none=>show ax q
 | some v=>
   show ag (ja q (λ_ g y=> ?_) λ_ _ k=>k);show ag (ja y (λ_ l L=>ag (ja L (λD i t=> ?_) λ_ _ k=>k)) λ_ _ k=>k);cases D with
   | false=>show ax ⟨B,t⟩
   | true=>show ag (ag (ja t (λx o Q=>ag (ja Q (λ_ p T=>ax (ax ⟨B,T⟩)) λ_ _ k=>k)) λ_ _ k=>k))
section
variable {X:Cx}
def E7(p:TI)(g:TG)(q:TT)(r:TE)(f:LN0):TE:=λh H Q=>p h H λa k=>∀D,k D=ah->∃W:Nat->Nat->Hp->Prop,(∃m,W 0 m (upd k D (.lst [])))/\∀i m H,W i m H->
 (a.stop i H/\Q (.ref D) H)\/(a.go i H/\∃j:Hp->Prop,(∀e,j e->∃l,l<m/\W (i+1) l e)/\∀x e,a.n_ i H x e->g x (wipe h f) e λc s=>wipe c f=wipe h f/\q c s λb n=>
  if b=aa then r c n λy o=>∃d,o D=J (.lst d)/\ ⇑d<aV/\j (upd o D (.lst (d++ [y])))else j n)
def LG{l:Y (ab×Obj)}{s:au}{σ:St}{H:Hp}{Q:VK}{elt tg iter:aZ}{ifs:Y aZ}{d:gb}{own:Y (Str×Nat)}{pos pos':Pos}{wi:TI}{g:TG}{tt:TT}{te:TE}{use:az (ae->Sem Unit)}{Qf:ae->au->Prop}(hc:X.calm=aa)(hN:X.N.Nodup)(I:Inv X l σ H s)(hi:n6 X tg iter wi)(ok:pG X.N X.env.scope d own)(hg:∀(s:au) (H:Hp) (C:ab) (cl:Y (Str×ab)) (t:Y ab),y6 (X.eA s H d (fU d cl C X.env) t) tg g)(ht:∀(s:au) (H:Hp) (C:ab) (cl:Y (Str×ab)) (t:Y ab),O8 (X.eA s H d (fU d cl C X.env) t) ifs tt)(he:∀(s:au) (H:Hp) (C:ab) (cl:Y (Str×ab)) (t:Y ab),b3 (X.eA s H d (fU d cl C X.env) t) elt te)(hs:∀x,qm iter X.env x=pure x)(h:E7 wi g tt te (own.map (·.2)) σ H Q)(hRR:∀D C E m A,Inv X l σ A E->Q (.ref D) A->E.heap.Ns C m->E6 X l A C->compPost (aD X.prog X.w) X.A X.xe use Qf (.ref D) C (.ok .next) E):
 ao (aD X.prog X.w) X.A (comprehension (.ListComp elt [⟨tg,iter,ifs,0⟩] d pos) d X.env pos' (newList []) ak (eval iter X.env) use) Qf X.xe s:=by
 have abW:∀y∈d.names,y.2= .free->∃c,X.env.cells.lookup y.1=J c:=λy hy e=>by
  obtain k| k:=ok.free y hy e
  ·show I.ok.has _ (.inl k)
  ·show I.ok.has _ (.inr k)
 refine wpAny_comprehension_free (use:=use) B hs (Tf abW) ok.kind (λy hy e=>by rw[ok.uniq y hy,e])
  (aM (hi l s σ H _ I h) λxv s1 hx=>aM hx λitv s2 h2=> ?_)
 let⟨it,t,tn,a,H2,e,I2,T,xI,f2,q⟩:=h2;subst e;show fc (RC ?_) (by change 0<=aV;decide);generalize hD: ↥s2=D;let hDn:H2 D=none:=I2.aQ.fresh (sj hD);let⟨W,⟨m0,w0⟩,turn⟩:=q D hDn;generalize hs3:({s2 with heap:=s2.heap.push {cls:= .type "list",data:= .seq ([]:Y ae).toArray}}:au)=f;let I3:Inv X l σ (upd H2 D (.lst [])) f:=by rw[<-hs3];show I2.laid (t':=s2.toks) (λb o e=>bQ _ e) (sj hD) ⟨eT _, [],0, .nil,?_⟩;rw[<-hD];show cg _ B
 let h3:f.heap=s2.heap.push {cls:= .type "list",data:= .seq ([]:Y ae).toArray}:=⋯;let sz:∀b∈t,b<↥s2:=λb w=>by let⟨o,e,_⟩:=T.obj _ _ xI b w;show bF e
 let f3:∀b∈t,E6 X l (upd H2 D (.lst [])) b/\b<↥f:=λb w=>by let ji:=sz b w;show⟨⟨?_,(f2 b w).2⟩,by rw[h3,fC];show y_ ji⟩;rw[aS ⋯];show(f2 b w).1
 let xH:tn 0 f.heap:=T.keep _ _ _ xI λb _ o e=>by rw[h3];show bQ _ e
 let I4:=RQ I3 ok hN f3;let pg:=hg f (upd H2 D (.lst [])) ↥f (fE (↥f+1) d.names (o4 X.env.cells d.names [])) t;let pt:=ht f (upd H2 D (.lst [])) ↥f (fE (↥f+1) d.names (o4 X.env.cells d.names [])) t;let pe:=he f (upd H2 D (.lst [])) ↥f (fE (↥f+1) d.names (o4 X.env.cells d.names [])) t;change iP _ _ (.compStart (.ListComp elt [⟨tg,iter,ifs,0⟩] d pos) 0 (.ref it) (.ref D) (fU d (fE (↥f+1) d.names (o4 X.env.cells d.names [])) ↥f X.env)) (compPost (aD X.prog X.w) X.A X.xe use Qf (.ref D) ↥f) {f with heap:=pushCells (f.heap.push {cls:= .type "dict",data:= .dict #[]}) d.names};let NS:∀b∈t,(upd H2 D (.lst [])) b=none:=λb w=>(f3 b w).1.1;generalize hce:fU d (fE (↥f+1) d.names (o4 X.env.cells d.names [])) ↥f X.env=L at I4 pg pt pe⊢;let cL:L.locals=↥f:=by subst hce;rfl
 generalize hH3:upd H2 D (.lst [])=H3 at I3 I4 pg pt pe w0 NS f3;generalize hs4:({f with heap:=pushCells (f.heap.push {cls:= .type "dict",data:= .dict #[]}) d.names}:au)=s4 at I4⊢;let NQ:tn 0 s4.heap:=T.keep _ _ _ xH λb _ o e=>by rw[<-hs4];show Aj _ _ _ _ (bQ _ e)
 have CI:∀{NM:St} {A:Hp} {E:au},Inv (X.eA f H3 d L t) [] NM A E->(∀b∈t,A b=ah)->∀b∈t,E6 (X.eA f H3 d L t) [] A b:=λ{NM A E} I' hn b w=>
  ⟨hn b w,(I'.ok.xU b w).1,I'.ok.tT b w, .inl w,λx c e=>(I'.ok.xU b w).2 x c e,λp hp=>aN (show p∈([]:Y (ab×Obj))++ [] from hp) ⋯⟩
 have loop:iP (aD X.prog X.w) X.A (.compLoop (.ListComp elt [⟨tg,iter,ifs,0⟩] d pos) 0 (.ref it) (.ref D) L) (compPost (aD X.prog X.w) X.A X.xe use Qf (.ref D) ↥f) s4:=by
  show QJ (λn E=>∃i A,Inv (X.eA f H3 d L t) [] (wipe σ (own.map (·.2))) A E/\tn i E.heap/\(∀b∈t,A b=ah)/\W i n A) ?_ m0 ⟨0,H3,I4,NQ,NS,w0⟩;ext n s5 ⟨i,H5,I5,NP,n5,w5⟩;obtain⟨stop,qq⟩| ⟨go,Nx,hNx,step⟩:=turn i n H5 w5
  ·let td:=T.done (X.eA f H3 d L t) B B B hc i [] s5 _ H5 (λ_ _=>False) I5 (CI I5 n5) NP stop;show rl td λr s6 ⟨hr,I6⟩=> ?_;subst hr;let I7:Inv X l σ H5 s6:=I3.ab_ (ch:=t) I6.os I6.base I6.aQ I6.bare λb w=>⟨(f3 b w).1.2.2.2.1,(f3 b w).1.2.1,(f3 b w).1.2.2.2.2.1,(f3 b w).1.2.2.2.2.2⟩;let nC:H5 ↥f=none:=by let z:H5 L.locals=none:=I6.free;rw[cL] at z;show z
   let⟨m,hn,_⟩:=I6.loc;let hn:s6.heap.Ns L.locals m:=hn;rw[cL] at hn;show hRR D ↥f s6 m H5 I7 qq hn (I3.rn (br _) nC)
  ·have ti:=T.item (X.eA f H3 d L t) B B B hc i [] s5 _ H5 (λ_ _=>False) I5 (CI I5 n5) NP go;show rl ti λr s6 ⟨u,hr,h6⟩=> ?_;subst hr;show rl h6 λ_ s7 ⟨x,H7,I7,r7,y7,Dg,n7⟩=> ?_;let I7':=I7.pinned (CI I7 n7) (T.obj _ _ Dg);show rl (pg _ s7 _ H7 x u _ I7' r7 (step x H7 y7)) λ_ s8 ⟨xC,H8,I8,NW,q8⟩=> ?_;show rl (pt _ s8 xC H8 _ I8 q8) λb s9 ⟨H9,I9,q9⟩=> ?_;let fin:∀{E:au} {A:Hp},Inv (X.eA f H3 d L t) ([]++R9 t s7.heap) xC A E->Nx A->∃m,m<n/\∃i A,Inv (X.eA f H3 d L t) [] (wipe σ (own.map (·.2))) A E/\tn i E.heap/\(∀b∈t,A b=ah)/\W i m A:=λ{E A} I' nx=>by
    let⟨m',hm,w'⟩:=hNx A nx;let NH:∀b∈t,∀o,s7.heap.get? b=J o->E.heap.get? b=J o/\A b=none:=λb w o e=>
     let z:=I'.pin (b,o) (oo _ (oo _ (Ab w e)))
     ⟨z.1,z.2.1⟩
    let hl: ⇑(wipe σ (own.map (·.2)))=⇑xC:=by rw[<-NW,zu]
    show⟨m',hm,i+1,A,(I'.vN (kP:= [])).weak hl (λj v e=> ?_),T.keep _ _ _ Dg λb w o e=>(NH b w o e).1,λb w=> ?_,w'⟩
    ·rw[<-NW] at e;show(An e).1
    ·let⟨o,e,_⟩:=T.obj _ _ Dg b w;show(NH b w o e).2
   cases b with
   | false=>show fin I9 q9
   | true=>erw[gq] at q9⊢;show rl (pe _ s9 xC H9 _ I9 q9) λz s10 h9=> ?_;let⟨yv,H10,I10,r10,acc,acv,aci,nx⟩:=h9;show abD (X:=X.eA f H3 d L t) I10 acv aci r10 λs11 I11=>fin I11 nx
 show codeAny_compStart_list loop (T.self X.A 0 _ _ _ NQ loop)
def abO(p:X.calm=aa)(r:X.N.Nodup)(t:n6 X n iter u)(v:pG X.N X.env.scope a i)(w:∀(s:au) (H:Hp) (C:ab) (c:Y (Str×ab)) (d:Y ab),y6 (X.eA s H a (fU a c C X.env) d) n g)(y:∀(s:au) (H:Hp) (C:ab) (c:Y (Str×ab)) (d:Y ab),O8 (X.eA s H a (fU a c C X.env) d) j z)(A:∀(s:au) (H:Hp) (C:ab) (c:Y (Str×ab)) (d:Y ab),b3 (X.eA s H a (fU a c C X.env) d) k E)(L:∀x,qm iter X.env x=pure x:=by ext _;rfl):
 b3 X (.ListComp k [⟨n,iter,j,0⟩] a T) (E7 u g z E (i.map (·.2))):=by
 ext l s σ H Q I h;rw[eval_ListComp];show LG p r I t v w y A L h λD C s' m H' I' q hn f=>⟨m,hn,λjN sb=> ?_⟩;let⟨f0,f1,f2,f3,f4,f5⟩:=f;show⟨.ref D,H',I'.turned (t':=s'.toks) (λb o hb e=>(sb.2 b hb).trans e) f0 f1 f3 f4 f5,B,q⟩
def Ws(hc:X.calm=aa)(T:X.N.Nodup)(hy:X.N[i]? =J y)(n:X.env.scope.names.lookup y=J .local)(w:nu (.ListComp j [⟨p,iter,d,0⟩] c k) (J (.Name y z)) r.line X.env=pure aa)(hi:n6 X p iter wi)(ok:pG X.N X.env.scope c t)(hg:∀(s:au) (H:Hp) (C:ab) (u:Y (Str×ab)) (v:Y ab),y6 (X.eA s H c (fU c u C X.env) v) p g)(ht:∀(s:au) (H:Hp) (C:ab) (u:Y (Str×ab)) (v:Y ab),O8 (X.eA s H c (fU c u C X.env) v) d tt)(he:∀(s:au) (H:Hp) (C:ab) (u:Y (Str×ab)) (v:Y ab),b3 (X.eA s H c (fU c u C X.env) v) j te)(hs:∀x,qm iter X.env x=pure x:=by ext _;rfl):
 m9 X (.Assign [.Name y z] (.ListComp j [⟨p,iter,d,0⟩] c k) r) (w8 (E7 wi g tt te (t.map (·.2))) (p9 i)):=by
 ext l s σ H D I h;rw[exec_Assign_Name_used _ _ _ _ w];show ag (Mn (ag ?_));change ao _ X.A (do let _<-comprehension (.ListComp j [⟨p,iter,d,0⟩] c k) c X.env (firstIterPos [⟨p,iter,d,0⟩] k) (newList []) ak (eval iter X.env) (J (assign (.Name y z) X.env))) _ _ s;let h:E7 wi g tt te (t.map (·.2)) σ H (λx H1=>p9 i x σ H1 D.nx):=h;show ag (aM (LG (Qf:=λ_ A=>P5 X l D .next A) hc T I hi ok hg ht he hs h λL C A m H' I' q hn f=> ?_) λ_ A hq=>ax (ax hq));change ao _ _ (assign (.Name y z) X.env (.ref L)) _ _ _;show wpAny_assign_Name (Iq (v:=V.ref L) I' T hy (.inl n) B (λs2 I2 ⟨a,sb,ha⟩=> ?_) (.inr n));let⟨f0,f1,f2,f3,f4,f5⟩:=f;let E:C≠a:=⋯;show⟨m,hn.sameBut sb E,λh3 Q=> ?_⟩;show⟨_,H',I2.turned (t':=s2.toks) (λb o hb e=>(Q.2 b hb).trans e) f0 f1 f3 f4 f5,q⟩
def Yj(d:a.scope.kind= .function)(e:a.scope.names.lookup y=J .local)(f:(g.line==c.line)=aa)(h:(b.names.any λ(n,k)=>n==y && (k== .local|| k== .cell))=ak):nu (.ListComp i o b c) (J (.Name y g)) l a=pure true:=by
 let j:a.kindOf y=J .local:=e;let m:a.blockKind= .function:=by delta Env.blockKind;rw[d];rfl
 delta nu;erw[m,j,h,Expr.pos,f];rfl
end
def ag4(a:Y Str)(d b:gb)(c:Y (Str×Nat)):Bool:=
 (match b.kind with| .function=>aa| _=>ak) && (b.names.all λy=>decide (b.names.lookup y.1=J y.2)) && (c.all λp=>decide (a[p.2]? =J p.1)) &&
  (b.names.all λy=>match y.2 with
   | .free=>(match d.names.lookup y.1 with| some .cell=>aa| some .free=>aa| _=>ak)
   | .local=>decide (y.1∈c.map (·.1))|| decide (y.1∉a)
   | .cell=>decide (y.1∈c.map (·.1))|| decide (y.1∉a)
   | _=>aa)
def KR(h:ag4 N sc a b=aa):pG N sc a b:=by
 delta ag4 at h;erw[cn,eQ,ju] at h;let⟨⟨⟨g,c⟩,d⟩,i⟩:=h;show⟨?_,c,d,λy f e=> ?_,λy f e=> ?_⟩
 ·lk
 ·lk
 ·lk
section
variable {prog:bD} {w:bf} {A:bY} {R:tW->au->Prop} {s:au} {elt t0 i0 t1 i1:aZ} {aeW aeV:Y aZ} {scope:gb} {pos:Pos} {it acc:ae} {env:Env}
end
section
variable {X:Cx}
end
section
variable {M:Type} [DecidableEq M]
def d2(a:Y (M×V))(k:M):az V:=(a.find? λb=>decide (b.1=k)).map (·.2)
/---/def putK(a:Y (M×V))(k:M)(v:V):Y (M×V):=
 if(a.any λb=>decide (b.1=k))=aa then a.map (λb=>if b.1=k then(b.1,v)else b)else a++ [(k,v)]
def iF{p:M×V}{r:Y (M×V)}{k:M}(e:p.1=k):d2 (p::r) k=J p.2:=by simp[d2,oD,e]
def ik{p:M×V}{r:Y (M×V)}{k:M}(e:¬p.1=k):d2 (p::r) k=d2 r k:=by simp[d2,oD,e]
def vM(k:M):∀a:Y (M×V),(a.any λb=>decide (b.1=k))=(d2 a k).isSome
 | []=>rfl
 | p::r=>by
   rw[oH];cases e:p.1=k
   ·erw[iF e,gX e,Bool.true_or,Fu]
   ·rw[ik e,jw e,JD];show vM k r
def JH(k j:M)(y:V):∀a:Y (M×V),d2 (a.map λb=>if b.1=k then(b.1,y)else b) j=(d2 a j).map λx=>if j=k then y else x
 | []=>rfl
 | p::r=>by
   let c:=JH k j y r;rw[bp];cases h:p.1=k
   ·rw[ar h];cases e:p.1=j
    ·rw[iF (p:=(p.1,y)) e,iF e,jT,ar (e.symm.trans h)]
    ·rw[ik (p:=(p.1,y)) e,ik e,c]
   ·rw[aj h];cases e:p.1=j
    ·rw[iF (p:=p) e,iF e,jT,aj (λz=>h (e.trans z))]
    ·rw[ik (p:=p) e,ik e,c]
def Im(k j:M)(y:V):∀a:Y (M×V),d2 a k=ah->d2 (a++ [(k,y)]) j=if j=k then J y else d2 a j
 | [],_=>by
   cases e:k=j
   ·rw[ar e.symm];show iF (p:=(k,y)) e
   ·rw[aj (λz=>e z.symm)];show ik (p:=(k,y)) e
 | p::r,b=>by
   rw[XZ];let c:¬p.1=k:=λz=>by rw[iF z] at b;cases b
   rw[ik c] at b;let d:=Im k j y r b;cases e:p.1=j
   ·rw[iF e,iF e,aj (λz=>c (e.trans z))]
   ·rw[ik e,ik e,d]
def AW(b:Y (M×V))(k j:M)(y:V):d2 (putK b k y) j=if j=k then J y else d2 b j:=by
 delta putK;cases a:(b.any λc=>decide (c.1=k))=aa
 ·rw[ar a,JH];rw[vM] at a;cases e:j=k
  ·let⟨x,d⟩:=Ee.mp a;rw[ar e,e,d,jT,ar B]
  ·rw[aj e];cases d2 b j with
   | none=>rfl
   | some x=>rw[jT,aj e]
 ·rw[aj a];show Im k j y b ?_;rw[vM] at a;cases q:d2 b k with
  | none=>rfl
  | some x=>rw[q] at a;show(a B).elim
def va(a:Y (M×V))(k:M)(v:V): ⇑(putK a k v)<= ⇑a+1:=by
 delta putK;split
 ·rw[aF];cbv
 ·cbv
def p6.sq(r:p6 o u):o.isSome=u.isSome:=by
 cases o with
 | none=>cases u with
   | none=>rfl
   | some _=>show(show False from r).elim
 | some _=>cases u with
   | none=>show(show False from r).elim
   | some _=>rfl
def p6.getD(r:p6 o u)(a:RelV d b):RelV (o.getD d) (u.getD b):=by
 cases o with
 | none=>cases u with
   | none=>show a
   | some _=>show(show False from r).elim
 | some _=>cases u with
   | none=>show(show False from r).elim
   | some _=>show r
def i7.val{a:Y (M×V)}{f:Y (M×ae)}(r:i7 a f)(k:M):p6 (d2 a k) (valueAt f k):=by
 delta i7 at r;induction r with
 | nil=>show cM
 | @cons p q l c h t i=>
   let⟨g,j⟩:=h;cases e:p.1=k
   ·let d:q.1=k:=g.symm.trans e;let b:valueAt (q::c) k=J q.2:=by simp[valueAt,oD,d]
    rw[iF e,b];show j
   ·let d:¬q.1=k:=λz=>e (g.trans z);let b:valueAt (q::c) k=valueAt c k:=by simp[valueAt,oD,d]
    rw[ik e,b];show i
def i7.any(r:i7 a c)(k:M):(a.any λb=>decide (b.1=k))=c.any λb=>decide (b.1=k):=by
 delta i7 at r;induction r with
 | nil=>rfl
 | cons h t d=>rw[oH,oH,d,h.1]
def i7.CJ(r:i7 b c)(k:M)(f:RelV y u):
 i7 (b.map λa=>if a.1=k then(a.1,y)else a) (c.map λa=>if a.1=k then(a.1,u)else a):=by
 delta i7 at r⊢;induction r with
 | nil=>show .nil
 | @cons p q g i h t d=>
   rw[bp,bp];show .cons ?_ d;let⟨j,l⟩:=h;cases e:p.1=k
   ·cbv
   ·cbv
def i7.put(r:i7 a b)(k:M)(c:RelV y u):i7 (putK a k y) (stored b k u):=by
 delta putK stored;rw[r.any k];cases e:(b.any λd=>decide (d.1=k))=aa
 ·rw[ar e,ar e];show r.CJ k c
 ·rw[aj e,aj e];show KY r ⟨B,c⟩
def i7.length(r:i7 a b): ⇑a=⇑b:=iE r
end
def mm(r:RelV (c9 k) u):(g8 P w).is k u=true:=by
 cases k with
 | inl i=>let⟨t,e⟩:=(show∃t,u=jC i t from r);subst e;show RE P w i t
 | inr x=>let⟨t,e⟩:=(show∃t,u=we x t from r);subst e;show RD P w x t
def I_:∀{a:Y Key} {b:Y ae},Vals (a.map c9) b->ItemsAre (g8 P w) a b
 | [],_,r=>by rw[nc] at r;cases r;show .nil
 | k::a,_,r=>by
   rw[bp] at r;cases r with
   | cons h t=>show .cons (mm h) (I_ t)
abbrev KT(H:Hp):Y (Y Key×V)->Y (Y Key×ab×ae)->Prop:=aU λp q=>p.1=q.1/\H q.2.1=J (.tup (p.1.map c9))/\RelV p.2 q.2.2
def KT.val{a:Y (Y Key×V)}{f:Y (Y Key×ab×ae)}(r:KT H a f)(k:Y Key):p6 (d2 a k) ((atKey f k).map (·.2)):=by
 induction r with
 | nil=>show cM
 | @cons p q l c h t i=>
   let⟨g,_,j⟩:=h;cases e:p.1=k
   ·let d:q.1=k:=g.symm.trans e;let b:atKey (q::c) k=J q.2:=by simp[atKey,oD,d]
    rw[iF e,b];show j
   ·let d:¬q.1=k:=λz=>e (g.trans z);let b:atKey (q::c) k=atKey c k:=by simp[atKey,oD,d]
    rw[ik e,b];show i
def KT.CJ(r:KT H a c)(k:Y Key)(f:RelV y u):
 KT H (a.map λb=>if b.1=k then(b.1,y)else b) (c.map (putAt k u)):=by
 induction r with
 | nil=>show .nil
 | @cons p q g i h t d=>
   rw[bp,bp];show .cons ?_ d;let⟨j,l,m⟩:=h;delta putAt;cases e:p.1=k
   ·cbv
   ·cbv
def KT.put(r:KT H a c)(k:Y Key)(f:H b=J (.tup (k.map c9)))(d:RelV y u):
 KT H (putK a k y) (storedH c k b u):=by
 let e:(a.any λg=>decide (g.1=k))=(atKey c k).isSome:=by rw[vM,(r.val k).sq,FW]
 delta putK storedH;rw[e];cases q:(atKey c k).isSome=aa
 ·rw[ar q,ar q];show r.CJ k d
 ·rw[aj q,aj q];show KY r ⟨B,f,d⟩
def KT.keeps(r:KT H a d)(e:∀b c,H b=J (.tup c)->f b=J (.tup c)):KT f a d:=
 aU.CK r λ_ _ z=>⟨z.1,e _ _ z.2.1,z.2.2⟩
section
variable {P:bD} {w:bf} {H:Hp} {h:bA} {a:ab}
def Nr(b:i6 P w H h)(e:D3 H a u):f7 P w H h a u:=e.ok b
def nT(d:i6 P w H h)(e:D3 H a (.dK b)): ⇑b<=aV/\(a==fu)=ak/\∃c,i7 b c/\h.DictOf (g8 P w) a c:=
 show f7 P w H h a (.dK b)from Nr d e
def NG(d:i6 P w H h)(e:H a=J (.dK b)): ⇑b<=aV/\(a==fu)=ak/\∃c,i7 b c/\h.DictOf (g8 P w) a c:=nT d (.inl e)
def nO(d:i6 P w H h)(e:H a=J (.tup (c.map c9))):(iI (g8 P w)).is h c a:=by let⟨_,b,r,o,f,g,n,i⟩:=(show f7 P w H h a (.tup (c.map c9))from d a _ e);show⟨o,b.toArray,n,f,g,i,by simpa using I_ r⟩
def pC(f:i6 P w H h)(e:D3 H a (.dT b)): ⇑b<=aV/\(a==fu)=ak/\
 ∃d,KT H b d/\h.DictOfH (iI (g8 P w)) a d:=by
 let⟨z,y,d,r,o,g,i,j,k,n,s,u⟩:=(show f7 P w H h a (.dT b)from Nr f e);show⟨z,y,d,r,o,g,i,j,k,n,s,λx c=> ?_,u⟩;let all:∀{l:Y (Y Key×V)} {m:Y (Y Key×ab×ae)},KT H l m->∀x∈m,(iI (g8 P w)).is h x.1 x.2.1:=by
  ext l m q;induction q with
  | nil=>ext x c;show nomatch c
  | @cons p q A C D t v=>
    ext x c;obtain e| c:=cp.mp c
    ·subst e;show nO f ∅
    ·show v x c
 show all r x c
def CA(d:i6 P w H h)(e:H a=J (.dT b)): ⇑b<=aV/\(a==fu)=ak/\
 ∃c,KT H b c/\h.DictOfH (iI (g8 P w)) a c:=pC d (.inl e)
end
def o7(H:Hp)(a:ab)(y:V)(r:az V):Prop:=
 (∃c k,D3 H a (.dK c)/\y=c9 k/\r=d2 c k)\/∃c k b,D3 H a (.dT c)/\y= .ref b/\H b=J (.tup (k.map c9))/\r=d2 c k
def K4(H:Hp)(a:ab)(y v:V)(d:Hp):Prop:=
 (∃c k,H a=J (.dK c)/\y=c9 k/\ ⇑c<aV/\d=upd H a (.dK (putK c k v)))\/
 ∃c k b,H a=J (.dT c)/\y= .ref b/\H b=J (.tup (k.map c9))/\ ⇑c<aV/\d=upd H a (.dT (putK c k v))
def o7.k{b:Y (Key×V)}{k:Key}(e:H a=J (.dK b)):o7 H a (c9 k) (d2 b k):= .inl ⟨b,k, .inl e,B,B⟩
def o7.t{k:Y Key}(e:H a=J (.dT c))(d:H b=J (.tup (k.map c9))):o7 H a (.ref b) (d2 c k):= .inr ⟨c,k,b, .inl e,B,d,B⟩
def K4.k{b:Y (Key×V)}{k:Key}(e:H a=J (.dK b))(c: ⇑b<aV):K4 H a (c9 k) v (upd H a (.dK (putK b k v))):= .inl ⟨b,k,e,B,c,B⟩
def K4.t{c:Y (Y Key×V)}{k:Y Key}(e:H a=J (.dT c))(d:H b=J (.tup (k.map c9)))(f: ⇑c<aV):
 K4 H a (.ref b) v (upd H a (.dT (putK c k v))):= .inr ⟨c,k,b,e,B,d,f,B⟩
section
variable {X:Cx} {kP:Y (ab×Obj)} {σ:St} {H:Hp} {s:au} {a:ab} {y v:V} {u r:ae} {o:az V} {A:bY} {E:ae->au->Prop}
def Inv.big(I:Inv X kP σ H s):fu<↥s:=by let h:ff<↥s:=(I.mod.glob.keeps I.bk).lt;show lQ ∅ h
def Vg(x:A.units+1<ey)(I:Inv X kP σ H s)(g:o7 H a y (J v))(t:RelV y u)(h:∀f w,Inv X kP σ H w->RelV v f->Q f w):
 ao (aD X.prog X.w) A (getItem (.ref a) u) Q E s:=by
 obtain⟨i,k,e,j,l⟩| ⟨i,k,b,e,j,C,l⟩:=g
 ·subst j;let⟨z,D,L,c,m⟩:=nT I.aQ e;let⟨f,n,d⟩:=p6.some_of (v:=v) (o:=valueAt L k) (by rw[l];show c.val k);show wpAny_getItem_of (mm t) m.mapOf n (h f _ (I.tok _) d)
 ·subst j;cases(show u=bK b from t);let⟨z,D,T,c,m⟩:=pC I.aQ e;let⟨f,n,d⟩:=p6.some_of (v:=v) (o:=(atKey T k).map (·.2)) (by rw[l];show c.val k);let⟨p,hp,q⟩:=qd.mp n;show wpAny_getItem_heap (uH x) (nO I.aQ C) m hp ?_;rw[q];show h f _ (I.tok _) d
def acx(p:A.units+1<ey)(I:Inv X kP σ H s)(g:o7 H a y o)(m:RelV y u)(h:∀n,Inv X kP σ H n->Q (.bool o.isSome) n):
 ao (aD X.prog X.w) A (et .In u (.ref a)) Q E s:=by
 obtain⟨d,k,e,f,l⟩| ⟨d,k,b,e,f,t,l⟩:=g
 ·subst f;let⟨z,i,w,c,j⟩:=nT I.aQ e;show wpAny_in_of (mm m) i j.mapOf ?_;rw[<-(c.val k).sq,<-l];show h _ (I.tok _)
 ·subst f;cases(show u=bK b from m);let⟨z,i,x,c,j⟩:=pC I.aQ e;show wpAny_in_heap (uH p) (nO I.aQ t) i j ?_;let q:=(c.val k).sq;rw[FW] at q;rw[<-q,<-l];show h _ (I.tok _)
def ZL(p:A.units+1<ey)(I:Inv X kP σ H s)(g:o7 H a y o)(m:RelV y u)(h:∀n,Inv X kP σ H n->Q (.bool (!o.isSome)) n):
 ao (aD X.prog X.w) A (et .NotIn u (.ref a)) Q E s:=by
 obtain⟨d,k,e,f,l⟩| ⟨d,k,b,e,f,t,l⟩:=g
 ·subst f;let⟨z,i,w,c,j⟩:=nT I.aQ e;show wpAny_notIn_of (mm m) i j.mapOf ?_;rw[<-(c.val k).sq,<-l];show h _ (I.tok _)
 ·subst f;cases(show u=bK b from m);let⟨z,i,x,c,j⟩:=pC I.aQ e;show wpAny_notIn_heap (uH p) (nO I.aQ t) i j ?_;let q:=(c.val k).sq;rw[FW] at q;rw[<-q,<-l];show h _ (I.tok _)
def wN(I:Inv X kP σ H s)(f:N4 (H a))(g:jz a s.heap c)(h:∃q,c.get? a=J q)(d:f7 X.prog X.w (upd H a e) c a e):
 Inv X kP σ (upd H a e) {s with heap:=c,toks:=j}:=
 I.write (x:=a) (e:=a) f (.inl B) (λb q i z=>(g.2 b i).trans z) h d
def Nf(z: ⇑b<=aV)(e:(a==fu)=ak)(c:i7 b d)(f:g.DictOf (g8 P w) a d):
 f7 P w h g a (.dK b):=⟨z,e,d,c,f⟩
def Vf(hu:A.units+1<ey)(I:Inv X kP σ H s)(g:K4 H a y v H')(D:RelV y u)(L:RelV v r)(h:∀T,Inv X kP σ H' T->Q () T):
 ao (aD X.prog X.w) A (setItem (.ref a) u r) Q E s:=by
 obtain⟨d,k,e,m,l,n⟩| ⟨d,k,b,e,m,eb,l,n⟩:=g
 ·subst m n;let⟨z,p,vs,f,t⟩:=NG I.aQ e;let w: ⇑vs<=aV:=by rw[<-f.length];show z
  let x: ⇑(putK d k v)<=aV:=by have:=va d k v;lk
  show wpAny_setItem_pairs (hsz:=w) (mm D) t λh' i C=>h _ ?_;let he:∃q,h'.get? a=J q:=let⟨q,_,_,j,_⟩:=i;⟨q,j⟩;show wN I (by rw[e];show cM) C he (Nf x p (f.put k L) i)
 ·subst m n;cases(show u=bK b from D);let⟨z,p,xs,f,t⟩:=CA I.aQ e;let w: ⇑xs<=aV:=by rw[<-iE f];show z
  let x: ⇑(putK d k v)<=aV:=by have:=va d k v;lk
  show wpAny_setItem_heap (hsz:=w) (uH hu) (nO I.aQ eb) t λh' i C=>h _ ?_;let⟨q,es,ep,j,h2,h3,h4,_,h5⟩:=i;show wN I (by rw[e];show cM) C ⟨q,j⟩ ⟨x,p,_,(f.put k eb L).keeps λc ys ec=> ?_,q,es,ep,j,h2,h3,h4,h5⟩;rw[aS (NC ec e (λz=>nomatch z))];show ec
end
section
variable {X:Cx} {kP:Y (ab×Obj)} {σ:St} {H:Hp} {s:au} {a:ab} {ck:Y (Key×V)} {k:Key} {u:ae} {A:bY} {E:ae->au->Prop}
def abZ(I:Inv X kP σ H s)(e:D3 H a (.dK ck))(h:∀t c,Inv X kP σ H c->Q (.int ck.length t) c):ao (aD X.prog X.w) A (call (.builtin "len") [.ref a]) Q E s:=by let⟨z,d,g,b,f⟩:=nT I.aQ e;show call_len_dict d f (by rw[<-b.length];rw[bM] at z;lk) ?_;rw[<-b.length];show h _ _ (I.tok _)
end
def V8(i:aZ):Prop:=∀a b,subscripted i ak a b=operate [a,b] (getItem a b)
def Lo{A:bY}{E:ae->au->Prop}{j:Env}{c a:aZ}{n:Pos}{T id:String}{Q:ae->au->Prop}(q:typeLookup (.type T) "__getitem__"=pure (J (.builtin id)))(t:V8 a)(h:ao (aD b w) A (eval c j) (λo f=>ao (aD b w) A (eval a j) (λi d=>d.TypeIs o T/\ao (aD b w) A (getItem o i) Q E d) E f) E s):
 ao (aD b w) A (eval (.Subscript c a n) j) Q E s:=by
 show Subscript_ (ja h (λo f l=>ja l (λi d e=> ?_) λ_ _ x=>x) λ_ _ x=>x);let⟨p,e⟩:=e;delta subscriptTail;show ag ?_;rw[getitemInPython_of_ne p.not_modules];show ag (wpAny_specialOf p q ?_);let k:ao (aD b w) A (subscripted a ak o i) (λr g=>ao (aD b w) A (letTemporaryGo c o r>>=λ_=>pure r) Q E g) E d:=by rw[t o i];show wpAny_operating (ja e (λr g m=>ag (wpAny_letTemporaryGo (ax m))) λ_ _ x=>x)
 first
  | show ax (ag k)
  | show ag (ax (ag k))
  | show ag k
def RL(I:Inv X c h H s)(g:o7 H a y o):s.TypeIs (.ref a) "dict":=by
 obtain⟨d,k,e,_,_⟩| ⟨d,k,b,e,_,_,_⟩:=g
 ·let⟨_,_,i,_,f⟩:=nT I.aQ e;show f.typeIs
 ·let⟨_,_,j,_,f⟩:=pC I.aQ e;show f.typeIs
def Q3(d e:TE):TE:=λb H Q=>d b H λx f=>e b f λy c=>∃a v,x= .ref a/\o7 c a y (J v)/\Q v c
def Z4(d e:TE):TE:=λb H Q=>d b H λy f=>e b f λx c=>∃a o,x= .ref a/\o7 c a y o/\Q (.bl o.isSome) c
def ac1(d e:TE):TE:=λb H Q=>d b H λy f=>e b f λx c=>∃a o,x= .ref a/\o7 c a y o/\Q (.bl (!o.isSome)) c
def U0(d e f:TE):TS:=λD b H=>f b H λv g=>d b g λx h=>e b h λy i=>∃a c,x= .ref a/\K4 i a y v c/\D.nx b c
section
variable {X:Cx} {o i e value:aZ} {pos pos' tR:Pos} {td ty tv:TE}
def YK(k:X.A.units+1<ey)(l:b3 X o td)(m:b3 X i ty)(n:V8 i):b3 X (.Subscript o i pos) (Q3 td ty):=by ext b s f H Q I h;show Lo PN.lookup n (aM (l b s f H _ I h) λu p c=> ?_);let⟨x,q,r,t,w⟩:=c;show aM (m b p f q _ r w) λL T c=> ?_;let⟨y,z,j,A,a,v,C,g,D⟩:=c;subst C;obtain rfl:u=bK a:=t;show⟨RL j g,Vg k j g A λw' s3 E d=>⟨v,z,E,d,D⟩⟩
def MG(f:X.A.units+1<ey)(j:b3 X i ty)(k:b3 X o td):X6 X .In i o (Z4 ty td):=by ext b s d H Q I h;show aM (j b s d H _ I h) λD l c=> ?_;let⟨y,m,n,p,q⟩:=c;show aM (k b l d m _ n q) λu E c=> ?_;let⟨x,r,t,v,a,w,z,g,A⟩:=c;subst z;obtain rfl:u=bK a:=v;show acx f t g p λL C=>⟨.bl w.isSome,r,C,rfl,A⟩
def IM(f:X.A.units+1<ey)(j:b3 X i ty)(k:b3 X o td):X6 X .NotIn i o (ac1 ty td):=by ext b s d H Q I h;show aM (j b s d H _ I h) λD l c=> ?_;let⟨y,m,n,p,q⟩:=c;show aM (k b l d m _ n q) λu E c=> ?_;let⟨x,r,t,v,a,w,z,g,A⟩:=c;subst z;obtain rfl:u=bK a:=v;show ZL f t g p λL C=>⟨.bl (!w.isSome),r,C,rfl,A⟩
def qR(f:X.A.units+1<ey)(j:b3 X o td)(k:b3 X i ty)(l:b3 X value tv)(m:nu value (J (.Subscript o i pos')) pos.line X.env=pure ak):
 m9 X (.Assign [.Subscript o i pos'] value pos) (U0 td ty tv):=by
 ext b s d H D I h;show wpAny_Assign_Subscript (aM (l b s d H _ I h) λr n c=> ?_) m;let⟨v,p,q,t,w⟩:=c;show aM (j b n d p _ q w) λu z c=> ?_;let⟨x,A,C,E,L⟩:=c;show aM (k b z d A _ C L) λiv s3 c=> ?_;let⟨y,H3,Q,T,a,H4,ex,g,q3⟩:=c;subst ex;obtain rfl:u=bK a:=E;show Vf f Q g T t λs4 I4=>⟨d,H4,I4,q3⟩
end
def KL(h:bA)(a:fu<h.objs.size):f7 P w H (h.push {cls:= .type "dict",data:= .dict #[]}) h.objs.size (.dK []):=
 ⟨eT _,kI.mpr (eF (cK a)), [], .nil,Sb h⟩
def KJ(h:bA)(a:fu<h.objs.size):f7 P w H (h.push {cls:= .type "dict",data:= .dict #[]}) h.objs.size (.dT []):=
 ⟨eT _,kI.mpr (eF (cK a)), [], .nil,_, #[],0,cg _ B,⟨B,B,B⟩,B,B,zN⟩
def Y4:TE:=λ_ H Q=>∀p,H p=ah->Q (.ref p) (upd H p (.dK []))
def ac9:TE:=λ_ H Q=>∀p,H p=ah->Q (.ref p) (upd H p (.dT []))
section
variable {X:Cx} {pos:Pos}
def vT:b3 X (.Dict [] [] pos) Y4:=λa s b H Q I h=>
 wpAny_Dict_empty ⟨.ref ↥s,_,I.laid (a:=↥s) (o:= .dK []) (t':=s.toks) (λ_ _ q=>bQ _ q) (br _) (KL s.heap I.big),B,h _ (I.aQ.fresh (br _))⟩
def Kc:b3 X (.Dict [] [] pos) ac9:=λa s b H Q I h=>
 wpAny_Dict_empty ⟨.ref ↥s,_,I.laid (a:=↥s) (o:= .dT []) (t':=s.toks) (λ_ _ q=>bQ _ q) (br _) (KJ s.heap I.big),B,h _ (I.aQ.fresh (br _))⟩
end
def Y3:Y (TE×TE)->St->Hp->(Y (V×V)->Hp->Prop)->Prop
 | [],_,H,Q=>Q [] H
 | (b,c)::r,a,H,Q=>b a H λx d=>c a d λy e=>Y3 r a e λf g=>Q ((x,y)::f) g
abbrev VV:Y (V×V)->Y (ae×ae)->Prop:=aU λp q=>RelV p.1 q.1/\RelV p.2 q.2
def X0(X:Cx)(d:Pos)(c:Y (az aZ))(b:Y aZ)(e:Y (TE×TE)):Prop:=
 ∀(a:Y (ab×Obj)) (s:au) (f:St) (H:Hp) (Q:Y (V×V)->Hp->Prop),Inv X a f H s->Y3 e f H Q->
  ao (aD X.prog X.w) X.A (evalPairs (pairTrees c b X.env d)) (λi j=>∃g h,Inv X a f h j/\VV g i/\Q g h) X.xe s
def Yy:X0 X b [] [] []:=λa s c H Q I h=>pairTrees_nil_walk ⟨[],H,I, .nil,h⟩
def Wv(f:b3 X k g)(i:b3 X v j)(l:X0 X b m n c):
 X0 X b (J k::m) (v::n) ((g,j)::c):=λa s d H Q I h=>
 aae (aM (f a s d H _ I h) λu o ⟨x,p,q,r,t⟩=>aM (i a o d p _ q t) λw2 w ⟨y,z,A,C,D⟩=>
  aM (l a w d z _ A D) λws s3 ⟨E,L,T,e,q3⟩=>⟨(x,y)::E,L,T, .cons ⟨r,C⟩ e,q3⟩)
def z0(b a:Y (Key×V)):Y (Key×V):=a.foldl (λc d=>putK c d.1 d.2) b
def i7.merge:∀{more:Y (Key×V)} {c:Y (Key×ae)} {a:Y (Key×V)} {b:Y (Key×ae)},i7 more c->i7 a b->i7 (z0 a more) (merged b c):=by
 ext more c a b r;delta i7 at r;induction r generalizing a b with
 | nil=>ext q;show q
 | @cons p q g i h t d=>
   ext f;let e:i7 (putK a p.1 p.2) (stored b q.1 q.2):=by have:=f.put p.1 h.2;rw[<-h.1];show this
   show d e
def yR:∀(b a:Y (Key×V)),⇑(z0 a b)<= ⇑a+⇑b
 | [],a=>by change ⇑a<= ⇑a+0;cbv
 | p::r,a=>by let c:=yR r (putK a p.1 p.2);let d:=va a p.1 p.2;change ⇑(z0 (putK a p.1 p.2) r)<=_;rw[cX];lk
def HK:∀{d:Y (Key×V)} {f:Y (ae×ae)},VV (d.map λg=>(c9 g.1,g.2)) f->∃e,Carries (g8 P w) f e/\i7 d e
 | [],_,r=>by rw[nc] at r;cases r;show⟨[],cM, .nil⟩
 | p::d,_,r=>by
   rw[bp] at r;cases r with
   | @cons a b j k h t=>let⟨e,c,q⟩:=HK (P:=P) (w:=w) t;let⟨l,i⟩:=b;show⟨(p.1,i)::e,⟨mm h.1,B,c⟩, .cons ⟨B,h.2⟩ q⟩
def ad9(b:Y (TE×TE)):TE:=λe H Q=>∀p,H p=ah->Y3 b e (upd H p (.dK [])) λf c=>c p=J (.dK [])/\∃a:Y (Key×V),f=a.map (λd=>(c9 d.1,d.2))/\ ⇑a<=15/\Q (.ref p) (upd c p (.dK (z0 [] a)))
def YJ(h:X0 X j a b k)(f:a.all (·.isSome)=aa)(o: ⇑a=⇑b)(p:a≠ [])(l: ⇑a<=15):b3 X (.Dict a b j) (ad9 k):=by
 ext d s r H Q I q;let t:=I.aQ.fresh (br ↥s);let u:=I.laid (a:=↥s) (o:= .dK []) (h':=s.heap.push {cls:= .type "dict",data:= .dict #[]}) (t':=s.toks) (λ_ _ q=>bQ _ q) (br _) (KL s.heap I.big);show wpAny_Dict_walk (knd:=g8 X.prog X.w) f o p l (aM (h d _ r _ _ u (q _ t)) λws s2 v=> ?_);let⟨ps,H2,n,m,e,g,w,lk,x⟩:=v;subst w;let⟨y,c,A⟩:=HK (P:=X.prog) (w:=X.w) m;let⟨z,C,D,E,L⟩:=NG n.aQ e;cases E;show⟨y,c,L,λT i hs=>⟨.ref ↥s,_,?_,B,x⟩⟩;let hz: ⇑(z0 [] g)<=aV:=by let h1:=yR g [];rw[lK] at h1;rw[bM];lk
 let he:∃q,T.get? ↥s=J q:=let⟨q,_,_,hq,_⟩:=i;⟨q,hq⟩;show wN n (by rw[e];show cM) hs he (Nf hz C (A.merge .nil) i)
structure M2(X:Cx)(o:aZ)(m:Str)(cO:Pos)(e f:aZ)(dX:Pos):Prop where
 base:jY o m X.env (eval o X.env)=eval o X.env
 xT:((dh dX (aH [e,f] X.env)).all (λx=> !x.1) && (nG dX (nq [] X.env)).all (λx=>x.1.isSome)
  && decide (⇑([e,f]:List aZ)+⇑([]:List q_)+(if([]:Y q_).isEmpty then 0 else 1)<30))=aa
 line:(cO.endLine==dX.line)=aa
 trees:dh dX (aH [e,f] X.env)= [(ak,eval e X.env),(ak,eval f X.env)]
def ah7(H:Hp)(a:ab):Prop:=(∃b,D3 H a (.dK b))\/∃b,D3 H a (.dT b)
def abi(I:Inv X g l H s)(d:ah7 H a):
 s.TypeIs (.ref a) "dict"/\(∀b,bK a= .ref b->∃c,s.heap.get? b=J c/\c.dict=ah)/\(a==fu)=false:=by
 obtain⟨h,e⟩| ⟨h,e⟩:=d
 ·let⟨_,i,m,_,f⟩:=nT I.aQ e;show⟨f.typeIs,λb q=> ?_,i⟩;cases q;let⟨c,_,_,j,k,_⟩:=f;show⟨c,j,k.2.1⟩
 ·let⟨_,i,n,_,f⟩:=pC I.aQ e;show⟨f.typeIs,λb q=> ?_,i⟩;cases q;let⟨c,_,_,j,k,_⟩:=f;show⟨c,j,k.2.1⟩
section
variable {X:Cx} {kP:Y (ab×Obj)} {σ:St} {H:Hp} {s:au} {a:ab} {y d:V} {u r:ae} {o:az V} {A:bY} {E:ae->au->Prop}
def abt(v:A.units+1<ey)(I:Inv X kP σ H s)(g:o7 H a y o)(n:RelV y u)(p:RelV d r)(h:∀q t,Inv X kP σ H t->RelV (o.getD d) q->Q q t):
 ao (aD X.prog X.w) A (call (.builtin "dict.get") [.ref a,u,r]) Q E s:=by
 obtain⟨i,k,e,j,l⟩| ⟨i,k,b,e,j,w,l⟩:=g
 ·subst j;let⟨z,m,C,c,f⟩:=nT I.aQ e;show Nm EE f.typeIs QV (Qr _ _ _) (meets_dict_get_default (g8 X.prog X.w) a (mm n) m r) ⟨_,f.mapOf,h _ _ (I.tok _) ?_⟩;rw[l];show(c.val k).getD p
 ·subst j;cases(show u=bK b from n);let⟨z,m,x,c,f⟩:=pC I.aQ e;show Nm EE f.typeIs QV (Qr _ _ _) (meetsH_dict_get_default (iI (g8 X.prog X.w)) a b m r) ⟨uH v,k,x,nO I.aQ w,f,h _ _ (I.tok _) ?_⟩;rw[l];show(c.val k).getD p
end
def P8(e f g:TE):TE:=λb H Q=>e b H λx c=>∃a,x= .ref a/\ah7 c a/\f b c λy h=>g b h λz d=>∃o,o7 d a y o/\Q (o.getD z) d
section
variable {X:Cx} {o e f:aZ} {cO dX:Pos} {td ty tx:TE}
def vU(l:X.A.units+1<ey)(n:b3 X o td)(p:b3 X e ty)(q:b3 X f tx)(m:M2 X o "get" cO e f dX):b3 X (.Call (.Attribute o "get" cO) [e,f] [] dX) (P8 td ty tx):=by ext b s i H Q I h;show zq m.base m.xT m.line PySem.F.plainAttrs_dict EE PySem.F.type_dict_get (aM (n b s i H _ I h) λu r c=> ?_);let⟨x,t,k,v,a,w,d,A⟩:=c;subst w;obtain rfl:u=bK a:=v;let⟨C,D,_⟩:=abi k d;show⟨C,D,?_⟩;rw[m.trees];show EF B (Tw (FU (aM (p b r i t _ k A) λiv E c=> ?_)));let⟨y,L,T,ry,q2⟩:=c;show FU (aM (q b E i L _ T q2) λfv s3 c=> ?_);let⟨z,H3,I3,rz,ov,g,q3⟩:=c;show VI ?_;show abt l I3 g ry rz λw' s4 I4 j=>⟨_,H3,I4,j,q3⟩
end
section
variable {X:Cx} {kP:Y (ab×Obj)} {σ:St} {H:Hp} {s:au} {a:ab} {ck:Y (Key×V)} {A:bY} {E:ae->au->Prop}
end
section
variable {X:Cx} {kP:Y (ab×Obj)} {σ:St} {H:Hp} {s:au} {a:ab} {y:V} {u:ae} {A:bY} {E:ae->au->Prop}
end
def Px:typeLookup (.type "list") "keys"=pure none:=am_miss_of_fast ∅
def vO:xq table "dict.update.loop"=J fw.«dict.update.loop»:=entryFor_of_tree (by kernel_rfl)
def kZ:plainId "dict.update.loop"=true:=by decide+kernel
section
variable {prog:bD} {w:bf} {A:bY} {E:ae->au->Prop}
def IV(q:s.heap.get? a=some o)(r:o.cls= .type "list")(f:o.data= .seq y k)(t:o.dict=none)(z:A.handled=none)(h:∀n u,(∀b v,s.heap.get? b=some v->n.get? b=some v)->Q none {s with heap:=n,toks:=u}):ao (aD prog w) A (getAttr? (.ref a) "keys") Q E s:=by
 let⟨c,C,D,H⟩:=o;simp only at r f t;subst r f t;let⟨I,g,d,u,os⟩:=s;let x:∀m,(⟨I,g,d,m,os⟩:au).TypeIs (.ref a) "list":=λ_=>⟨_,q,rfl⟩;let i:=Px;let j:(["__module__","__name__","__qualname__","__doc__","__annotations__"]:List Str).contains "keys"=false:=by decide+kernel
 let p:("keys":Str).length+100<=aV:=⋯;let L:=sub_AttributeError;let T:=DS.lookup;let f4:=DS.bind (.ref a);let f5:=am_list_getattr_none;delta getAttr? getAttrBy? getAttrBy
 repeat (any_goals (first| assumption| show x _| ((with_reducible change ao _ _ (call (Value.builtin "list.__getattribute__") _ _) _ _ _);show qN DS (x _) am_entry_list_getattribute (PySem.F.args_list_getattribute_2 _ _) (meets_getattribute_miss_list a y k H "keys" _ i j p) ⟨q,z,λn m e l=> ?_⟩)| wp_step))
 let⟨t',u',he⟩:=l.there;change ao _ _ (getattributeRaised _ _ _ _ _ _ _) _ _ _;delta getattributeRaised
 repeat (any_goals (first| assumption| wp_step))
 all_goals first| show h _ _ l.keeps| (dsimp only;repeat (any_goals (first| assumption| show h _ _ l.keeps| wp_step)))
def JI(hh:A.handled=ah)(C:l≠I)(g:S≠I)(D:S≠l):
 ∀(a:Y (Key×ae)) (i:Nat) (d:Y (Key×ae)) (T:Int) (t:Tok) (s:au),items.size=i+⇑a-> ⇑d+⇑a<=aV->
  (∀(j:Nat) (q:Key×ae),a[j]? =J q->∃(b:ab) (u:ae),items[i+j]? =J (.ref b)/\b≠S/\b≠I/\gJ s.heap b #[u,q.2]/\D8 q.1 u=aa)->
  s.heap.IsListIter I l i->s.heap.IsList l items->s.heap.DictOf (g8 prog w) S d->
  (∀v tk,v.DictOf (g8 prog w) S (merged d a)->(∀b o,b≠S->b≠I->s.heap.get? b=J o->v.get? b=J o)->R (.ok (.ret res)) {s with heap:=v,toks:=tk})->
  iP (aD prog w) A (.builtin "dict.update.loop" ⟨[.ref S, .ref I, .int T t,res], []⟩) R s
 | [],i,d,T,t,s,h,H,ht,x,hl,hm,hR=>by show gW vO ?_;rw[ic kZ _];change ao _ A.in1 (dE (.ref I)>>=_) _ _ s;show ag (FO (A:=A.in1) hh x hl (by first| show lD (sj h)| (simp at h;simp;lk)) λv he=> ?_);change ao _ A.in1 (Pc S []>>=_) _ _ _;show ag (ax (ax ?_));show hR v s.toks (hm.extBut he g) λb o _ hb e=>he b o hb e
 | q::a,i,d,T,t,s,h,H,ht,x,hl,hm,hR=>by
   let⟨b,u,hb,Ol,hbI,L,hk⟩:=ht 0 q B;rw[cX] at h H;show gW vO ?_;rw[ic kZ _];change ao _ A.in1 (dE (.ref I)>>=_) _ _ s;show ag (Ft (x:= .ref b) x hl ∅ λh1 Q f=> ?_);let Ds:gJ h1 b #[u,q.2]:=L.extBut f.extBut hbI;let DE:h1.IsList l items:=hl.extBut f.extBut C;let xP:h1.DictOf (g8 prog w) S d:=hm.extBut f.extBut g;let⟨o,ho,hc,n,hd⟩:=id Ds;change ao _ A.in1 (fW [bK b] _>>=_) _ _ _;show ag (gm ?_);show ag (jx ?_);delta Po;show ag (sy (T:="tuple") ⟨o,ho,hc⟩ ?_);rw[ar ∅];show ag (mY ho hd (ax ?_));change ao _ A.in1 (fW [u,q.2] (dictSet S u q.2)) _ _ _;show gm (wpAny_dictSet_pairs (knd:=g8 prog w) (k:=q.1) hk xP (λh2 rA m=> ?_) ⋯);show ax ⟨gn kZ _,JI (items:=items) hh C g D a (i+1) (stored d q.1 q.2) (T+1) 0 _ (show items.size=i+1+⇑a by lk) ?_ (λj q' e=> ?_) ?_ ?_ rA λv tk kA k=> ?_⟩
   ·let z:=stored_length_le d q.1 q.2;lk
   ·let⟨b',u',jM,p,r,y,oe⟩:=ht (j+1) q' ∅;show⟨b',u',?_,p,r,(y.extBut f.extBut r).extBut m.extBut p,oe⟩;rw[show i+1+j=i+(j+1) by lk];show jM
   ·show Q.at λo' e=>m.extBut I o' (eF g) e
   ·show DE.extBut m.extBut (eF D)
   ·show hR v tk kA λc oc h3 h4 e=>k c oc h3 h4 (m.extBut c oc h3 (f.extBut c oc h4 e))
def Pf(hh:A.handled=ah)(L:s.heap.get? l=J t)(hc:t.cls= .type "list")(hd:t.dict=ah)(i:t.data= .seq a n)(hsz:a.size=⇑prs)(hln: ⇑prs<=aV)(ht:∀(j:Nat) (q:Key×ae),prs[j]? =J q->∃(b:ab) (u:ae),a[j]? =J (.ref b)/\gJ s.heap b #[u,q.2]/\D8 q.1 u=aa)(h:∀v tk,v.DictOf (g8 prog w) ↥s (merged [] prs)->(∀b o,s.heap.get? b=J o->v.get? b=J o)->Q (.ref ↥s) {s with heap:=v,toks:=tk}):
 ao (aD prog w) A (call (.type "dict") [.ref l]) Q E s:=by
 show callType_codes (Q₁:=λx m=>x= .ref ↥s/\m={s with heap:=s.heap.push {cls:= .type "dict",data:= .dict #[]}}) QU (PL _) Qq (kt_code_dict_new _ ⟨B,B⟩) ?_;ext x m ⟨rfl,rfl⟩;let d:(s.heap.push {cls:= .type "dict",data:= .dict #[]}).DictOf (g8 prog w) ↥s []:=Sb s.heap;let y:∀b o,s.heap.get? b=J o->(s.heap.push {cls:= .type "dict",data:= .dict #[]}).get? b=J o:=λb o e=>bQ _ e;show⟨d.typeIs,Qm _ _,?_⟩;delta fw.«dict.__init__»;show ag ?_;delta Pb;show ag (uC d.typeIs ?_);change ao _ _ (pure (↥s, [bK l])) _ _ _;show ax ?_;change ao _ _ (yf "dict.__init__" ↥s (.ref l) [] .none) _ _ _;delta yf;show ag (sy (T:="list") ⟨t,y _ _ L,hc⟩ ?_);rw[ar ∅];show ag (IV (y _ _ L) hc i hd hh λp tk1 f=> ?_);rw[ar (show(ah:az ae).isNone=aa from B)];show ag (sP ?_);let C:p.IsList l a:=⟨t,f _ _ (y _ _ L),hc,n,i⟩;let g: ↥s<p.objs.size:=by let e:(s.heap.push {cls:= .type "dict",data:= .dict #[]}).get? ↥s=J {cls:= .type "dict",data:= .dict #[]}:=cg _ B;show bF (f _ _ e)
 refine ag (oA C ?_);let T:∀b o,p.get? b=J o->(p.push {cls:= .type "list_iterator",data:= .fields #[.ref l, .int 0 0]}).get? b=J o:=λb o e=>bQ _ e;let D:l<↥s:=bF L;let H:=JI (prog:=prog) (w:=w) (A:=A.in1) (R:=wants (λr I=>r= .none/\Q (.ref ↥s) I) E) (S:=↥s) (I:=p.objs.size) (l:=l) (items:=a) (res:=ft) hh
  (cK (lQ D g)) (cK g) (j_ D) prs 0 [] 0 0
  {s with heap:=p.push {cls:= .type "list_iterator",data:= .fields #[.ref l, .int 0 0]},toks:=tk1} ⋯ ⋯
  (λj q e=>by let⟨b,u,e1,e2,e3⟩:=ht j q e;let hb:b<↥s:=e2.lt;show⟨b,u,⋯,cK hb,cK (lQ hb g),e2.keeps λc o z=>T _ _ (f _ _ (y _ _ z)),e3⟩)
  ⟨_,cg _ B,B,B⟩ (C.at λo e=>T _ _ e) ((d.at λo e=>f _ _ e).at λo e=>T _ _ e)
  (λv tk kA k=>⟨B,h v tk kA λb o e=>k b o (cK (bF e)) (cK (lQ (bF e) g)) (T _ _ (f _ _ (y _ _ e)))⟩)
 first
  | show ax ⟨gn kZ _,H⟩
  | show ag (ax (ax ⟨gn kZ _,H⟩))
end
section
variable {X:Cx}
def WI(I:Inv X f z H s){g:Y ab}{c:Y (Key×V)}(i:aU (λp d=>d7 X.K H p [c9 d.1,d.2]) g c):∃a:Y (Key×ae),i7 c a/\ ⇑a=⇑g/\∀(j:Nat) (q:Key×ae),a[j]? =J q->∃(b:ab) (u:ae),g[j]? =J b/\gJ s.heap b #[u,q.2]/\D8 q.1 u=aa:=by
 induction i with
 | nil=>show⟨[], .nil,B,λj q e=>∅⟩
 | @cons p d _ _ h t k=>
   let⟨a,r,A,C⟩:=k;let⟨l,m,n,_⟩:=I.tuple h;let⟨u,y,o,v,w⟩:=vals2 m;subst o;show⟨(d.1,y)::a, .cons ⟨B,w⟩ r,∅,λj q e=> ?_⟩;cases j with
   | zero=>let x:(d.1,y)=q:=bu e;subst x;show⟨p,u,B,n,mm (P:=X.prog) (w:=X.w) v⟩
   | succ j=>cbv
def wu:∀{b:List ab} {a:List ae},Vals (b.map V.ref) a->a=b.map bK
 | [],a,r=>by rw[nc] at r;cases r;rfl
 | p::b,a,r=>by
   rw[bp] at r;cases r with
   | cons h t=>cases h;rw[bp,<-wu t]
def Tj(c:X.calm=aa):i3 X (.type "dict") (λt H Q=>∃(a:ab) (i:Y ab) (b:Y (Key×V)),t= [.ref a]/\SqL X.K H a (i.map V.ref)/\aU (λp v=>d7 X.K H p [c9 v.1,v.2]) i b/\
 ∀p,H p=ah->Q (.ref p) (upd H p (.dK (z0 [] b)))):=by
 ext l s σ H t us Q I r q;let⟨a,i,b,x,y,z,q⟩:=q;subst x;let⟨u,A,C⟩:=vals1 r;subst A;cases C;let⟨D,E,L,w⟩:=I.list y;let T:=wu E;subst T;rw[aF] at w;let⟨d,f,hl,Dy⟩:=WI I z;let⟨o,n,ho,hc,hd,g⟩:=L;show Pf (prs:=d) (I.ok.hd c) ho hc hd g ∅ ∅ (λj q' e=> ?_) λh' tk m k=> ?_
 ·cbv
 ·let hm:(↥s==fu)=false:=kI.mpr (j_ I.big);let h:(z0 [] b).length<=aV:=by show da (yR b []) ?_;rw[lK,jZ,f.length,hl];show w
  show⟨.ref ↥s,upd H ↥s (.dK (z0 [] b)),I.laid (t':=tk) k (br _) (show f7 X.prog X.w _ _ _ (.dK (z0 [] b))from⟨h,hm,merged [] d,i7.merge f .nil,m⟩),rfl,q _ (I.aQ.fresh (br _))⟩
end
section
variable {X:Cx} {kP:Y (ab×Obj)} {σ:St} {H:Hp} {s:au} {h':bA}
def Inv.Ao{t':Nat}{ch:Y ab}{T:ab}{i:HO}(I:Inv X kP σ H s)(k:∀b o,b∉ch->s.heap.get? b=J o->h'.get? b=J o)(f:∀b∈ch,E6 X kP H b)(l: ↥s<=T)(j:f7 X.prog X.w (upd H T i) h' T i):Inv X kP σ (upd H T i) {s with heap:=h',toks:=t'}:=by
 let g:H T=none:=I.aQ.fresh l;let h:∀b u,H b=J u->b∉ch:=λb u e z=>by let q:=(f b z).1;rw[q] at e;cases e
 refine I.step (g':=s.gens) (d':=s.drawn) (ch:=ch) (λb a=>⟨(f b a).2.2.2.1,(f b a).2.1,(f b a).2.2.2.2.1,(f b a).2.2.2.2.2⟩) (λb o _ _ d e _=>k b o d e) (λb o _ _ d e _=>⟨o.slots,k b o d e⟩)
  (λb o _ e n=> ?_) (λb o d e=>⟨o,k b o d e⟩) (λb p e=> ?_) (λb o u e=> ?_) (λb A e=>⟨#[],?_⟩) (λm t=> ?_) (λb u e=> ?_) I.bare
 ·rw[aS (cK (gv (bF e) l))];show n
 ·rw[aS (eE e g)];show e
 ·rw[aS (eE e g)];show e
 ·rw[aS (eE e g),e];simp
 ·let⟨o,w,x,y,r⟩:=t;show⟨o,w,x,k _ o (λz=>(f _ z).2.1 B) y,r⟩
 ·cases a:b=T
  ·subst a;rw[bg] at e;cases e;show j
  ·rw[aS a] at e;show(I.aQ b u e).mq (λc v d q=>k c v ?_ q) (λc q=>by rw[aS (eE q g)];show q) λc p q=>by rw[aS (eE q g)];show q
   obtain z| z:=d
   ·rw[z];show h b u e
   ·show h c _ z
def Inv.lock(I:Inv X kP σ H s)(h:H d=J u)(c:N4 (J u)):∃a,Inv X kP σ (upd H d (.cx a u)) s:=by
 have x:=I.aQ d u h;let i:∃a,s.heap.get? d=J a:=by
  cases u with
  | lst j=>let⟨_,_,_,_,e⟩:=x;show⟨_,e⟩
  | dK f=>let⟨_,_,_,_,o,_,_,e,_⟩:=x;show⟨o,e⟩
  | dT f=>let⟨_,_,_,_,o,_,_,e,_⟩:=x;show⟨o,e⟩
  | set S n=>let⟨o,_,_,_,e,_⟩:=x;show⟨o,e⟩
  | ins C k l=>let⟨_,_,_,e,_⟩:=x;show⟨_,e⟩
  | ext m=>let⟨_,⟨_,e⟩,_⟩:=x;show⟨_,e⟩
  | _=>show gZ c
 let⟨a,e⟩:=i;let g:f7 X.prog X.w (upd H d (.cx a u)) s.heap d (.cx a u):=by
  show⟨e,x.mq (λb v _ q=>q) (λb q=> ?_) λb j q=> ?_⟩
  ·rw[aS (λz=>by rw[z,h] at q;cases q;show c)];show q
  ·rw[aS (λz=>by rw[z,h] at q;cases q;show c)];show q
 show⟨a,I.write (x:=d) (e:=d) (t':=s.toks) (h':=s.heap) ∅ (.inl B) (λb v _ q=>q) ⟨a,e⟩ g⟩
def Inv.xu(I:Inv X kP σ H s)(h:H d=J u)(c:N4 (J u)):∀a b,X.H_0 d≠J (.cx a b):=λa b e=>by let q:=I.base.kr d a b e;rw[h] at q;cases q;show c
def Inv.unlock(I:Inv X kP σ H s)(h:H d=J (.cx y u))(A:∀f g,X.H_0 d≠J (.cx f g)):Inv X kP σ (upd H d u) s:=by
 let a:∀b o,H b=J o->(∀f g,o≠ .cx f g)->b≠d:=λb o e l z=>⋯;let neN:∀b,H b=ah->b≠d:=λb e z=>∅;show⟨I.ok,I.os,I.bare,⟨I.base.keep,I.base.slot,λb o e n k=> ?_,I.base.there,λb i e=> ?_,λb o x e=> ?_,λb t e=> ?_⟩,I.loc,I.cell,?_,λx c e=> ?_,λp w=> ?_,λb o e=> ?_,I.len⟩
 ·rw[aS (neN b (I.base.free b o e n k))];show I.base.free b o e n k
 ·let q:=I.base.lu b i e;rw[aS (a b _ q (λ_ _ z=>nomatch z))];show q
 ·let q:=I.base.kr b o x e;rw[aS (λz=>∅)];show q
 ·let⟨m,q⟩:=I.base.mn b t e;show⟨m,by rw[aS (a b _ q (λ_ _ z=>nomatch z))];show q⟩
 ·rw[aS (neN _ I.free)];show I.free
 ·rw[aS (neN c (I.jf x c e))];show I.jf x c e
 ·let⟨e,n,r⟩:=I.pin p w;show⟨e,by rw[aS (neN _ n)];show n,r⟩
 ·cases j:b=d
  ·rw[j,bg] at e;cases e;rw[j];let⟨_,x⟩:=I.aQ d _ h;show x.mq (λc v _ q=>q) (λc q=>by rw[aS (a c _ q (λ_ _ z=>nomatch z))];show q) λc i q=>by rw[aS (a c _ q (λ_ _ z=>nomatch z))];show q
  ·rw[aS j] at e;show(I.aQ b o e).mq (λc v _ q=>q) (λc q=>by rw[aS (a c _ q (λ_ _ z=>nomatch z))];show q) λc i q=>by rw[aS (a c _ q (λ_ _ z=>nomatch z))];show q
end
def Y9(t:TS):TS:=λD e H=>∃d u,H d=J u/\N4 (J u)/\∀c,t ⟨λa b=>b d=J (.cx c u)/\D.nx a (upd b d u),λv b=>b d=J (.cx c u)/\D.rt v (upd b d u),λa b=>b d=J (.cx c u)/\D.bk a (upd b d u),λa b=>b d=J (.cx c u)/\D.ct a (upd b d u)⟩ e (upd H d (.cx c u))
section
variable {X:Cx}
def wx{st:eY}{t:TS}(h:m9 X st t):m9 X st (Y9 t):=by
 ext b s l H D I j;let⟨d,u,g,i,j⟩:=j;let⟨m,n⟩:=I.lock g i;show aM (h b s l _ _ n (j m)) λf o q=> ?_;cases f with
 | next=>let⟨a,k,c,e,q⟩:=q;show⟨a,_,c.unlock e (I.xu g i),q⟩
 | brk=>let⟨a,k,c,e,q⟩:=q;show⟨a,_,c.unlock e (I.xu g i),q⟩
 | cont=>let⟨a,k,c,e,q⟩:=q;show⟨a,_,c.unlock e (I.xu g i),q⟩
 | ret v=>let⟨x,a,k,c,r,e,q⟩:=q;show⟨x,a,_,c.unlock e (I.xu g i),r,q⟩
def ts(I:Inv X c f H s)(o:Obj)(T:Turn X.prog X.w X.K g a [↥s] ↥s d)(st:d 0 (s.heap.push o))(q:R a H):T2 X c f g R (.ref ↥s) {s with heap:=s.heap.push o,toks:=tk}:=by show⟨↥s, [↥s],d,a,H,B,I.kept λb h e=>bQ _ e,T,st,λb i=> ?_,q⟩;let e:b=↥s:=∅;subst e;show I.rn (br _) (I.aQ.fresh (br _))
end
def ab6(lo c:Int)(n:Nat):It:=⟨λi _=>i<n,λi H x a=>a=H/\x= .int (lo+(i:Nat)*c),λi _=>n<=i⟩
def Rk{P:bD}{w:bf}{K:aG}{tg:aZ}(it:ab)(lo c:Int)(n:Nat):Turn P w K tg (ab6 lo c n) [it] it (λi h=>BW h it (lo+(i:Nat)*c) ((n:Int)-(i:Nat)) c)where
 mem:=∅
 obj:=λi h st b hb=>∅
 keep:=λi h h' st k=>k it ∅ _ st
 item:=by ext X hP hw hK hc i kP s σ H E I hf st hg;subst hP hw hK;let⟨f0,f1,f2,f3,f4,f5⟩:=hf it ∅;let W:=Walks.range (prog:=X.prog) (w:=X.w) (I.ok.hd hc) it lo c n;show W.item i s _ _ hg st λv h' tk hv hZ kk=> ?_;let⟨t,rfl⟩:=hv;let I1:Inv X kP σ H {s with heap:=h',toks:=tk}:=I.turned (λb o hb e=>kk b o ∅ e) f0 f1 f3 f4 f5;show⟨_,B,tJ (s:={s with heap:=h',toks:=tk}) (n:="range_iterator") hZ B B ∅ ⟨.int (lo+(i:Nat)*c),H,I1,⟨t,B⟩,⟨B,B⟩,hZ,λb hb=>(hf b hb).1⟩⟩
 done:=by ext X hP hw hK hc i kP s σ H E I hf st hg;subst hP hw hK;let⟨f0,f1,f2,f3,f4,f5⟩:=hf it ∅;show XD (I.ok.hd hc) st (by have:n<=i:=hg;lk) λh' eb=>⟨B,I.turned (t':=s.toks) (λb o hb e=>eb b o hb e) f0 f1 f3 f4 f5⟩
 self:=λA i s Q E st h=>XE st h
def K7(i j c:Int)(n:Nat):Prop:=c≠0/\c.natAbs<1073741824/\PR i j c=aa/\ux i j c=n
def K7.neg(c: -(2^62)<=i)(a:i<2^62)(d: -(2^62)<=j)(b:j<2^62):K7 i j (-1) (i-j).toNat:=
 ⟨∅,∅,PySem.W.small_down c a d b,PySem.W.rangeSize_downNat i j⟩
def af0(a:TA):TI:=λb H R=>a b H λd e=>∃(i j c:Int) (n:Nat),d= [.int i, .int j, .int c]/\K7 i j c n/\R (ab6 i c n) e
section
variable {X:Cx} {tg:aZ}
def vC(x:k4 X "range")(y:X.mg "range"=ah)(z:j2 X [a,b,c] A)(C:aH [a,b,c] X.env=(ak,eval a X.env)::aH [b,c] X.env:=by rfl)(m:(dh f (aH [b,c] X.env)).any (·.1)=false:=by rfl):
 n6 X tg (.Call (.Name "range" p) [a,b,c] [] f) (af0 A):=by
 ext d s w H R I h;show Call_ (mf I x y boot_range (uu (aM (z f d s w H _ I h) λus l ⟨vs,D,E,L,Q⟩=> ?_) C m));let⟨i,j,k,n,e,⟨T,c1,c2,c3⟩,q⟩:=Q;subst e;cases L with
 | cons r g=>
   cases g with
   | cons r' g=>
     cases g with
     | cons u g=>cases g;let⟨t,rfl⟩:=r;let⟨t',rfl⟩:=r';let⟨v,rfl⟩:=u;show call_range_3 T ?_ (.inl (PyProof.noPylong_small c1));show wpAny_pyIter_range (aam ..) c2 ?_;let I2:Inv X d w D {l with heap:=l.heap.push {cls:= .type "range",data:= .fields #[.int i t, .int j t', .int k v]}}:=E.kept (t':=l.toks) λb o e=>bQ _ e;show ts (tk:=l.toks) I2 _ (Rk _ i k n) ?_ q;let e1:i+((0:Nat):Int)*k=i:=∅;let e2:(n:Int)-((0:Nat):Int)=ux i j k:=∅;change BW _ _ (i+((0:Nat):Int)*k) ((n:Int)-((0:Nat):Int)) k;rw[e1,e2];show cg _ B
end
section
variable {X:Cx} {tg:aZ}
end
def ah3(x:Str):It:=⟨λi _=>i<x.cps.size,λi H v a=>a=H/\∃c,x.cps[i]? =J c/\v= .str ⟨#[c]⟩,λi _=>x.cps.size<=i⟩
def JK{P:bD}{w:bf}{K:aG}{tg:aZ}(it:ab)(x:Str)(t:Tok)(ty:String)(xK:ty="str_ascii_iterator"\/ty="str_iterator"):
 Turn P w K tg (ah3 x) [it] it (λi h=>h.IsStrIter it ty x t i)where
 mem:=∅
 obj:=λi h st b hb=>by let e:b=it:=∅;subst e;let⟨o,e,c,d⟩:=st;show⟨o,e,λv z=>∅⟩
 keep:=λi h h' st k=>let⟨o,ho,r⟩:=st;⟨o,k it ∅ o ho,r⟩
 item:=by
  ext X hP hw hK hc i kP s σ H E I hf st hg;subst hP hw hK;let⟨f0,f1,f2,f3,f4,f5⟩:=hf it ∅;let W:rp X.prog X.w X.A it [it] [it] x.cps.size (SignAt x) (λi h=>h.IsStrIter it ty x t i):=by
   obtain e| e:=xK
   ·rw[e];show Walks.strAscii (I.ok.hd hc) it x t
   ·rw[e];show Walks.strWide (I.ok.hd hc) it x t
  let DB: ["enumerate","zip","dict_itemiterator","dict_reverseitemiterator","odict_iterator","itertools.zip_longest","itertools.pairwise"].contains ty=false:=by obtain e| e:=xK<;>rw[e]<;>rfl
  show W.item i s _ _ hg st λv h' tk hv hZ kk=> ?_;let⟨c,u,hcx,rfl⟩:=hv;let I1:Inv X kP σ H {s with heap:=h',toks:=tk}:=I.turned (λb o hb e=>kk b o ∅ e) f0 f1 f3 f4 f5;let⟨oi,e,cc,dd⟩:=id hZ;show⟨_,B,tJ (s:={s with heap:=h',toks:=tk}) e cc dd DB ⟨.str ⟨#[c]⟩,H,I1,⟨u,B⟩,⟨B,c,hcx,B⟩,hZ,λb hb=>(hf b hb).1⟩⟩
 done:=by
  ext X hP hw hK hc i kP s σ H E I hf st hg;subst hP hw hK;let⟨f0,f1,f2,f3,f4,f5⟩:=hf it ∅;let hx:x.cps[i]? =none:=lD hg;obtain e| e:=xK
  ·rw[e] at st;show wpAny_pyNext_ascii_end (I.ok.hd hc) st hx λh' eb=>⟨B,I.turned (t':=s.toks) (λb o hb e=>eb b o hb e) f0 f1 f3 f4 f5⟩
  ·rw[e] at st;show wpAny_pyNext_wide_end (I.ok.hd hc) st hx λh' eb=>⟨B,I.turned (t':=s.toks) (λb o hb e=>eb b o hb e) f0 f1 f3 f4 f5⟩
 self:=λA i s Q E st h=>by
  obtain e| e:=xK
  ·rw[e] at st;show wpAny_pyIter_striter_ascii st h
  ·rw[e] at st;show wpAny_pyIter_striter_wide st h
def ag1(a:TE):TI:=λb H R=>a b H λv c=>∃x,v= .str x/\R (ah3 x) c
def aaH{X:Cx}{g e:aZ}{b:TE}(i:b3 X e b):n6 X g e (ag1 b):=by
 ext a s j H R I h;show aM (i a s j H _ I h) λv c k=> ?_;let⟨y,n,d,l,x,m,q⟩:=k;subst m;let⟨t,rfl⟩:=l;rcases f:x.cps.all (·<128)with _| _
 ·show wpAny_pyIter_wide f (ts (tk:=c.toks) d _ (JK _ x t "str_iterator" (.inr B)) ⟨_,cg _ B,B,B⟩ q)
 ·show wpAny_pyIter_ascii f (ts (tk:=c.toks) d _ (JK _ x t "str_ascii_iterator" (.inl B)) ⟨_,cg _ B,B,B⟩ q)
section
variable {prog:bD} {w:bf} {A:bY} {E:ae->au->Prop} {s:au}
def UR(i:(d==fu)=ak)(b:s.heap.get? d=J o)(e:o.ExactDict)(a:o.data= .dict f g)(h:Q (.ref ↥s) {s with heap:=s.heap.push {cls:= .type "dict_keyiterator",data:= .fields #[.ref d, .int 0 0, .int f.size 0, .int g 0]}}):
 ao (aD prog w) A (pyIter (.ref d)) Q E s:=by
 let c:s.TypeIs (.ref d) "dict":=⟨o,b,e.1⟩;show uN c F.slot_dict_iter (iD F.slot_dict_iter c F.entry_dict_iter ?_ (F.args_dict_iter_1 _));delta fw.«dict.__iter__»;show ag ?_;delta Builtin.Dict.dictSlotNone;show ag (uC c ?_);change ao _ _ (pure (bK d)) _ _ s;show ax ?_;change ao _ _ (rD d>>=_) _ _ s;delta rD;rw[aj ∅];show ag (ax ?_);show ag (lI b a ?_);show ag (mT b a ?_);show ag (fc (ax ⟨_,B,"dict_keyiterator",_,⟨_,cg _ B,B⟩,F.slot_dict_keyiterator_next.lookup,?_⟩));simpa[iw] using h
def Qb(a:s.heap.IsKeyIter c d i n k)(e:s.heap.get? d=J r)(f:r.data= .dict l k)(t:l.size=n)(u:l[i]? =J v)(x:∀m,m.IsKeyIter c d (i+1) n k->jz c s.heap m->Q (J v.key) {s with heap:=m}):ao (aD prog w) A (dE (.ref c)) Q E s:=by
 let⟨o,p,y,j⟩:=id a;delta dE;show ag (oM (mI (name:=Lc "__next__") a.typeIs F.slot_dict_keyiterator_next
  (iD F.slot_dict_keyiterator_next a.typeIs F.entry_dict_keyiterator_next ?_ (F.args_dict_keyiterator_next_1 _))))
 show ag (ax ?_);show ag ?_;show ag ?_
 first| show ag (yb a.typeIs (ax ?_))| show ag (yo a.typeIs (ax ?_))
 show ag (jW p j ?_);let g:om "dict_keyiterator"=false:=∅;erw[g,kJ,fF];change ao _ _ (if(bK d==ft)=aa then _ else _) _ _ s;rw[aj (show¬((bK d==ft)=aa)from dQ)];show ag (ax ?_);show ag (lI e f ?_);rw[aj ∅];show ag (ax ?_);show ag (mT e f ?_);rw[aj ∅];show ax ?_;let⟨h,q⟩:=uw.mp u;erw[show¬((i:Int)<0)from by cbv,fF,fo,ib h];show ag ?_
 first| show ag (yb a.typeIs (ax ?_))| show ag (yo a.typeIs (ax ?_))
 refine ag (XU a.typeIs ?_);change ao _ _ (pd (.ref c) 1 (iw ((i:Int)+1))>>=_) _ _ s;show ag (oG p j ⋯ ?_);let b:(s.heap.update c (vu (·.setIfInBounds 1 (iw ((i:Int)+1))))).IsKeyIter c d (i+1) n k:=
  ⟨_,kH _ p (yr (ou j _)),(yZ ..).trans y,by rw[ou j];simp[iw]⟩
 show ag (gm ?_);show ag (XU (s:={s with heap:=s.heap.update c (vu (·.setIfInBounds 1 (iw ((i:Int)+1))))}) b.typeIs ?_);change ao _ _ (pure l[i].key) _ _ _;rw[q];show ax (ax ⟨_,B,ax (x _ b (mJ ..))⟩)
def QE(m:A.handled=ah)(a:s.heap.IsKeyIter g d i n p)(b:s.heap.get? d=J q)(c:q.data= .dict h p)(r:h.size=n)(t:n<=i)(u:∀j,Bs g s.heap j->Q ah {s with heap:=j}):ao (aD prog w) A (dE (.ref g)) Q E s:=by
 let⟨o,k,v,l⟩:=id a;delta dE;show ag (oM (mI (name:=Lc "__next__") a.typeIs F.slot_dict_keyiterator_next
  (iD F.slot_dict_keyiterator_next a.typeIs F.entry_dict_keyiterator_next ?_ (F.args_dict_keyiterator_next_1 _))))
 show ag (ax ?_);show ag ?_;show ag ?_
 first| show ag (yb a.typeIs (ax ?_))| show ag (yo a.typeIs (ax ?_))
 show ag (jW k l ?_);let e:om "dict_keyiterator"=false:=∅;erw[e,kJ,fF];change ao _ _ (if(bK d==ft)=aa then _ else _) _ _ s;rw[aj (show¬((bK d==ft)=aa)from dQ)];show ag (ax ?_);show ag (lI b c ?_);rw[aj ∅];show ag (ax ?_);show ag (mT b c ?_);rw[aj ∅];show ax ?_;let f:h.size<=i:=∅;erw[show¬((i:Int)<0)from by cbv,fF,fo,lD f];show ag ?_
 first| show ag (yb a.typeIs (ax ?_))| show ag (yo a.typeIs (ax ?_))
 change ao _ _ (pd (.ref g) 0 .none>>=_) _ _ s;show ag (oG k l ⋯ ?_);change ao _ _ (pH (.type "StopIteration") []>>=_) _ _ _;show ag ?_;erw[pH,CG];show ag (fc ?_ (by size_fits));show ag (m:=vt _ _) (nj (a:=ft) (by first| rfl| (erw[vt];rfl)) ?_);show fc ?_ (by size_fits);erw[CD];show ag (AS ?_);rw[show A.in1.handled=ah from m];show ag (ax (BV ?_));show ag (uV (T:="StopIteration") (b:=aa) ⟨_,cg _ B,B⟩ AM ?_);show ax (u _ (((mJ ..).extBut.push _).push _))
end
def aaY{c:Y (M×V)}{d:Y (M×ae)}(h:i7 c d):∀{i:Nat} {k:M} {v:V},c[i]? =J (k,v)->∃u,d[i]? =J (k,u)/\RelV v u:=by
 delta i7 at h;induction h with
 | nil=>ext i k v e;simp at e
 | @cons a b f g r t j=>
   ext i k v e;cases i with
   | zero=>cases e;show⟨b.2,congrArg (λx=>some (x,b.2)) r.1.symm,r.2⟩
   | succ i=>show j e
def Aa{G:f->g->Prop}{c:Y f}{d:Y g}(h:aU G c d):∀{i:Nat} {a:f},c[i]? =J a->∃b,d[i]? =J b/\G a b:=by
 induction h with
 | nil=>ext i a e;simp at e
 | @cons a b c d r t j=>
   ext i k e;cases i with
   | zero=>cases e;show⟨b,rfl,r⟩
   | succ i=>show j e
def Wj(h:D8 k u=aa):RelV (c9 k) u:=by
 obtain⟨i,t,rfl,rfl⟩| ⟨x,t,rfl,rfl⟩:=kX h
 ·show⟨t,B⟩
 ·show⟨t,B⟩
section
variable {X:Cx} {kP:Y (ab×Obj)} {σ:St} {H:Hp} {s:au} {d:ab} {o:Obj}
def Inv.CQ(I:Inv X kP σ H s)(h:H d=some (.cx o (.dK a))):
 (d==fu)=false/\s.heap.get? d=some o/\o.ExactDict/\∃(b:Array nv) (f:Nat) (c:List (Key×ae)),o.data= .dict b f/\b.size=a.length/\i7 a c/\s.heap.DictAt (g8 X.prog X.w) d c f:=by
 let⟨g,z,l,c,i,n,b,f,j,k,e,r⟩:=I.aQ d _ h;rw[g] at j;cases j;show⟨l,g,k,b,f,c,e,?_,i,o,b,g,k,e,r⟩;let m:=r.2.1.length;let p:a.length=c.length:=iE i;rw[fR] at m
 cbv
end
def ah5(d:ab)(o:Obj)(a:Y (Key×V)):It:=
 ⟨λi H=>H d=J (.cx o (.dK a))/\i<⇑a,λi H x b=>∃T k v,a[i]? =J (k,v)/\x= .ref T/\H T=ah/\b=upd H T (.tup [c9 k,v]),λi H=>H d=J (.cx o (.dK a))/\ ⇑a<=i⟩
def wM{o:Obj}(h:o.data= .dict c d)(e:o.data= .dict a b):a=c/\b=d:=∅
section
variable {P:bD} {w:bf} {K:aG} {tg:aZ} {d:ab} {o:Obj} {es:Array nv} {ep:Nat}
def Sg{ck:Y (Key×V)}(it:ab)(uc:o.data= .dict es ep):
 Turn P w K (.Tuple elts kk tR) (ah5 d o ck) [it] it (λi h=>∃ok ov,oX h it d i ⇑ck ep ok ov)where
 mem:=∅
 obj:=λi h st b hb=>⋯
 keep:=λi h h' st k=>let⟨ok,ov,e⟩:=st;⟨ok,ov,k it ∅ _ e⟩
 item:=by
  ext X hP hw hK hc i kP s σ H E I hf st hg;subst hP hw hK;let⟨hd,hi⟩:=hg;let⟨hs,ui,hx,uq,ur,vs,my,hsz,kv,hm⟩:=I.CQ hd;let⟨rfl,rfl⟩:=wM uc my;let⟨⟨k,v⟩,ue⟩:∃p,ck[i]? =J p:=⟨ck[i],cW hi⟩;let⟨u,hu,ru⟩:=aaY kv ue;let hl: ⇑ck=⇑vs:=iE kv;let⟨ok,ov,he⟩:=st;rw[hl] at he;let ji:it<↥s:=bF he;show wpAny_pyNext_items_item he hm hu λkey h' CO ho hT hz hk=> ?_;show⟨_,B,RY (s:={s with heap:=h'}) ho λjN lz sb=> ?_⟩;let uj:jN.get? ↥s=J {cls:= .type "tuple",data:= .seq #[key,u]}:=(sb.2 _ (j_ ji)).trans hT;let new:f7 X.prog X.w (upd H ↥s (.tup [c9 k,v])) jN ↥s (.tup [c9 k,v]):=
   ⟨by change 2<=aV;decide, [key,u], .cons (Wj (show D8 k key=aa from CO)) (.cons ru .nil),⟨_,uj,B,_,B⟩⟩
  have I1:Inv X kP σ (upd H ↥s (.tup [c9 k,v])) {s with heap:=jN}:=
   I.Ao (t':=s.toks) (ch:= [it]) (λb ob hb e=>(sb.2 b ∅).trans (hk b ob ∅ e)) hf (br _) new
  show⟨.ref ↥s,_,I1,B,⟨_,k,v,ue,B,I.aQ.fresh (br _),B⟩,⟨key,u,?_⟩,λb hb=> ?_⟩
  ·rw[hl];show lz
  ·let e:b=it:=by simpa using hb
   rw[e,aS (cK ji)];show(hf it ∅).1
 done:=by ext X hP hw hK hc i kP s σ H E I hf st hg;subst hP hw hK;let⟨hd,hi⟩:=hg;let⟨f0,f1,f2,f3,f4,f5⟩:=hf it ∅;let⟨hs,ui,hx,uq,ur,vs,my,hsz,kv,hm⟩:=I.CQ hd;let⟨rfl,rfl⟩:=wM uc my;let hl: ⇑ck=⇑vs:=iE kv;let⟨ok,ov,he⟩:=st;rw[hl] at he;show wpAny_pyNext_items_end (I.ok.hd hc) he hm (rJ ∅) λh' eb=>⟨B,I.turned (t':=s.toks) (λb ob hb e=>eb b ob hb e) f0 f1 f3 f4 f5⟩
 self:=λA i s Q E st h=>let⟨_,_,e⟩:=st;Vw e h
end
def Y8(c:TE):TI:=λe H R=>c e H λx b=>∃d o a,x= .ref d/\b d=J (.cx o (.dK a))/\R (ah5 d o a) b
section
variable {X:Cx} {tg e:aZ} {td:TE} {cO dX:Pos}
def vR(v:b3 X e td)(f:jY e "items" X.env (eval e X.env)=eval e X.env:=by rfl)(g:(cO.endLine==dX.line)=true:=by rfl):
 n6 X (.Tuple i w j) (.Call (.Attribute e "items" cO) [] [] dX) (Y8 td):=by
 ext a s l H R I h;show zq (T:="dict") (id:="dict.items") f B g F.plainAttrs_dict F.slot_dict_items F.type_dict_items (aM (v a s l H _ I h) λu c y=> ?_);let⟨x,z,r,A,d,o,m,C,D,q⟩:=y;subst C;obtain rfl:u=bK d:=A;let⟨E,L,hx,es,ep,t,n,Q,T,k⟩:=r.CQ D;let hl:m.length=t.length:=iE T;show⟨k.dictOf.typeIs,k.dictOf.mapOf.noDict,?_⟩;let I2:Inv X a l z {c with heap:=c.heap.push {cls:= .type "dict_items",data:= .fields #[.ref d]}}:=r.kept (t':=c.toks) λb ob q=>bQ _ q;let p:ao (aD X.prog X.w) X.A (pyIter (.ref ↥c)) (T2 X a l (.Tuple i w j) R) X.xe {c with heap:=c.heap.push {cls:= .type "dict_items",data:= .fields #[.ref d]}}:=by show wpAny_pyIter_items (d:=d) (knd:=g8 X.prog X.w) ⟨_,cg _ B,B,B⟩ (k.push _) (ts (tk:=c.toks) I2 _ (Sg _ n) ⟨.none, .none,?_⟩ q);rw[hl];show cg _ B
 change ao _ _ (nF dX (.builtin "dict.items") [.ref d] [] []) _ X.xe c;show K_ F.slot_dict_items F.entry_dict_items B (yB ⟨B,k.dictOf.typeIs,F.args_dict_items_1 _,_,meets_dict_items (g8 X.prog X.w) d E,⟨t,k.dictOf⟩,p⟩)
end
def ah6(K:aG)(a:ab):It:=
 ⟨λi H=>∃(b:Y V) (x:V),SqL K H a b/\b[i]? =J x,λi H v c=>∃T x,v= .ref T/\H T=ah/\c=upd H T (.tup [.int (i:Nat),x])/\∀b,SqL K H a b->b[i]? =J x,λi H=>∃b:Y V,SqL K H a b/\ ⇑b<=i⟩
def TX{P:bD}{w:bf}{K:aG}{elts:List aZ}{kk:Nat}{tR:Pos}(a e it:ab):
 Turn P w K (.Tuple elts kk tR) (ah6 K a) [e,it] e (λi h=>(∃old,IsEnum h e it ((i:Nat):Int) old)/\h.IsListIter it a i/\e≠it)where
 mem:=∅
 obj:=λi h st b hb=>by
  let⟨⟨old,he⟩,⟨o,ho,hc,hd⟩,_⟩:=st;let e':b=e\/b=it:=∅;obtain z| z:=e'
  ·cbv
  ·cbv
 keep:=λi h h' st k=>let⟨⟨old,he⟩,hi,ek⟩:=st;⟨⟨old,k e ∅ _ he⟩,hi.at λo q=>k it ∅ o q,ek⟩
 item:=by
  ext X hP hw hK hc i kP s σ H E I hf st hg;subst hP hw hK;let⟨⟨old,he⟩,hit,ek⟩:=st;let⟨xs,x,hq,hx⟩:=hg;let⟨gL,rv,p,hz⟩:=I.list hq;let⟨u,hu,ru⟩:=rv.get hx;let hel:e<↥s:=bF he;let Of:it<↥s:=by let⟨_,q,_⟩:=hit;show bF q
  refine wpAny_pyNext_enum_item he hit p.isList (x:=u) ∅ ek λh' ho pM hT hsz hk=> ?_;show⟨_,rfl,wpAny_letOwnedTupleGo_enum (s:={s with heap:=h',toks:=s.toks+1}) ho λjN lz sb=> ?_⟩;let uj:jN.get? ↥s=some {cls:= .type "tuple",data:= .seq #[.int i s.toks,u]}:=(sb.2 _ (j_ hel)).trans hT;let new:f7 X.prog X.w (upd H ↥s (.tup [.int (i:Nat),x])) jN ↥s (.tup [.int (i:Nat),x]):=
   ⟨by change 2<=aV;decide, [.int i s.toks,u], .cons ⟨_,rfl⟩ (.cons ru .nil),⟨_,uj,rfl,_,rfl⟩⟩
  have I1:Inv X kP σ (upd H ↥s (.tup [.int (i:Nat),x])) {s with heap:=jN,toks:=s.toks+1}:=
   I.Ao (ch:= [e,it]) (λb ob hb q=>(sb.2 b (λz=>hb ∅)).trans (hk b ob (λz=>hb ∅) (λz=>hb ∅) q)) hf (br _) new
  show⟨.ref ↥s,_,I1,rfl,⟨_,x,rfl,I.aQ.fresh (br _),rfl,λys hy=>by rw[I.Kp hy hq];show hx⟩,⟨⟨u,?_⟩,pM.at λo q=>(sb.2 it (eF ek)).trans q,ek⟩,λb hb=> ?_⟩
  ·cbv
  ·let jM:b<↥s:=by lk
   rw[aS (cK jM)];show(hf b hb).1
 done:=by ext X hP hw hK hc i kP s σ H E I hf st hg;subst hP hw hK;let⟨⟨old,he⟩,hit,ek⟩:=st;let⟨xs,hq,hx⟩:=hg;let⟨gL,rv,p,hz⟩:=I.list hq;let⟨f0,f1,f2,f3,f4,f5⟩:=hf it ∅;let hl:=rv.length;show wpAny_pyNext_enum_end (I.ok.hd hc) he hit p.isList ∅ λh' eb=>⟨rfl,I.turned (t':=s.toks) (λb o hb q=>eb b o hb q) f0 f1 f3 f4 f5⟩
 self:=λA i s Q E st h=>let⟨⟨_,he⟩,_⟩:=st;wpAny_pyIter_enum he h
def U7(K:aG)(c:TA):TI:=λd H R=>c d H λe b=>∃a f,e= [.ref a]/\SqL K b a f/\R (ah6 K a) b
def YB{e:aZ}{m:TA}{p f g:Pos}{i:Y aZ}{u:Nat}(v:k4 X "enumerate")(w:X.mg "enumerate"=ah)(x:j2 X [e] m)(y:aH [e] X.env= [(ak,eval e X.env)]:=by rfl):
 n6 X (.Tuple i u g) (.Call (.Name "enumerate" p) [e] [] f) (U7 X.K m):=by
 ext c s n H R I h;show Call_ (mf I v w boot_enumerate (uu (aM (x f c s n H _ I h) λus d ⟨vs,o,k,z,A⟩=> ?_) y B));let⟨a,xs,C,D,q⟩:=A;subst C;cases z with
 | cons r E=>cases E;cases r;let⟨L,rv,Q,hz⟩:=k.list D;show call_enumerate_list Q.isList λT t l hsz hk=>wpAny_pyIter_enum t ?_;let I2:Inv X c n o {d with heap:=T}:=k.kept (t':=d.toks) hk;show⟨↥d+1, [↥d+1,↥d],_,_,o,B,I2,TX a (↥d+1) ↥d,⟨⟨.none,t⟩,l,Nat.succ_ne_self _⟩,λb hb=> ?_,q⟩;let e':b=↥d+1\/b=↥d:=∅;let j: ↥d<=b:=⋯;show k.rn j (k.aQ.fresh j)
end L2
section
namespace xB
open PySem PyProof.Rows
def Eu(m:Nat):∀n:Nat,(m^^^n)+2*(m &&& n)=m+n:=by
 induction m using Ie with
 | _ m b=>
   ext n;cases c:m=0
   ·subst c;simp
   ·let a:=b (m/2) ⋯ (n/2);rw[<-Nat.xor_div_two,<-Nat.and_div_two] at a;let d:=@Nat.xor_mod_two_eq_one m n;let a1:=@Nat.and_mod_two_eq_one m n;lk
def Vl(a:0<=x)(b:0<=y):mU x y=((x.toNat^^^y.toNat:Nat):Int):=by
 let e:=Eu x.toNat y.toNat;rw[bitXor_and,bitAnd_pp a b]
 omega
def Xz(a:0<=x)(b:0<=y):qx x y=((x.toNat||| y.toNat:Nat):Int):=by
 let e:=nat_or_add_and x.toNat y.toNat;rw[bitOr_and,bitAnd_pp a b]
 omega
end xB
end
section
namespace TL
open PySem PySem.Builtin PySem.Builtin.Str PySem.StrLaws
end TL
end
namespace L2
open PySem PySem.Spec PyProof.Rows
section
variable {X:Cx} {kP:Y (ab×Obj)} {σ:St} {H:Hp} {s:au} {Q:VK}
end
section
variable {X:Cx}
end
section
variable {X:Cx} {o e:aZ} {to te:TE}
end
section
variable {X:Cx}
end
end L2
namespace Att
open PySem PySem.W PySem.Calls PyProof.Rows
section
variable {prog:bD} {w:bf} {A:bY} {E:ae->au->Prop} {s:au} {K:Frag}
end
end Att
namespace L2
open PySem PySem.Spec PyProof.Rows
/---/def inClass(s:eY)(j:Nat):eY:=match s with
 | .ClassDef _ _ _ a _ _ _ _ _ _ _=>a.getD j (.Pass ⟨0,0,0,0⟩)
 | _=> .Pass ⟨0,0,0,0⟩
def L5(s:eY):Arguments:=match s with
 | .FunctionDef _ a _ _ _ _ _ _ _ _=>a
 | _=>{posonlyargs:= [],args:= [],vararg:=ah,kwonlyargs:= [],kw_defaults:= [],kwarg:=ah,defaults:= []}
def y9(s:eY):Y eY:=match s with
 | .FunctionDef _ _ b _ _ _ _ _ _ _=>b
 | _=> []
def k8(s:eY):gb:=match s with
 | .FunctionDef _ _ _ _ _ _ a _ _ _=>a
 | _=>{kind:= .function,names:= [],isGenerator:=ak,isCoroutine:=ak}
abbrev CX0:jn:=λ_ _ _ _ _ _=>False
abbrev E0:XK:=λ_ _ _=>False
def rf:Passes CX0 X E0:=λ_ _ _ _ _ _ _ h=>h.elim
structure kC(K:aG)(x qual:Str)(st:eY)(f:ab)(fd:gz):Prop where
 ex:∃(oc:ae) (od:az ab) (c9 doc pm:ae) (an:az ab) (DN ct:ae) (Dj:Array (az ae)),
  fd=lP x qual (L5 st) (y9 st) (k8 st) .none c9 doc pm an DN ct/\K.lookup f=J ⟨oc,od, .func fd,Dj⟩/\HW K DN qual=aa
 kp:oE K (.ref f)=aa
section
variable {P:bD} {w:bf} {K:aG} {mg:Str->az ae} {base:bA}
def kC.ok{x c:Str}{st:eY}{p:gz}{a j:Y Str}{k:Nat}{l:Sp}(F:kC K x c st f p)(S:md a j (k8 st))(len:∀g H Q E,l g H Q E-> ⇑g=⇑j)(i:∀(d:ae) (A:bY) (b:Y Env) (s:au) (H:Hp) (g:Y V) (Q:VK) (E:XK),cS k (A.deeper (jd c (k8 st) ↥s f d))->l g H Q E->
  ∃t,p4 (E5 CX0 P w K mg base a c (k8 st) f d A b s H E).mw (y9 st) t/\t {nx:=λ_ r=>Q .bO r,rt:=Q} (start a g) H):dY P w K mg base CX0 (k+1) f p j l:=by
 let⟨z,C,c9,u,D,I,d,L,v,rfl,lk,m⟩:=F.ex;show abY lk m S len λA b s H g Q E y o=> ?_;let⟨t,h,q⟩:=i d A b s H g Q E y o;show⟨t,h.mw,q⟩
def kC.binds{x a:Str}{st:eY}{k:gz}{d:Y Str}(F:kC K x a st f k)(h:∀(c9 b e:ae) (g:az ab) (c i:ae) (j:Y ae),⇑j=⇑d->xr (lP x a (L5 st) (y9 st) (k8 st) .none c9 b e g c i) ⟨j, []⟩=pure (d.zip j)):Binds K k d []:=by let⟨n,o,c9,b,e,g,c,i,l,rfl,lk,m⟩:=F.ex;show .all (h c9 b e g c i)
def fun_mk{x a:Str}{st:eY}{f:ab}{j:ae}{m g:az ab}{e:Array (az ae)}{c9 d h b i:ae}(l:K.lookup f=J ⟨j,m, .func (lP x a (L5 st) (y9 st) (k8 st) .none c9 d h g b i),e⟩)(c:HW K b a=aa)(k:oE K (.ref f)=aa):kC K x a st f (lP x a (L5 st) (y9 st) (k8 st) .none c9 d h g b i):=⟨⟨j,m,c9,d,h,g,b,i,e,B,l,c⟩,k⟩
end
def abV(a:cS k A):A.units+1<ey:=Nat.lt_of_le_of_lt (Nat.add_le_add_left (by decide:1<=64) _) a.units
section
variable {X:Cx}
def pv(i:Nat)(b:X.N[i]? =J x:=by rfl)(c:N3 X.env.scope x:=by first| show nV B| show nU (nV B)| show nU (nU B))(d:(x==("__debug__":Str))=false:=by decide)
 (a:(x==("__classdict__":Str))=false:=by decide):b3 X (.Name x e) (p3 i):=MF b c d a
def Vk:i3 X (.builtin "len") (λd H Q=>∃a b,d= [V.ref a]/\H a=J (.dK b)/\Q (.int ⇑b) H):=by ext c s i H d j Q I r h;let⟨a,b,rfl,e,q⟩:=h;let⟨u,rfl,f⟩:=vals1 r;cases f;show abZ I (.inl e) λt k g=>⟨.int ⇑b,H,g,⟨t,B⟩,q⟩
end
def c5(H a:Hp):Prop:=∀b o,H b=J o->a b=J o
def c5.trans(a:c5 H d)(b:c5 d e):c5 H e:=λc o h=>b c o (a c o h)
def c5.seq{K:aG}{H b:Hp}{a:ab}{c:Y V}(e:c5 H b)(h:SqL K H a c):SqL K b a c:=by
 obtain (h| ⟨o,h⟩)| h:=h
 ·show .inl (.inl (e _ _ h))
 ·show .inl (.inr ⟨o,e _ _ h⟩)
 ·show .inr h
section
variable {M:Type} [DecidableEq M]
end
end L2
end
section
section
namespace L2
open PySem PySem.Spec PyProof.Rows
open PySem.W (WData Codec OpenSpec Well WellAll ReadsW ReadsAllW)
mutual
inductive Dw(K:aG)(H:Hp):V->WData->Prop
 | bO:Dw K H .bO .none
 | bl (b:Bool):Dw K H (.bl b) (.bool b)
 | int (i:Int):Dw K H (.int i) (.int i)
 | str (x:Str):Dw K H (.str x) (.str x)
 | gg (b:Array UInt8):Dw K H (.gg b) (.bytes b.toList)
 | lst {a:ab} {xs:Y V} {ds:Y WData}:SqL K H a xs->jJ K H xs ds->Dw K H (.ref a) (.list ds)
 | tup {a:ab} {xs:Y V} {ds:Y WData}:d7 K H a xs->jJ K H xs ds->Dw K H (.ref a) (.tuple ds)
inductive jJ(K:aG)(H:Hp):Y V->Y WData->Prop
 | nil:jJ K H [] []
 | cons {v:V} {vs:Y V} {d:WData} {ds:Y WData}:Dw K H v d->jJ K H vs ds->jJ K H (v::vs) (d::ds)
end
def dw_ints{K:aG}{H:Hp}:∀a:Y Int,jJ K H (a.map V.int) (a.map WData.int)
 | []=> .nil
 | n::r=> .cons (.int n) (dw_ints r)
def ints_dw{K:aG}{H:Hp}:∀(b:List Int) (a:List V),jJ K H a (b.map WData.int)->a=b.map V.int
 | [],a,h=>by cases h;rfl
 | n::r,a,h=>by
   cases h with
   | cons c d=>cases c;rw[ints_dw r _ d]<;>rfl
section
variable {P:bD} {w:bf} {K:aG} {H:Hp} {h:bA} {R:PySem.W.WRecords} {cl:Str->az ab}
def aas(c:i6 P w H h)(g:K.In h)(q:SqL K H a f):∃(b:Y ae) (o:Obj) (n:Nat),Vals f b/\h.get? a=J o/\o.cls= .type "list"/\o.data= .seq b.toArray n:=by
 obtain q| ⟨o,b,n,e,i,_,j,_,d⟩:=q
 ·let⟨_,b,n,d,e⟩:=(show f7 P w H h a (.lst f)from q.ok c);show⟨b,_,n,d,e,B,B⟩
 ·show⟨b.toList,o,n,d,g _ _ e,i,⋯⟩
def aar(c:i6 P w H h)(j:K.In h)(q:d7 K H a g):∃(b:Y ae) (o:Obj) (n:Nat),Vals g b/\h.get? a=J o/\o.cls= .type "tuple"/\o.data= .seq b.toArray n:=by
 obtain q| ⟨o,b,n,e,d,i,_,f⟩:=q
 ·let⟨_,b,f,o,e,d,n,i⟩:=(show f7 P w H h a (.tup g)from q.ok c);show⟨b,o,n,f,e,d,i⟩
 ·show⟨b.toList,o,n,f,j _ _ e,d,⋯⟩
mutual
def Dw.reads(a:i6 P w H h)(e:K.In h):∀(d:WData) (v:V) (u:ae),Dw K H v d->RelV v u->∃f,ReadsW R cl h u d f
 | .none,_,_,x,r=>by cases x;cases r;show⟨_,ReadsW.none⟩
 | .bool b,_,_,x,r=>by cases x;cases r;show⟨_,ReadsW.bool b⟩
 | .int i,_,_,x,r=>by cases x;let⟨t,rfl⟩:=r;show⟨_,ReadsW.int i t⟩
 | .str s,_,_,x,r=>by cases x;let⟨t,rfl⟩:=r;show⟨_,ReadsW.str s t⟩
 | .bytes b,_,_,x,r=>by cases x;let⟨t,rfl⟩:=r;show⟨_,ReadsW.bytes _ t⟩
 | .list g,_,_,x,r=>by
   cases x with
   | lst j k=>cases r;let⟨c,o,n,l,m,p,q⟩:=aas a e j;let⟨f,y⟩:=Dw.readsAll a e g _ c k l;show⟨_,ReadsW.list m p q y⟩
 | .tuple g,_,_,x,r=>by
   cases x with
   | tup j k=>cases r;let⟨c,o,n,l,m,p,q⟩:=aar a e j;let⟨f,y⟩:=Dw.readsAll a e g _ c k l;show⟨_,ReadsW.tuple m p q y⟩
 | .float _,_,_,x,_=>by cases x
 | .dict _,_,_,x,_=>by cases x
 | .bytearray _,_,_,x,_=>by cases x
 | .set _,_,_,x,_=>by cases x
 | .frozenset _,_,_,x,_=>by cases x
 | .obj _ _,_,_,x,_=>by cases x
def Dw.readsAll(a:i6 P w H h)(c:K.In h):∀(b:Y WData) (e:Y V) (f:Y ae),jJ K H e b->Vals e f->∃g,ReadsAllW R cl h f b g
 | [],_,_,x,r=>by cases x;cases r;show⟨_,ReadsAllW.nil⟩
 | d::b,_,_,x,r=>by
   cases x with
   | cons i j=>
     cases r with
     | cons k l=>let⟨g,m⟩:=Dw.reads a c d _ _ i k;let⟨o,n⟩:=Dw.readsAll a c b _ _ j l;show⟨_,ReadsAllW.cons m n⟩
end
end
mutual
def z8:WData->Bool
 | .none=>aa
 | .bool _=>aa
 | .int _=>aa
 | .str _=>aa
 | .bytes _=>aa
 | .list a=>C8 a
 | .tuple a=>C8 a
 | _=>ak
def C8:Y WData->Bool
 | []=>aa
 | x::r=>z8 x && C8 r
end
def Ka{b:Type}{f:b->WData}(h:∀a,z8 (f a)=aa):∀l:Y b,C8 (l.map f)=aa
 | []=>rfl
 | x::r=>by change(z8 (f x) && C8 (r.map f))=aa;rw[h x,Ka h r]<;>rfl
def nM:∀(c:Codec) (a:c.denote),z8 (c.enc a)=aa
 | .unit,_=>rfl
 | .bool,_=>rfl
 | .int _ _,_=>rfl
 | .nat _ _,_=>rfl
 | .u8,_=>rfl
 | .bytes _ _,_=>rfl
 | .text _ _ _ _,_=>rfl
 | .list _ _ c,a=>Ka (λx=>nM c x) a
 | .pair c d,a=>by change(z8 (c.enc a.1) && (z8 (d.enc a.2) && aa))=aa;rw[nM c a.1,nM d a.2]<;>rfl
 | .triple c d e,a=>by change(z8 (c.enc a.1) && (z8 (d.enc a.2.1) && (z8 (e.enc a.2.2) && aa)))=aa;rw[nM c a.1,nM d a.2.1,nM e a.2.2]<;>rfl
 | .option c,ah=>rfl
 | .option c,J x=>nM c x
def IK:∀(b:Y Codec) (a:zt b),C8 (si b a)=aa
 | [],_=>rfl
 | c::b,a=>by change(z8 (c.enc a.1) && C8 (si b a.2))=aa;rw[nM c a.1,IK b a.2]<;>rfl
def zR:∀{a:Y WData} {d:WData},d∈a->d.weight<=zr a
 | [],d,h=>aN h ∅
 | x::r,d,h=>by
   change d.weight<=x.weight+1+zr r;obtain e| m:=cp.mp h
   ·rw[e];lk
   ·let z:=zR m;lk
/---/def toV:ae->V
 | .none=> .bO
 | .bool b=> .bl b
 | .int i _=> .int i
 | .str x _=> .str x
 | .bytes b _=> .gg b
 | .ref a=> .ref a
 | _=> .bO
def B4(A:Y ab):ae->Prop
 | .none=>True
 | .bool _=>True
 | .int _ _=>True
 | .str _ _=>True
 | .bytes _ _=>True
 | .ref a=>a∈A
 | _=>False
def B4.mono(h:∀a∈A,a∈c):∀{u:ae},B4 A u->B4 c u:=λ{u} x=>by
 cases u with
 | ref a=>show h a x
 | none=>trivial
 | bool b=>trivial
 | int i t=>trivial
 | str s t=>trivial
 | bytes b t=>trivial
 | _=>show gZ x
def Wi(x:B4 A u):RelV (toV u) u:=by
 cases u with
 | ref a=>rfl
 | none=>rfl
 | bool b=>rfl
 | int i t=>show⟨t,B⟩
 | str s t=>show⟨t,B⟩
 | bytes b t=>show⟨t,B⟩
 | _=>show gZ x
def qH:∀{a:Y ae},(∀u∈a,B4 A u)->Vals (a.map toV) a
 | [],_=> .nil
 | u::r,h=> .cons (Wi (h u (ie ..))) (qH λx b=>h x (iA _ b))
def C4(h:bA)(A:Y ab)(a:ab):Prop:=∃b:Y ae,⇑b<=aV/\(∀u∈b,B4 A u)/\
 (h.get? a=J {cls:= .type "list",data:= .seq b.toArray}\/h.get? a=J {cls:= .type "tuple",data:= .seq b.toArray})
def C4.mono(k:∀a∈A,a∈b)(x:C4 h A a):C4 h b a:=by let⟨c,d,e,f⟩:=x;show⟨c,d,λu g=>(e u g).mono k,f⟩
def uZ:∀{a:Y ae} {c:Y WData},WellAll P h a c-> ⇑a=⇑c
 | _,_, .nil=>rfl
 | _,_, .cons _ b=>by change _+1=_+1;rw[uZ b]
def Ij(x:Well P h v (.list d)):∃(a:ab) (c:Y ae),v= .ref a/\h.get? a=J {cls:= .type "list",data:= .seq c.toArray}/\WellAll P h c d:=by
 cases x with
 | list e b=>show⟨_,_,B,e,b⟩
def GV(x:Well P h v (.tuple d)):∃(a:ab) (c:Y ae),v= .ref a/\h.get? a=J {cls:= .type "tuple",data:= .seq c.toArray}/\WellAll P h c d:=by
 cases x with
 | tuple e b=>show⟨_,_,B,e,b⟩
def Ik(x:WellAll P h e (d::f)):∃(v:ae) (c:Y ae),e=v::c/\Well P h v d/\WellAll P h c f:=by
 cases x with
 | cons a b=>show⟨_,_,B,a,b⟩
def cN(h:n<=1048576):n<=aV:=da h ⋯
section
variable {P:Params} {h:bA}
mutual
def XA:∀(d:WData) (v:ae),Well P h v d->z8 d=aa->d.weight<=1048576->∃A:Y ab,B4 A v/\∀a∈A,C4 h A a
 | .none,_,x,_,_=>by cases x;show⟨[],trivial,λa m=>aN m ∅⟩
 | .bool b,_,x,_,_=>by cases x;show⟨[],trivial,λa m=>aN m ∅⟩
 | .int i,_,x,_,_=>by cases x;show⟨[],trivial,λa m=>aN m ∅⟩
 | .str s,_,x,_,_=>by cases x;show⟨[],trivial,λa m=>aN m ∅⟩
 | .bytes b,_,x,_,_=>by cases x;show⟨[],trivial,λa m=>aN m ∅⟩
 | .list f,_,x,p,z=>by
   let⟨a,l,rfl,n,c⟩:=Ij x;let j:zr f<=1048576:=z;let⟨A,o,q⟩:=wc f _ c p λd r=>da (zR r) j;let k:∀b∈A,b∈a::A:=λb g=>iA _ g;show⟨a::A,ie ..,λb g=> ?_⟩;obtain e| m:=cp.mp g
   ·rw[e];show⟨l,cN (by rw[uZ c];show da (Pm f) j),λu t=>(o u t).mono k, .inl n⟩
   ·show(q b m).mono k
 | .tuple f,_,x,p,z=>by
   let⟨a,l,rfl,n,c⟩:=GV x;let j:zr f<=1048576:=z;let⟨A,o,q⟩:=wc f _ c p λd r=>da (zR r) j;let k:∀b∈A,b∈a::A:=λb g=>iA _ g;show⟨a::A,ie ..,λb g=> ?_⟩;obtain e| m:=cp.mp g
   ·rw[e];show⟨l,cN (by rw[uZ c];show da (Pm f) j),λu t=>(o u t).mono k, .inr n⟩
   ·show(q b m).mono k
 | .float _,_,_,p,_=>jv (show ak=aa from p)
 | .dict _,_,_,p,_=>jv (show ak=aa from p)
 | .bytearray _,_,_,p,_=>jv (show ak=aa from p)
 | .set _,_,_,p,_=>jv (show ak=aa from p)
 | .frozenset _,_,_,p,_=>jv (show ak=aa from p)
 | .obj _ _,_,_,p,_=>jv (show ak=aa from p)
def wc:∀(f:Y WData) (i:Y ae),WellAll P h i f->C8 f=aa->(∀d∈f,d.weight<=1048576)->∃A:Y ab,(∀u∈i,B4 A u)/\∀a∈A,C4 h A a
 | [],_,x,_,_=>by cases x;show⟨[],λu m=>aN m ∅,λa m=>aN m ∅⟩
 | d::f,_,x,p,z=>by
   let⟨v,i,rfl,k,l⟩:=Ik x;let q:z8 d=aa/\C8 f=true:=Fq.mp p;let⟨A,a1,a2⟩:=XA d v k q.1 (z d (ie ..));let⟨c,n,o⟩:=wc f i l q.2 λe r=>z e (iA _ r);let j:∀b∈A,b∈A++c:=λb g=>dc.mpr (.inl g);let v5:∀b∈c,b∈A++c:=λb g=>dc.mpr (.inr g);show⟨A++c,λu s=> ?_,λb g=> ?_⟩
   ·obtain e| m:=cp.mp s
    ·rw[e];show a1.mono j
    ·show(n u m).mono v5
   ·obtain m| m:=dc.mp g
    ·show(a2 b m).mono j
    ·show(o b m).mono v5
end
end
def V5(o:Obj):az HO:=match o.data with
 | .seq a _=>if(o.cls==sD "list")=aa then J (.cx o (.lst (a.toList.map toV)))else J (.cx o (.tup (a.toList.map toV)))
 | _=>ah
def p5(K:aG)(h:bA)(A:Y ab):Hp:=λb=>if b∈A then(if(K.lookup b).isNone=aa then(h.get? b).bind V5 else ah)else ah
def S0(H:Hp):Prop:=∀b,H b=ah\/∃o u,H b=J (.cx o u)
def Kv(a:Y ae):V5 {cls:= .type "list",data:= .seq a.toArray}=J (.cx {cls:= .type "list",data:= .seq a.toArray} (.lst (a.map toV))):=by cbv
def Ku(a:Y ae):V5 {cls:= .type "tuple",data:= .seq a.toArray}=J (.cx {cls:= .type "tuple",data:= .seq a.toArray} (.tup (a.map toV))):=by cbv
section
variable {P:bD} {w:bf} {K:aG} {h:bA} {A:Y ab}
def wU(a:b∈A)(c:K.lookup b=ah)(e:h.get? b=J o):p5 K h A b=V5 o:=by delta p5;rw[ar a,c,ar (show(ah:az Obj).isNone=aa from B),e]<;>rfl
def YU(q:p5 K h A b=J u):b∈A/\K.lookup b=none:=by
 delta p5 at q;cases a:b∈A
 ·rw[ar a] at q;cases c:K.lookup b with
  | none=>show⟨a,B⟩
  | some o=>cbv
 ·rw[aj a] at q;cases q
def wR(g:∀a∈A,C4 h A a)(q:p5 K h A b=J u):K.lookup b=ah/\∃c:Y ae,⇑c<=aV/\(∀u∈c,B4 A u)/\
 ((h.get? b=J {cls:= .type "list",data:= .seq c.toArray}/\u= .cx {cls:= .type "list",data:= .seq c.toArray} (.lst (c.map toV)))\/
  (h.get? b=J {cls:= .type "tuple",data:= .seq c.toArray}/\u= .cx {cls:= .type "tuple",data:= .seq c.toArray} (.tup (c.map toV)))):=by
 let⟨d,f⟩:=YU q;let⟨c,i,j,k⟩:=g b d;show⟨f,c,i,j,?_⟩;obtain e| e:=k
 ·rw[wU d f e,Kv] at q;show .inl ⟨e,(bu q).symm⟩
 ·rw[wU d f e,Ku] at q;show .inr ⟨e,(bu q).symm⟩
def Vt(c:∀a∈A,C4 h A a):S0 (p5 K h A):=λb=>by
 cases q:p5 K h A b with
 | none=>show .inl B
 | some u=>
   obtain⟨_,d,_,_,⟨_,e⟩| ⟨_,e⟩⟩:=wR c q
   ·lk
   ·lk
def ZV(f:∀a∈A,C4 h A a):i6 P w (p5 K h A) h:=λb u q=>by
 obtain⟨_,c,g,d,⟨e,rfl⟩| ⟨e,rfl⟩⟩:=wR f q
 ·show⟨e,∅,c,_,qH d,e⟩
 ·show⟨e,∅,c,qH d,_,e,B,_,B⟩
def aeN{a b:Y ae}(e:(J {cls:=c,data:= .seq a.toArray}:az Obj)=J {cls:=d,data:= .seq b.toArray}):c=d/\a=b:=⋯
def acz(j:K.In h)(k:∀a∈A,C4 h A a){b:Y ae}(d:a∈A)(e:h.get? a=J {cls:= .type "list",data:= .seq b.toArray}):(∀u∈b,B4 A u)/\SqL K (p5 K h A) a (b.map toV):=by
 let⟨f,m,g,n⟩:=k a d;let l:f=b:=⋯;subst l;show⟨g,?_⟩;cases c:K.lookup a with
 | none=>show .inl (.inr ⟨_,by rw[wU d c e,Kv]⟩)
 | some o=>let i:=j a o c;rw[e] at i;obtain rfl:=bu i;show .inr ⟨_,f.toArray,_,c,rfl,rfl,rfl,⋯,by simpa using qH g⟩
def acy(j:K.In h)(k:∀a∈A,C4 h A a){b:Y ae}(d:a∈A)(e:h.get? a=J {cls:= .type "tuple",data:= .seq b.toArray}):(∀u∈b,B4 A u)/\d7 K (p5 K h A) a (b.map toV):=by
 let⟨f,m,g,n⟩:=k a d;let l:f=b:=⋯;subst l;show⟨g,?_⟩;cases c:K.lookup a with
 | none=>show .inl (.inr ⟨_,by rw[wU d c e,Ku]⟩)
 | some o=>let i:=j a o c;rw[e] at i;obtain rfl:=bu i;show .inr ⟨_,f.toArray,_,c,rfl,rfl,⋯,by simpa using qH g⟩
mutual
def abq{n:Params}(e:K.In h)(f:∀a∈A,C4 h A a):∀(d:WData) (v:ae),Well n h v d->z8 d=aa->B4 A v->Dw K (p5 K h A) (toV v) d
 | .none,_,x,_,_=>by cases x;show .bO
 | .bool b,_,x,_,_=>by cases x;show .bl b
 | .int i,_,x,_,_=>by cases x;show .int i
 | .str s,_,x,_,_=>by cases x;show .str s
 | .bytes b,_,x,_,_=>by cases x;let z:=Dw.gg (K:=K) (H:=p5 K h A) b.toArray;show z
 | .list g,_,x,p,j=>by let⟨a,o,rfl,k,c⟩:=Ij x;let⟨l,m⟩:=acz e f j k;show .lst m (xj e f g _ c p l)
 | .tuple g,_,x,p,j=>by let⟨a,o,rfl,k,c⟩:=GV x;let⟨l,m⟩:=acy e f j k;show .tup m (xj e f g _ c p l)
 | .float _,_,_,p,_=>jv (show ak=aa from p)
 | .dict _,_,_,p,_=>jv (show ak=aa from p)
 | .bytearray _,_,_,p,_=>jv (show ak=aa from p)
 | .set _,_,_,p,_=>jv (show ak=aa from p)
 | .frozenset _,_,_,p,_=>jv (show ak=aa from p)
 | .obj _ _,_,_,p,_=>jv (show ak=aa from p)
def xj(e:K.In h)(f:∀a∈A,C4 h A a):∀(b:Y WData) (c:Y ae),WellAll k h c b->C8 b=aa->(∀u∈c,B4 A u)->jJ K (p5 K h A) (c.map toV) b
 | [],_,x,_,_=>by cases x;show .nil
 | d::b,_,x,p,g=>by let⟨v,c,rfl,i,j⟩:=Ik x;let q:z8 d=aa/\C8 b=true:=Fq.mp p;show .cons (abq e f d v i q.1 (g _ (ie ..))) (xj e f b c j q.2 λu m=>g u (iA _ m))
end
end
def Ug{w:bf}{K:aG}{D:Y Str}{a:au}{p:Y WData}(KX:K.In a.heap)(E:a.heap.Ns ff mg)(hb:a.heap.Ns builtinsNs mb)(hbb:∀x:Str,x≠"__name__"->mb x=oO x)(I:a.heap.NoLimit)(hg:a.gens= #[])(t:WellAll w.params a.heap c p)(L:C8 p=aa)(Dr:∀d∈p,d.weight<=1048576)(hr:cS k tQ)(F:∀g:bA,K.In g->g.Ns ff mg->dY P w K mg g CX k fa fd D sp)(y:∀(s:au) (us:Y ae),⇑us=⇑D->ra s fd ⟨us, []⟩ (D.zip us))(Q: ⇑p=⇑D)(xM:∀(H:Hp) (xs:Y V),S0 H->jJ K H xs p->sp xs H (λv H'=>Dw K H' v d0) λ_ _ _=>False)(hCX:∀H e h,CX [] H a (λ_ _ _=>False) e h->False):
 iP (aD P w) tQ (.call (.ref fa) ⟨c, []⟩) (λr h=>∃u as,r= .ok (.ret u)/\ReadsW R cl h.heap u d0 as/\OldK a.heap h.heap/\h.os=a.os/\rb h.gens) a:=by
 let⟨A,ho,T⟩:=wc p c t L Dr;let hO:S0 (p5 K a.heap A):=Vt T;let C:i6 P w (p5 K a.heap A) a.heap:=ZV T;let hS:=xj KX T p c t L ho;let hV:=qH ho;let hK:∀b u,p5 K a.heap A b=J u->K.lookup b=none:=λb u q=>(wR T q).1;let NR:∀{b:ab} {o:Obj} {es:Array nv} {ep:Nat},a.heap.get? b=J o->o.data= .dict es ep->p5 K a.heap A b=none:=λ{b o es ep} e d=>by
  cases q:p5 K a.heap A b with
  | none=>rfl
  | some u=>
    obtain⟨_,vs,_,_,⟨e2,_⟩| ⟨e2,_⟩⟩:=wR T q
    ·lk
    ·lk
 generalize p5 K a.heap A=H at hO C hS hK NR;let f:∀{b:ab} {o:Obj},a.heap.get? b=J o->H b=ah->(K3 a.heap H).get? b=J o:=λe n=>Xd e n;let i:∀{b:ab} {m:Str->az ae},a.heap.Ns b m->(K3 a.heap H).Ns b m:=λ{b m} ⟨o,es,ep,e,d,r⟩=>⟨o,es,ep,f e (NR e d),d,r⟩;let nK:∀b o,K.lookup b=J o->H b=none:=λb o e=>by
  cases q:H b with
  | none=>rfl
  | some u=>rw[hK b u q] at e;cases e
 let Oq:K.In (K3 a.heap H):=λb o e=>f (KX b o e) (nK b o e);let hM:Mod K mg (K3 a.heap H):=⟨Oq,i E,⟨mb,i hb,hbb⟩,let⟨mc,h1,h2⟩:=I;⟨mc,i h1,h2⟩⟩;let e0:pO P w K mg (K3 a.heap H) tQ [] a H:=⟨B,hM,λb o e=>YT e,sj (UU _ _),trivial,λb hb=>aN (show b∈([]:Y ab)from hb) ⋯,C, .of_eq hg⟩;let hl: ⇑c=⇑D:=by rw[uZ t];show Q
 show sA ((F _ Oq (i E)).run tQ [] a H ⟨c, []⟩ c (c.map toV) _ _ hr e0 (y a c hl) hV (xM H _ hO hS)) λr h x=> ?_;cases r with
 | error e=>show(hCX H e h x).elim
 | ok fl=>
   cases fl with
   | next=>show gZ x
   | brk=>show gZ x
   | cont=>show gZ x
   | ret u=>
     let⟨v,H',os,bare,un,j,r',q⟩:=x;let l:∀b o,a.heap.get? b=J o->h.heap.get? b=J o:=λb o e=>by
      cases q2:H b with
      | none=>show un.keep b o e q2 (by ext z;show aN (show b∈([]:Y ab)from z) (by simp)) ⋯
      | some u2=>
        obtain z| ⟨ob,u3,z⟩:=hO b
        ·rw[q2] at z;cases z
        ·let z2:=un.kr b ob _ z;let⟨e1,_⟩:=C b _ z;let⟨e2,_⟩:=j b _ z2;rw[e] at e1;cases e1;show e2
     let KX':K.In h.heap:=λb o e=>l b o (KX b o e);let⟨as,N_⟩:=Dw.reads (R:=R) (cl:=cl) j KX' d0 v u q r';show⟨u,as,B,N_,OldK.of_keep l,os,bare⟩
def PB(h:WData.layableAll a=aa):∀d∈a,d.weight<=1048576:=λd b=>
 (PySem.W.layableW_iff.mp (eQ.mp h d b)).2.2
def HI:∀(b:Y Codec) (a:zt b),⇑(si b a)=⇑b
 | [],_=>rfl
 | c::b,a=>by change ⇑(si b a.2)+1=⇑b+1;rw[HI b a.2]
def TU{r:OpenSpec}{k:Nat}{g:Y Str}{XP:(Str->az ae)->bA->Prop}{D:bf->bA->Prop}{d:DefRec}{K:Params->aG}{CX:bf->jn}{x:Y Str}{sp:bf->Sp}(i:r.wellSaid=aa)(hdf:d.params.defaults= [])(l: ⇑r.args=⇑x)(hr:cS k tQ)(hY:∀(w:bf) (h:bA),D w h->(K w.params).In h)(F:∀(w:bf) (j:Str->az ae) (y:ab) (h:bA),D w h->(K w.params).In h->h.Ns ff j->j d.name=J (.ref y)->
  ∃E:gz,(∀(s:au) (I:Y ae),⇑I=⇑x->ra s E ⟨I, []⟩ (x.zip I))/\
   ∀c:bA,(K w.params).In c->c.Ns ff j->dY r.prog w (K w.params) j c (CX w) k y E x (sp w))
 (L:∀(w:bf) (H:Hp) (A:Y V) (a:zt r.args),S0 H->X_ r.args a=aa->wg r.args r.asked a=aa->jJ (K w.params) H A (si r.args a)->
  sp w A H (λv H'=>Dw (K w.params) H' v (r.ret.enc (wg r.args r.f a))) λ_ _ _=>False)
 (Q:∀(w:bf) (H:Hp) (s:au) (e:ae) (C:au),CX w [] H s (λ_ _ _=>False) e C->False):
 XH q g XP D r d [] (λf vs=>PySem.call f vs):=by
 ext w T m j mb G b y o pm cd doc dV c9 ho hd Oi hD hmg hg args vals as n p N_ hwl hlo;let⟨a,e1,e2⟩:=PySem.W.os_pre_some n;let⟨e3,t⟩:=Codec.encAll_of_decAll r.args args a e1;subst e3;let KX:=hY w _ b;let⟨E,hb,hF⟩:=F w j y _ b KX G.T.g hmg;show PySem.W.enter_call (sA (Ug (R:= []) (cl:=classAt T.heap) (d0:=r.ret.enc (wg r.args r.f a)) KX G.T.g G.T.b G.T.builtins G.T.nolimit hg hwl (IK _ _) (PB p) hr hF hb (by rw[HI];show l)
  (λH A hO hS=>L w H A a hO t e2 hS) λH e C=>Q w H m e C) λr' C hq=> ?_)
 let⟨u,as',rfl,h1,h2,h3,h4⟩:=hq;show⟨.inl ⟨u,_,as',B,λ_=>B,h1,(OpenSpec.post_iff i t _ _).mpr B,λz=>jv (show ak=aa from z)⟩,h2,h3,h4⟩
def walk_specK{r:OpenSpec}{k:Nat}{c:Y Str}{z:(Str->az ae)->bA->Prop}{m:bf->bA->Prop}{d:DefRec}{K:Params->aG}{CX:jn}{ps:Y Str}{sp:aG->Sp}(g:r.wellSaid=aa)(n:d.params.defaults= [])(i: ⇑r.args=⇑ps)(A:cS k tQ)(C:∀(w:bf) (h:bA),m w h->(K w.params).In h)(F:∀(w:bf) (j:Str->az ae) (x:ab) (h:bA),m w h->(K w.params).In h->h.Ns ff j->j d.name=J (.ref x)->
  ∃y:gz,(∀(s:au) (o:Y ae),⇑o=⇑ps->ra s y ⟨o, []⟩ (ps.zip o))/\
   ∀b:bA,(K w.params).In b->b.Ns ff j->dY r.prog w (K w.params) j b CX k x y ps (sp (K w.params)))
 (p:∀(K:aG) (H:Hp) (l:Y V) (a:zt r.args),S0 H->X_ r.args a=aa->wg r.args r.asked a=aa->jJ K H l (si r.args a)->
  sp K l H (λv D=>Dw K D v (r.ret.enc (wg r.args r.f a))) λ_ _ _=>False)
 (t:∀(H:Hp) (s:au) (e:ae) (u:au),CX [] H s (λ_ _ _=>False) e u->False):
 XH q c z m r d [] (λf E=>PySem.call f E):=
 TU g n i A C F (λw H l a I L Q T=>p (K w.params) H l a I L Q T) λ_ H s e u=>t H s e u
end L2
end
end
section
namespace L2
open PySem PySem.Spec PyProof.Rows
section
section
variable {X:Cx}
def Z8(K:aG):Y V->Hp->VK->Prop:=λb H Q=>∃(p:ab) (a:Y Int),b= [V.ref p]/\SqL K H p (a.map V.int)/\ ⇑a+1<4096/\
 ∀l,H l=ah->Q (.ref l) (upd H l (.set (λc=>(me (λi=>a.getD i 0) ⇑a).any (·==c)) (me (λi=>a.getD i 0) ⇑a).length))
def Vi(l:X.calm=aa):i3 X (.type "set") (Z8 X.K):=by
 ext f s w H x y Q I r h;let⟨p,a,rfl,m,n,q⟩:=h;let⟨c,g,t,_⟩:=I.list m;rw[Vals.ko r];let j: ⇑c=⇑a:=by rw[<-g.length];simp
 let d:c.toArray.size=⇑a:=⋯;show call_set_list (I.ok.hd l) t.isList (by simpa using g.ints) (by rw[d];show n) λz A k u=> ?_;rw[d] at k;show⟨.ref ↥s,upd H ↥s (.set (λv=>(me (λi=>a.getD i 0) ⇑a).any (·==v)) (me (λi=>a.getD i 0) ⇑a).length),I.laid (λb o e=>u b o (bF e) e) (br _) ?_,B,q _ I.fresh⟩;show k
def Jj:i3 X (.builtin "len") (λb H Q=>∃p S n,b= [V.ref p]/\H p=J (.set S n)/\Q (.int n) H):=by
 ext a s l H b m Q I r h;let⟨p,S,n,rfl,d,q⟩:=h;rw[Vals.ko r];let⟨o,c,u,t,e,hex,f,_,_,g,i,j⟩:=(show s.heap.SetOf (intKind X.prog X.w) p S n from I.aQ p _ d);let k:(c.size:Int)<2^63:=by have:scanBound=4096:=B;lk
 subst j;show call_len_set e hex f i k ⟨.int c.size,H,I.tok _,⟨_,B⟩,q⟩
def Zd:O9 X "int.bit_length" (λx b H Q=>∃i,x=V.int i/\b= []/\Q (.int (qf i:Nat)) H):=by ext a s d H x b v e Q I c r h;let⟨i,rfl,rfl,q⟩:=h;let⟨t,rfl⟩:=c;cases r;show call_int_bit_length ⟨.int (qf i:Nat),H,I.tok _,⟨_,B⟩,q⟩
def Z3(K:aG)(c tb:TE):TE:=λb H Q=>c b H λx a=>∃k,V6 K x a k/\if k=aa then Q x a else tb b a Q
def aaJ{a b:aZ}{e:Y aZ}{f:Pos}(n:b3 X a o)(p:b3 X (.BoolOp .Or (b::e) f) tb):b3 X (.BoolOp .Or (a::b::e) f) (Z3 X.K o tb):=by
 ext d s g H Q I h;show BoolOp_or (aM (n d s g H _ I h) λv q r=> ?_);let⟨x,i,t,j,k,u,l⟩:=r;show aM (Mz d q g i x v (λb w=>b=k/\w=i) t j ⟨k,u,B,B⟩) λc y ⟨C,m,z,A⟩=> ?_;subst z A;cases c with
 | true=>show⟨x,_,m,j,l⟩
 | false=>show p d y g _ Q m l
def RP:i3 X (.builtin "isinstance") (λc H Q=>∃x n t b,c= [x,V.ty n]/\iS X.K H x t/\HV X.K t (.type n)=J b/\Q (.bl b) H):=by ext a s j H c k Q I r h;let⟨x,n,t,b,rfl,d,e,q⟩:=h;let⟨u,f,rfl,g,i⟩:=vals2 r;cases(show f=sD n from i);show US I g d e λl=>⟨.bl b,H,I.tok _,B,q⟩
def Y5(X:Cx)(i:Nat)(t:TA):TE:=λa H Q=>∃(f:ab) (b:gz) (c:Y Str) (d:Sp) (k:Nat),a[i]? =J (J (.ref f))/\dY X.prog X.w X.K X.mg X.base CX0 k f b c d/\cS k X.A/\
 oE X.K (.ref f)=aa/\Binds X.K b c []/\t a H λe g=>d e g Q E0
def WH(n:X.N[i]? =J x)(o:N3 X.env.scope x)(u:j2 X (e::c) t)(d:(x==("__debug__":Str))=false:=by decide)
 (g:(x==("__classdict__":Str))=false:=by decide)(w:aH (e::c) X.env=(ak,eval e X.env)::aH c X.env:=by rfl)(j:(dh b (aH c X.env)).any (·.1)=false:=by rfl):
 b3 X (.Call (.Name x p) (e::c) [] b) (Y5 X i t):=by
 ext a s l H Q I h;let⟨f,fd,ps,sp,k,z,F,A,C,D,h⟩:=h;show ow (aM (MF n o d g a s l H (λv E=>v= .ref f/\E=H) I ⟨_,z,B,B⟩) λv L ⟨y,H1,T,r1,e1,e2⟩=> ?_);subst e1 e2;cases(show v=bK f from r1);show yH I.ok.mod.rr C (aM (u b a L l _ _ T h) λus s2 ⟨vs,H2,m,r,q⟩=>⟨m.ee,?_⟩) w j;show wV F A D .nil rf m r ∅
def Z2(P:bD)(w:bf)(K:aG)(a:ab)(b:Y (Key×V)):Prop:=∃c,i7 b c/\∀h:bA,K.In h->h.DictOf (g8 P w) a c
def vS(m:Z2 X.prog X.w X.K a c)(n:k4 X x)(o:X.mg x=J (.ref a))(q:b3 X i r)(t:V8 i)(u:(x==("__debug__":Str))=false:=by decide):b3 X (.Subscript (.Name x p) i w) (λd H Q=>r d H λy z=>∃k v,y=c9 k/\d2 c k=J v/\Q v z):=by ext b s d H Q I h;let⟨A,e,C⟩:=m;show Lo PN.lookup t (sU I n o (aM (q b s d H _ I h) λiv s2 D=> ?_) u);let⟨y,E,g,L,k,v,T,l,q2⟩:=D;subst T;let j:=C _ g.ee;show⟨j.typeIs,?_⟩;let⟨w',hw,f⟩:=p6.some_of (v:=v) (o:=valueAt A k) (by rw[<-l];show e.val k);show wpAny_getItem_of (mm L) j.mapOf hw ⟨v,E,g.tok _,f,q2⟩
end
end
def c5.sF(a:G p=ah):c5 G (upd G p o):=λb u e=>by rw[aS (eE e a)];show e
structure Enc(α:Type)where
 rep:Hp->V->α->Prop
 mono:∀{G G':Hp} {v:V} {a:α},c5 G G'->rep G v a->rep G' v a
def b5:Enc Int:=⟨λ_ v i=>v= .int i,λ_ h=>h⟩
def b0:Enc Nat:=⟨λ_ v i=>v= .int (i:Int),λ_ h=>h⟩
def e7:Enc Bool:=⟨λ_ v i=>v= .bl i,λ_ h=>h⟩
def fG(f:∀a b,F a b->c a b)(h:aU F l m):aU c l m:=aU.imp' f h
/---/def eList{b:Type}(e:Enc b):Enc (Y b):=
 ⟨λG v l=>∃p a,v= .ref p/\G p=J (.lst a)/\aU (e.rep G) a l,λs ⟨p,a,c,d,f⟩=>⟨p,a,c,s _ _ d,fG (λ_ _=>e.mono s) f⟩⟩
def l9{b:Type}(e:Enc b):Enc (Y b):=
 ⟨λG v l=>∃p a,v= .ref p/\G p=J (.tup a)/\aU (e.rep G) a l,λs ⟨p,a,c,d,f⟩=>⟨p,a,c,s _ _ d,fG (λ_ _=>e.mono s) f⟩⟩
def h8{c d:Type}(e:Enc c)(f:Enc d):Enc (c×d):=
 ⟨λG v x=>∃p a b,v= .ref p/\G p=J (.tup [a,b])/\e.rep G a x.1/\f.rep G b x.2,λs ⟨p,a,b,g,h,i,j⟩=>⟨p,a,b,g,s _ _ h,e.mono s i,f.mono s j⟩⟩
def Q5{d h i:Type}(e:Enc d)(f:Enc h)(g:Enc i):Enc (d×h×i):=
 ⟨λG v x=>∃p a b c,v= .ref p/\G p=J (.tup [a,b,c])/\e.rep G a x.1/\f.rep G b x.2.1/\g.rep G c x.2.2,λs ⟨p,a,b,c,j,k,l,m,n⟩=>⟨p,a,b,c,j,s _ _ k,e.mono s l,f.mono s m,g.mono s n⟩⟩
def paired_ints:∀{b:Y V} {c:Y Int},aU (b5.rep G) b c↔b=c.map V.int
 | [], []=>⟨λ_=>B,λ_=> .nil⟩
 | [],_::_=>⟨(λh=>nomatch h),(λh=>∅)⟩
 | _::_, []=>⟨(λh=>nomatch h),(λh=>∅)⟩
 | v::b,n::c=>by
   walk
   ·ext h;cases h with
    | cons a d=>let a:v= .int n:=a;rw[bp,a,paired_ints.1 d]
   ·ext h;rw[bp] at h;let⟨a,d⟩:=kU h;show .cons a (paired_ints.2 d)
def IZ:(eList b5).rep G v d↔∃p,v= .ref p/\G p=J (.lst (d.map V.int)):=by
 walk
 ·ext⟨p,e,a,b,c⟩;rw[paired_ints] at c;show⟨p,a,c▸b⟩
 ·ext⟨p,a,b⟩;show⟨p,_,a,b,paired_ints.2 B⟩
def qW{l:Y j}{m:Y f}(h:aU F l m){i:Nat}{b:f}(e:m[i]? =J b):∃a,l[i]? =J a/\F a b:=by
 induction h generalizing i with
 | nil=>cases e
 | @cons c d l m r t g=>
   cases i with
   | zero=>cases e;show⟨c,rfl,r⟩
   | succ i=>show g e
def nA{l:Y c}{m:Y d}(h:aU F l m){i:Nat}{a:c}(e:l[i]? =J a):∃b,m[i]? =J b/\F a b:=Aa h e
def dU(h:aU F l m): ⇑l=⇑m:=iE h
def wy(h:aU F l m)(r:F a b):aU F (l++ [a]) (m++ [b]):=KY h r
section
def ah8(P:bD)(w:bf)(K:aG)(b:Str->az ae)(a:bA)(x:Str)(k:Nat)(c:Y Str)(e:Sp):Prop:=
 ∃f d,dY P w K b a CX0 k f d c e/\b x=J (.ref f)/\oE K (.ref f)=aa/\Binds K d c []
def ab7(P:bD)(w:bf)(K:aG)(d:Str->az ae)(a:bA)(C:ab)(m:Str)(k:Nat)(b:Y Str)(e:Sp):Prop:=
 ∃f c,jm K C/\Meth K C m f/\dY P w K d a CX0 k f c b e/\Binds K c b []
def ab8(P:bD)(w:bf)(K:aG)(b:Str->az ae)(a:bA)(C:ab)(x:Str)(k:Nat)(c:Y Str)(e:Sp):Prop:=
 ∃f d,Mk K C f/\dY P w K b a CX0 k f d c e/\b x=J (.ref C)/\Binds K d c []
section
variable {X:Cx} {k j:Nat} {C:ab} {ps:Y Str} {sp:Sp} {x m:Str} {p pos cO:Pos} {e o:aZ} {es:Y aZ} {ta:TE} {t:TA}
def abP(F:ah8 X.prog X.w X.K X.mg X.base x k ps sp)(c:cS k X.A)(d:k4 X x)(g:j2 X (e::es) t)(a:(x==("__debug__":Str))=false:=by decide)
 (h:aH (e::es) X.env=(ak,eval e X.env)::aH es X.env:=by rfl)(b:(dh pos (aH es X.env)).any (·.1)=false:=by rfl):b3 X (.Call (.Name x p) (e::es) [] pos) (v9 sp [] E0 t):=by
 let⟨f,q,F,i,l,n⟩:=F;show YL F c d i l n .nil rf g a h b
def abM(a:ab7 X.prog X.w X.K X.mg X.base C m k ps sp)(h:cS k X.A)(i:b3 X o ta)(l:j2 X (e::es) t)(b:aH (e::es) X.env=(ak,eval e X.env)::aH es X.env:=by rfl)(d:(dh pos (aH es X.env)).any (·.1)=false:=by rfl)
 (n:eval (.Call (.Attribute o m cO) (e::es) [] pos) X.env=(do
  let g<-eval o X.env
  ml cO.atName
  let(f,first)<-fW [g] (getMethod g m s)
  nF pos f first (dh pos (aH (e::es) X.env)) (nG pos (nq [] X.env))):=by rfl):b3 X (.Call (.Attribute o m cO) (e::es) [] pos) (u5 C m sp [] E0 ta t):=by
 let⟨f,u,c,q,F,r⟩:=a;show YE i c q F h r .nil rf l b d n
def aaK(a:ab7 X.prog X.w X.K X.mg X.base C m k ps sp)(d:cS k X.A)(g:b3 X o ta)(h:eval (.Call (.Attribute o m cO) [] [] pos) X.env=(do
  let b<-eval o X.env
  ml cO.atName
  let(f,first)<-fW [b] (getMethod b m n)
  nF pos f first (dh pos (aH [] X.env)) (nG pos (nq [] X.env))):=by rfl):b3 X (.Call (.Attribute o m cO) [] [] pos) (u5 C m sp [] E0 ta c7):=by
 let⟨f,q,c,i,F,l⟩:=a;show WC g c i F d l .nil rf h
def abN(a:ab8 X.prog X.w X.K X.mg X.base C x k ps sp)(d:cS (k+1) X.A)(g:k4 X x)(h:j2 X (e::es) t)(b:(x==("__debug__":Str))=false:=by decide)
 (i:aH (e::es) X.env=(ak,eval e X.env)::aH es X.env:=by rfl)(c:(dh pos (aH es X.env)).any (·.1)=false:=by rfl):b3 X (.Call (.Name x p) (e::es) [] pos) (B9 C sp [] E0 t):=by
 let⟨f,q,a,F,l,n⟩:=a;show YG a F d g l n .nil rf h b i c
def aaL(a:ab8 X.prog X.w X.K X.mg X.base C x k ps sp)(c:cS (k+1) X.A)(d:k4 X x)(b:(x==("__debug__":Str))=false:=by decide):b3 X (.Call (.Name x p) [] [] pos) (B9 C sp [] E0 c7):=by let⟨f,i,a,F,g,h⟩:=a;show WD a F c d g h .nil rf b
def Z0(K:aG):V->V->Hp->VK->Prop:=λx y H Q=>∃(p:ab) (a:Y V) (i:Nat) (v:V),x= .ref p/\y= .int i/\SqL K H p a/\a[i]? =J v/\Q v H
def Xf:ab0 X (Z0 X.K):=by ext a s A H o i D E Q I d f h;let⟨p,L,n,v,rfl,rfl,g,l,q⟩:=h;cases d;let⟨t,rfl⟩:=f;let⟨b,r,u,T⟩:=I.list g;let⟨w,y,c⟩:=r.get l;let hl:=r.length;let hn:=qY;let z:n<b.length:=(dZ.1 y).1;let hs:aV=16777216:=bM;show wpAny_getItem_list u.isList ∅ ⋯ ∅ ⟨v,H,I,c,q⟩
variable {K:aG}
def YC{es:Y aZ}{b:Nat}{t:p_}{n:Nat}(c:X.K=K)(d:X.calm=aa)(h:R1 X es t)(f: ⇑(lW es X.env)=n:=by rfl)(a:(lW es X.env).findIdx? (·.1)=none:=by rfl):
 y6 X (.Tuple es b pos) (S5 K n t):=c▸aaI d h f a
def YI(a:X.K=K)(b:b3 X e ta)(c:jY e f X.env (eval e X.env)=eval e X.env):b3 X (.Attribute e f pos) (M5 K ta f):=a▸aaM b c
def W_(a:X.K=K):T3 X (E4 K):=a▸Zr
def Zq(a:X.K=K):T3 X (C7 K):=a▸abf
def lX(a:X.K=K):T1 X (S4 K):=a▸Yo
def Lr(a:X.K=K):T1 X (Z7 K):=a▸aav
def vm(a:X.K=K):e9 X (et .In) (N2 K ak):=a▸Uz
def Qa(a:X.K=K):e9 X (et .NotIn) (N2 K aa):=a▸QC
def sS(a:X.K=K)(b:X.A.units+64<ey):e9 X (et .Eq) (V4 K):=a▸aaQ b
def YO(a:X.K=K)(b:X.A.units+64<ey):e9 X (et .NotEq) (Z9 K):=a▸aaP b
def R7(K:aG):Y V->Hp->VK->Prop:=λb H Q=>∃p a,b= [V.ref p]/\(SqL K H p a\/d7 K H p a)/\Q (.int ⇑a) H
def WY(a:X.K=K):i3 X (.builtin "len") (R7 K):=a▸QM
def X7(K:aG):Y V->Hp->VK->Prop:=λb H Q=>∃p a,b= [V.ref p]/\(SqL K H p a\/d7 K H p a)/\∀l,H l=ah->Q (.ref l) (upd H l (.lst a))
def sL(a:X.K=K):i3 X (.type "list") (X7 K):=a▸QL
def Mc(a:X.K=K)(b:X.calm=aa):i3 X (.builtin "sum") (Z6 K):=a▸abv b
def ZP(a:X.K=K)(b:X.calm=aa):i3 X (.builtin "min") (aa0 K):=a▸abw b
def Md(a:X.K=K)(b:X.calm=aa):i3 X (.builtin "max") (aa1 K):=a▸abx b
def wO(a:X.K=K)(b:X.calm=aa):i3 X (.builtin "any") (aa2 K):=a▸aby b
def BQ(a:X.K=K)(b:X.calm=aa):i3 X (.builtin "all") (aa3 K):=a▸abz b
def Np(a:X.K=K)(b:X.calm=aa):i3 X (.type "set") (Z8 K):=a▸Vi b
def ac2(K:aG):Y V->Hp->VK->Prop:=λa H Q=>∃x n t b,a= [x,V.ty n]/\iS K H x t/\HV K t (.type n)=J b/\Q (.bl b) H
def Zv(a:X.K=K):i3 X (.builtin "isinstance") (ac2 K):=a▸RP
def vE(a:X.K=K):O9 X "list.index" (Y7 K):=a▸WS
def O1(K:aG)(ta:TE):TT:=λb H Q=>ta b H λx a=>∃k,V6 K x a k/\Q k a
def Us(a:X.K=K)(b:b3 X e ta)(c:∀whole,rj e X.env whole=(do let v<-whole;ml e.pos;fW [v] (truthy v))):p7 X e (O1 K ta):=a▸Wo b c
def l_{a b:aZ}{c:Y aZ}(d:X.K=K)(f:b3 X a ta)(g:b3 X (.BoolOp .Or (b::c) pos) tb):b3 X (.BoolOp .Or (a::b::c) pos) (Z3 K ta tb):=d▸aaJ f g
def AE(a:X.K=K):ab0 X (Z0 K):=a▸Xf
def Wz(a:X.K=K)(b:b3 X l tl):n6 X c l (U6 K tl):=a▸YA b
def Yz(a:X.K=K)(b:b3 X l tl):n6 X c l (aa5 K tl):=a▸aaG b
def WA{ta:TA}{a:Pos}{b:Y aZ}{c:Nat}(d:X.K=K)(f:k4 X "enumerate")(g:X.mg "enumerate"=ah)(h:j2 X [e] ta)(i:aH [e] X.env= [(ak,eval e X.env)]:=by rfl):
 n6 X (.Tuple b c a) (.Call (.Name "enumerate" p) [e] [] pos) (U7 K ta):=d▸YB f g h i
def eX{T id:String}{name:Str}{a:Pos}{r:V->Y V->Hp->VK->Prop}(i:X.K=K)(l:Cq T)(f:Slot T name id)(h:typeOf (.builtin id)=pure (.type "method_descriptor"))(n:O9 X id r)(q:b3 X o s)(u:j2 X (e::es) t)(c:jY o name X.env (eval o X.env)=eval o X.env:=by rfl)
 (g:((dh a (aH (e::es) X.env)).all (λx=> !x.1) && (nG a (nq [] X.env)).all (λx=>x.1.isSome)
  && decide (⇑(e::es)+⇑([]:Y q_)+(if([]:Y q_).isEmpty then 0 else 1)<30))=true:=by rfl)
 (d:(cO.endLine==a.line)=true:=by rfl)(v:aH (e::es) X.env=(ak,eval e X.env)::aH es X.env:=by rfl)(b:(dh a (aH es X.env)).any (·.1)=false:=by rfl):
 b3 X (.Call (.Attribute o name cO) (e::es) [] a) (N0 K T r s t):=i▸abQ l f h n q u c g d v b
def BF{T id:String}{name:Str}{a:Pos}{r:V->Y V->Hp->VK->Prop}(g:X.K=K)(h:Cq T)(d:Slot T name id)(f:typeOf (.builtin id)=pure (.type "method_descriptor"))(i:O9 X id r)(l:b3 X o n)(b:jY o name X.env (eval o X.env)=eval o X.env:=by rfl)(c:(cO.endLine==a.line)=true:=by rfl):b3 X (.Call (.Attribute o name cO) [] [] a) (V1 K T r n):=g▸aaN h d f i l b c
end
end
section
section
variable {X:Cx} {K:aG} {p pos cO dX:Pos} {e o:aZ}
def ac8(g h:TE):TE:=λc H Q=>∀d,H d=ah->g c (upd H d (.dT [])) λx i=>h c i λy a=>∃(b:ab) (f:Y Key),x=V.ref b/\a d=J (.dT [])/\a b=J (.tup (f.map c9))/\Q (.ref d) (upd a d (.dT [(f,y)]))
def WG(r:X.A.units+1<ey)(t:b3 X k w)(A:b3 X v C):b3 X (.Dict [J k] [v] pos) (ac8 w C):=by
 ext a s i H Q I q;let D:=I.aQ.fresh (br ↥s);let E:=I.laid (a:=↥s) (o:= .dT []) (h':=s.heap.push {cls:= .type "dict",data:= .dict #[]}) (t':=s.toks) (λ_ _ q=>bQ _ q) (br _) (KJ s.heap I.big);show wpAny_Dict_any B B ∅ ⋯<| aae (aM (t a _ i _ _ E (q _ D)) λu L ⟨x,T,I1,rx,q1⟩=>aM (A a L i T _ I1 q1) λw2 s2 ⟨y,H2,f,ry,g⟩=>pairTrees_nil_walk ?_)
 let⟨b,ks,rfl,e,j,g⟩:=g;cases(show u=bK b from rx);let⟨z,hd,xs,d,dd⟩:=CA f.aQ e;let hz: ⇑xs<=aV:=by rw[<-iE d];show z
 cases d;change ao (aD X.prog X.w) X.A (storeAll ↥s [(bK b,w2)]) _ X.xe s2;delta storeAll;rw[aac];show ag (ag (wpAny_dictSet_heap (hsz:=hz) (knd:=iI (g8 X.prog X.w)) ?_ (nO f.aQ j) dd λh' h hs=>ax ?_))
 ·show Nat.lt_of_succ_lt r
 ·change ao (aD X.prog X.w) X.A (forIn ([]:Y (ae×ae)) PUnit.unit _) _ X.xe _;rw[Jv];show ax ⟨.ref ↥s,_,?_,B,g⟩;let⟨l,es,ep,m,h2,h3,h4,_,h5⟩:=h;show wN f (by rw[e];show cM) hs ⟨l,m⟩ ⟨by change 1<=aV;decide,hd,_,(KT.put .nil ks j ry).keeps λc ys n=> ?_,l,es,ep,m,h2,h3,h4,h5⟩;rw[aS (NC n e (λz=>nomatch z))];show n
end
end
section
section
variable {prog:bD} {w:bf} {A:bY} {E:ae->au->Prop} {s:au}
def Wm(f:oX s.heap a d i n k x y)(r:s.heap.get? d=J od)(t:od.data= .dict c k)(hsz:c.size=n)(hx:c[i]? =J en)(hQ:∀g,Mv g a d (i+1) n k en.key en.val ↥s->g.get? ↥s=J {cls:= .type "tuple",data:= .seq #[en.key,en.val]}->g.objs.size=↥s+1->(∀b o,b≠a->s.heap.get? b=J o->g.get? b=J o)->Q (J (.ref ↥s)) {s with heap:=g}):
 ao (aD prog w) A (dE (.ref a)) Q E s:=by
 let⟨h,u,v,z,os⟩:=s;let l:Jt ⟨h,u,v,z,os⟩ (.ref a) "dict_itemiterator":=⟨_,f,B⟩;delta dE;show ag (oM (mI l F.slot_dict_itemiterator_next (iD F.slot_dict_itemiterator_next l F.entry_dict_itemiterator_next ?_ (F.args_dict_itemiterator_next_1 _))));show ag (ax ?_);show ag ?_;show ag ?_
 first| show ag (xY l (ax ?_));show ag (jW f B ?_)| show ag (yi l (ax ?_));show ag (jW f B ?_)
 let own:om "dict_itemiterator"=true:=∅;erw[own,gq];change ao _ _ (if(bK d==ft)=aa then _ else _) _ _ _;rw[aj (show¬((bK d==ft)=aa)from dQ)];show ag (ax ?_);show ag (lI r t ?_);rw[aj ∅];show ag (ax ?_);show ag (mT r t ?_);rw[aj ∅];show ax ?_;let⟨ji,DI⟩:=uw.mp hx;subst DI;erw[show¬((i:Int)<0)from by cbv,fF,fo,ib ji];show ag ?_
 first| show ag (xY l (ax ?_));show ag (yu l ?_)| show ag (yi l (ax ?_));show ag (yu l ?_)
 change ao _ _ (pd (.ref a) 3 (iw ((i:Int)+1))>>=_) _ _ ⟨h,u,v,z,os⟩;show ag (uG f ⋯ λm e1 C=> ?_);replace C:jz a h m:=C;replace e1:oX m a d (i+1) n k x y:=by cbv
 let p:Jt ⟨m,u,v,z,os⟩ (.ref a) "dict_itemiterator":=⟨_,e1,B⟩;show ag (gm ?_);show ag (yu p ?_);show ag (yu p ?_);change ao _ _ (OC (.ref a) 6 c[i].key c[i].val) _ _ ⟨m,u,v,z,os⟩;delta OC;show ag (wpAny_newTuple ?_);let D:oX (m.push {cls:= .type "tuple",data:= .seq #[c[i].key,c[i].val]}) a d (i+1) n k x y:=bQ _ e1;generalize j:m.push {cls:= .type "tuple",data:= .seq #[c[i].key,c[i].val]}=H at D;let z1:m.objs.size=h.objs.size:=C.1;let Of:a<h.objs.size:=bF f;let t2:H.get? h.objs.size=J {cls:= .type "tuple",data:= .seq #[c[i].key,c[i].val]}:=by rw[<-j,<-z1];show cg _ B
 let z2:H.objs.size=h.objs.size+1:=by rw[<-j,fC,z1]
 let k2:∀b o,b≠a->h.get? b=J o->H.get? b=J o:=λb o q e=>by rw[<-j];show bQ _ (C.extBut b o q e)
 change ao _ _ (Oz (.ref a)>>=_) _ _ ⟨H,u,v,z,os⟩;rw[z1];clear j e1 C p z1 m;show ag ?_;delta Oz;show ag (oR D B B (ax ?_));erw[gq];show ag (oR D B B ?_);show ag (oR D B B ?_);show ag (uG D ∅ λg3 e3 I=> ?_);replace I:jz a H g3:=I;replace e3:oX g3 a d (i+1) n k c[i].key y:=e3;show ag (uG e3 ∅ λg4 e4 L=> ?_);replace L:jz a g3 g4:=L;replace e4:oX g4 a d (i+1) n k c[i].key c[i].val:=e4;show ag (uG e4 ⋯ λg5 e5 T=> ?_);replace T:jz a g4 g5:=T;replace e5:Mv g5 a d (i+1) n k c[i].key c[i].val h.objs.size:=e5;show ag (uG e5 ⋯ λg6 e6 k6=> ?_);replace k6:jz a g5 g6:=k6;replace e6:Mv g6 a d (i+1) n k c[i].key c[i].val h.objs.size:=e6;show ag (nk (ax (ax ⟨_,B,ax (hQ g6 e6 ?_ ?_ ?_)⟩)))
 ·let ne:=j_ Of;show k6.extBut _ _ ne (T.extBut _ _ ne (L.extBut _ _ ne (I.extBut _ _ ne t2)))
 ·change g6.objs.size=h.objs.size+1;rw[k6.1,T.1,L.1,I.1,z2]
 ·show λb o q e=>k6.extBut b o q (T.extBut b o q (L.extBut b o q (I.extBut b o q (k2 b o q e))))
def Qz(l:A.handled=ah)(a:oX s.heap c d i n m x y)(e:s.heap.get? d=J o)(f:o.data= .dict k m)(p:k.size=n)(q:n<=i)(r:∀g,Bs c s.heap g->Q ah {s with heap:=g}):ao (aD prog w) A (dE (.ref c)) Q E s:=by
 let b:s.TypeIs (.ref c) "dict_itemiterator":=⟨_,a,B⟩;delta dE;show ag (oM (mI b F.slot_dict_itemiterator_next (iD F.slot_dict_itemiterator_next b F.entry_dict_itemiterator_next ?_ (F.args_dict_itemiterator_next_1 _))));show ag (ax ?_);show ag ?_;show ag ?_
 first| show ag (xY b (ax ?_));show ag (jW a B ?_)| show ag (yi b (ax ?_));show ag (jW a B ?_)
 let h:om "dict_itemiterator"=true:=∅;erw[h,gq];change ao _ _ (if(bK d==ft)=aa then _ else _) _ _ s;rw[aj (show¬((bK d==ft)=aa)from dQ)];show ag (ax ?_);show ag (lI e f ?_);rw[aj ∅];show ag (ax ?_);show ag (mT e f ?_);rw[aj ∅];show ax ?_;let j:k.size<=i:=∅;erw[show¬((i:Int)<0)from by cbv,fF,fo,lD j];show ag ?_
 first| show ag (xY b (ax ?_));change ao _ _ (pd (.ref c) 2 .none>>=_) _ _ s| show ag (yi b (ax ?_));change ao _ _ (pd (.ref c) 2 .none>>=_) _ _ s
 show ag (oG a B ⋯ ?_);change ao _ _ (pH (.type "StopIteration") []>>=_) _ _ _;show ag ?_;erw[pH,CG];show ag (fc ?_ (by size_fits));show ag (nj (by first| rfl| (erw[vt];rfl)) ?_);show fc ?_ (by size_fits);erw[CD];show ag (AS ?_);rw[show A.in1.handled=ah from l];show ag (ax (BV ?_));show ag (uV ⟨_,cg _ B,B⟩ AM ?_);show ax (r _ (((mJ ..).extBut.push _).push _))
def Pt(c:s.heap.IsItemsView v d)(a:s.heap.get? d=J h)(b:h.data= .dict i j)(k:Q (.ref ↥s) {s with heap:=s.heap.push {cls:= .type "dict_itemiterator",data:= .fields #[.none, .bool ak, .ref d, .int 0 0, .int i.size 0, .int j 0, .none, .none]}}):ao (aD prog w) A (pyIter (.ref v)) Q E s:=by let⟨m,e,l,f⟩:=id c;show uN c.typeIs F.slot_dict_items_iter (iD F.slot_dict_items_iter c.typeIs F.entry_dict_items_iter ?_ (F.args_dict_items_iter_1 _));delta fw.«dict_items.__iter__»;show ag (ax ?_);show ag ?_;delta OH;show ag (oR e f B (ax ?_));show ag ?_;delta OD;show ag (lI a b ?_);show ag (mT a b ?_);let g:om "dict_itemiterator"=true:=∅;erw[g,gq];show fc (ax ⟨_,B,"dict_itemiterator",_,⟨_,cg _ B,B⟩,F.slot_dict_itemiterator_next.lookup,?_⟩) (by erw[sizeOk,OA,jR,dA,cX,lK,bM];lk);simpa[iw,OA] using k
def Pu(d:ab)(b:(d==fu)=ak):MeetsIn prog w (fw.«dict.items» ⟨[.ref d], []⟩) (λ_ R s=>s.TypeIs (.ref d) "dict"/\R (.ok (.ret (.ref ↥s))) {s with heap:=s.heap.push {cls:= .type "dict_items",data:= .fields #[.ref d]}}):=
 .of_wp λA R s ⟨a,h⟩=>by delta fw.«dict.items»;show ag ?_;delta Qo;show ag (uC a ?_);change ao _ _ (pure d) _ _ s;show ax ?_;change ao _ _ (rD d>>=_) _ _ s;delta rD;rw[aj ∅];show ag (ax ?_);show ag (fc (ax ⟨_,B,h⟩))
end
section
variable {X:Cx} {kP:Y (ab×Obj)} {σ:L2.St} {H:Hp} {s:au} {d:ab} {o:Obj}
def Inv.Cy(I:Inv X kP σ H s)(h:H d=J (.cx o (.dT a))):
 (d==fu)=ak/\s.heap.get? d=J o/\o.ExactDict/\∃(c:Array nv) (f:Nat),o.data= .dict c f/\c.size=⇑a/\
  ∀(i:Nat) (k:Y Key) (v:V),a[i]? =J (k,v)->∃(g:nv) (q:ab),c[i]? =J g/\g.key= .ref q/\H q=J (.tup (k.map c9))/\RelV v g.val:=by
 let⟨l,z,t,m,n,A,c,f,p,u,j,r,_⟩:=I.aQ d _ h;rw[l] at p;cases p;show⟨t,l,u,c,f,j,?_,λi k v e=> ?_⟩
 ·let C:c.size=⇑m:=KU r;let D: ⇑a=⇑m:=iE n
  cbv
 ·let⟨b,w,E,x,y⟩:=Aa n e;let q:=entry_at r i;rw[w] at q;show⟨_,b.2.1,q,B,x,y⟩
end
def ag7(d:ab)(b:Obj)(a:Y (Y Key×V)):It:=
 ⟨λi H=>H d=J (.cx b (.dT a))/\i<⇑a,λi H x c=>∃(T q:ab) (k:Y Key) (v:V),a[i]? =J (k,v)/\x= .ref T/\H T=ah/\H q=J (.tup (k.map c9))/\c=upd H T (.tup [.ref q,v]),λi H=>H d=J (.cx b (.dT a))/\ ⇑a<=i⟩
section
variable {P:bD} {w:bf} {K:aG} {d:ab} {o:Obj} {es:Array nv} {ep:Nat}
def Rl(it:ab)(uc:o.data= .dict es ep):Turn P w K (.Tuple elts kk tR) (ag7 d o ck) [it] it (λi h=>∃ok ov,oX h it d i ⇑ck ep ok ov)where
 mem:=∅
 obj:=λi h st b hb=>⋯
 keep:=λi h h' st k=>let⟨ok,ov,e⟩:=st;⟨ok,ov,k it ∅ _ e⟩
 item:=by
  ext X hP hw hK hc i kP s σ H E I hf st hg;subst hP hw hK;let⟨hd,hi⟩:=hg;let⟨hs,ui,hx,uq,ur,my,hsz,ent⟩:=I.Cy hd;let⟨rfl,rfl⟩:=wM uc my;let⟨⟨k,v⟩,ue⟩:∃p,ck[i]? =J p:=⟨ck[i],cW hi⟩;let⟨en,q,DI,CO,hq,CN⟩:=ent i k v ue;let⟨ok,ov,he⟩:=st;let ji:it<↥s:=bF he;show Wm he ui my hsz DI λh' ho hT hz hk=>⟨_,B,RY ho λjN lz sb=> ?_⟩;let uj:jN.get? ↥s=J {cls:= .type "tuple",data:= .seq #[en.key,en.val]}:=(sb.2 _ (j_ ji)).trans hT;let new:f7 X.prog X.w (upd H ↥s (.tup [.ref q,v])) jN ↥s (.tup [.ref q,v]):=
   ⟨by change 2<=aV;decide, [en.key,en.val], .cons CO (.cons CN .nil),⟨_,uj,B,_,B⟩⟩
  have I1:Inv X kP σ (upd H ↥s (.tup [.ref q,v])) {s with heap:=jN}:=
   I.Ao (λb ob hb e=>(sb.2 b ∅).trans (hk b ob ∅ e)) hf (br _) new
  show⟨.ref ↥s,_,I1,B,⟨_,q,k,v,ue,B,I.aQ.fresh (br _),hq,B⟩,⟨en.key,en.val,lz⟩,λb hb=> ?_⟩;let e:b=it:=∅;rw[e,aS (cK ji)];show(hf it ∅).1
 done:=by ext X hP hw hK hc i kP s σ H E I hf st hg;subst hP hw hK;let⟨hd,hi⟩:=hg;let⟨f0,f1,f2,f3,f4,f5⟩:=hf it ∅;let⟨hs,ui,hx,uq,ur,my,hsz,ent⟩:=I.Cy hd;let⟨rfl,rfl⟩:=wM uc my;let⟨ok,ov,he⟩:=st;show Qz (I.ok.hd hc) he ui my hsz hi λh' eb=>⟨B,I.turned (λb ob hb e=>eb b ob hb e) f0 f1 f3 f4 f5⟩
 self:=λA i s Q E st h=>let⟨_,_,e⟩:=st;Vw e h
end
def ac4(e:TE):TI:=λf H R=>e f H λx b=>∃d c a,x= .ref d/\b d=J (.cx c (.dT a))/\R (ag7 d c a) b
section
variable {X:Cx} {e:aZ} {td:TE} {cO dX:Pos}
def Uw(y:b3 X e td)(f:jY e "items" X.env (eval e X.env)=eval e X.env:=by rfl)(g:(cO.endLine==dX.line)=true:=by rfl):
 n6 X (.Tuple k z l) (.Call (.Attribute e "items" cO) [] [] dX) (ac4 td):=by
 ext c s n H R I h;show zq f B g F.plainAttrs_dict F.slot_dict_items F.type_dict_items (aM (y c s n H _ I h) λu i A=> ?_);let⟨x,C,v,D,d,o,E,L,Q,q⟩:=A;subst L;obtain rfl:u=bK d:=D;let⟨T,j,w,es,ep,m,p,ent⟩:=v.Cy Q;let r:i.TypeIs (.ref d) "dict":=⟨o,j,w.1⟩;show⟨r,λa ea=>by cases ea;show⟨o,j,w.2.1⟩,?_⟩;let I2:Inv X c n C {i with heap:=i.heap.push {cls:= .type "dict_items",data:= .fields #[.ref d]}}:=v.kept λb ob q=>bQ _ q;let t:ao (aD X.prog X.w) X.A (pyIter (.ref ↥i)) (T2 X c n (.Tuple k z l) R) X.xe {i with heap:=i.heap.push {cls:= .type "dict_items",data:= .fields #[.ref d]}}:=by show Pt ⟨_,cg _ B,B,B⟩ (bQ _ j) m (ts I2 _ (Rl _ m) ⟨.none, .none,?_⟩ q);rw[<-p];show cg _ B
 change ao _ _ (nF dX (.builtin "dict.items") [.ref d] [] []) _ X.xe i;show K_ F.slot_dict_items F.entry_dict_items B (yB ⟨B,r,F.args_dict_items_1 _,_,Pu d T,r,t⟩)
end
end
section
section
variable {prog:bD} {w:bf} {A:bY} {E:ae->au->Prop} {s:au}
def Yv(a:s.heap.IsValIter b d i n j)(c:s.heap.get? d=J q)(e:q.data= .dict k j)(r:k.size=n)(t:k[i]? =J u)(v:∀g,g.IsValIter b d (i+1) n j->jz b s.heap g->Q (J u.val) {s with heap:=g}):ao (aD prog w) A (dE (.ref b)) Q E s:=by
 let⟨o,h,x,f⟩:=id a;delta dE;show ag (oM (mI a.typeIs F.slot_dict_valueiterator_next (iD F.slot_dict_valueiterator_next a.typeIs F.entry_dict_valueiterator_next ?_ (F.args_dict_valueiterator_next_1 _))));show ag (ax ?_);show ag ?_;show ag ?_
 first| show ag (ya a.typeIs (ax ?_));show ag (jW h f ?_)| show ag (yn a.typeIs (ax ?_));show ag (jW h f ?_)
 let l:om "dict_valueiterator"=false:=∅;erw[l,kJ,fF];change ao _ _ (if(bK d==ft)=aa then _ else _) _ _ s;rw[aj (show¬((bK d==ft)=aa)from dQ)];show ag (ax ?_);show ag (lI c e ?_);rw[aj ∅];show ag (ax ?_);show ag (mT c e ?_);rw[aj ∅];show ax ?_;let⟨m,p⟩:=uw.mp t;subst p;erw[show¬((i:Int)<0)from by cbv,fF,fo,ib m];show ag ?_
 first| show ag (ya a.typeIs (ax ?_));show ag (yA a.typeIs ?_)| show ag (yn a.typeIs (ax ?_));show ag (yA a.typeIs ?_)
 change ao _ _ (pd (.ref b) 1 (iw ((i:Int)+1))>>=_) _ _ s;show ag (oG h f ⋯ ?_);let next:(s.heap.update b (vu (·.setIfInBounds 1 (iw ((i:Int)+1))))).IsValIter b d (i+1) n j:=⟨_,kH _ h (yr (ou f _)),(yZ ..).trans x,by rw[ou f];simp[iw]⟩
 show ag (gm ?_);show ag (yA next.typeIs ?_);show ag (yA next.typeIs ?_);change ao _ _ (pure k[i].val) _ _ _;show ax (ax ⟨_,B,ax (v _ next (mJ ..))⟩)
def Rw(m:A.handled=ah)(a:s.heap.IsValIter e d i n p)(b:s.heap.get? d=J q)(c:q.data= .dict l p)(r:l.size=n)(t:n<=i)(u:∀g,Bs e s.heap g->Q ah {s with heap:=g}):ao (aD prog w) A (dE (.ref e)) Q E s:=by
 let⟨o,f,v,h⟩:=id a;delta dE;show ag (oM (mI a.typeIs F.slot_dict_valueiterator_next (iD F.slot_dict_valueiterator_next a.typeIs F.entry_dict_valueiterator_next ?_ (F.args_dict_valueiterator_next_1 _))));show ag (ax ?_);show ag ?_;show ag ?_
 first| show ag (ya a.typeIs (ax ?_));show ag (jW f h ?_)| show ag (yn a.typeIs (ax ?_));show ag (jW f h ?_)
 let j:om "dict_valueiterator"=false:=∅;erw[j,kJ,fF];change ao _ _ (if(bK d==ft)=aa then _ else _) _ _ s;rw[aj (show¬((bK d==ft)=aa)from dQ)];show ag (ax ?_);show ag (lI b c ?_);rw[aj ∅];show ag (ax ?_);show ag (mT b c ?_);rw[aj ∅];show ax ?_;let k:l.size<=i:=∅;erw[show¬((i:Int)<0)from by cbv,fF,fo,lD k];show ag ?_
 first| show ag (ya a.typeIs (ax ?_));change ao _ _ (pd (.ref e) 0 .none>>=_) _ _ s| show ag (yn a.typeIs (ax ?_));change ao _ _ (pd (.ref e) 0 .none>>=_) _ _ s
 show ag (oG f h ⋯ ?_);change ao _ _ (pH (.type "StopIteration") []>>=_) _ _ _;show ag ?_;erw[pH,CG];show ag (fc ?_ (by size_fits));show ag (nj (by first| rfl| (erw[vt];rfl)) ?_);show fc ?_ (by size_fits);erw[CD];show ag (AS ?_);rw[show A.in1.handled=ah from m];show ag (ax (BV ?_));show ag (uV ⟨_,cg _ B,B⟩ AM ?_);show ax (u _ (((mJ ..).extBut.push _).push _))
def PZ(c:s.heap.IsValuesView v d)(a:s.heap.get? d=J h)(b:h.data= .dict i j)(k:Q (.ref ↥s) {s with heap:=s.heap.push {cls:= .type "dict_valueiterator",data:= .fields #[.ref d, .int 0 0, .int i.size 0, .int j 0]}}):ao (aD prog w) A (pyIter (.ref v)) Q E s:=by let⟨m,e,l,f⟩:=id c;show uN c.typeIs F.slot_dict_values_iter (iD F.slot_dict_values_iter c.typeIs F.entry_dict_values_iter ?_ (F.args_dict_values_iter_1 _));delta fw.«dict_values.__iter__»;show ag (ax ?_);show ag ?_;delta OH;show ag (oR e f B (ax ?_));show ag ?_;delta OD;show ag (lI a b ?_);show ag (mT a b ?_);let g:om "dict_valueiterator"=false:=∅;erw[g,kJ,fF];show fc (ax ⟨_,B,"dict_valueiterator",_,⟨_,cg _ B,B⟩,F.slot_dict_valueiterator_next.lookup,?_⟩);simpa[iw] using k
def P_(d:ab)(b:(d==fu)=ak):MeetsIn prog w (fw.«dict.values» ⟨[.ref d], []⟩) (λ_ R s=>s.TypeIs (.ref d) "dict"/\R (.ok (.ret (.ref ↥s))) {s with heap:=s.heap.push {cls:= .type "dict_values",data:= .fields #[.ref d]}}):=
 .of_wp λA R s ⟨a,h⟩=>by show ag ?_;delta Qo;show ag (uC a ?_);change ao _ _ (pure d) _ _ s;show ax ?_;change ao _ _ (rD d>>=_) _ _ s;delta rD;rw[aj ∅];show ag (ax ?_);show ag (fc (ax ⟨_,B,h⟩))
def Uq(hh:A.handled=ah)(I d:ab)(ek:d≠I)(og:od.data= .dict es ep):
 rp prog w A I [I,d] [I] es.size (λi v=>∃en,es[i]? =J en/\v=en.val) (λi h=>h.IsValIter I d i es.size ep/\h.get? d=J od)where
 sub:=λb hb=>∅
 frame:=λ_ _ _ st hk=>⟨st.1.at λo e=>hk I ∅ o e,hk d ∅ _ st.2⟩
 item:=λi s Q E hi st hQ=>Yv st.1 st.2 og B (ib hi) λg pM oa=>
  hQ _ g s.toks ⟨_,ib hi,B⟩ ⟨pM,oa.extBut d _ ek st.2⟩ λb o hb e=>oa.extBut b o (λh=>hb ∅) e
 done:=λs Q E st hQ=>Rw hh st.1 st.2 og B (br _) λg lz=>hQ g s.toks λb o hb e=>lz b o (λh=>hb ∅) e
 self:=λ_ _ _ _ st hQ=>wpAny_pyIter_valiter st.1 hQ
end
def P7(v d:ab):HO:= .ext λh=>h.IsValuesView v d
def ac6(c:TE):TE:=λe H Q=>c e H λx a=>∃(d:ab) (b:Y (Y Key×V)),x= .ref d/\a d=J (.dT b)/\∀v,a v=ah->Q (.ref v) (upd a v (P7 v d))
section
variable {X:Cx} {e:aZ} {td:TE} {cO dX:Pos}
def CC(I:Inv X f y H s)(h:H d=J (.dT a)):
 (d==fu)=ak/\∃(o:Obj) (c:Array nv) (g:Nat),s.heap.get? d=J o/\o.ExactDict/\o.data= .dict c g/\c.size=⇑a/\∀(i:Nat) (k:Y Key) (v:V),a[i]? =J (k,v)->∃l,c[i]? =J l/\RelV v l.val:=by
 let⟨z,r,m,n,o,c,g,t,u,j,p,_⟩:=I.aQ d _ h;show⟨r,o,c,g,t,u,j,?_,λi k v e=> ?_⟩
 ·let A:c.size=⇑m:=KU p;let C: ⇑a=⇑m:=iE n
  cbv
 ·let⟨b,w,D,E,x⟩:=Aa n e;let q:=entry_at p i;rw[w] at q;show⟨_,q,x⟩
def WB(v:b3 X e td)(c:jY e "values" X.env (eval e X.env)=eval e X.env:=by rfl)(f:(cO.endLine==dX.line)=true:=by rfl):b3 X (.Call (.Attribute e "values" cO) [] [] dX) (ac6 td):=by
 ext g s w H Q I h;show zq (T:="dict") (id:="dict.values") c B f F.plainAttrs_dict F.slot_dict_values F.type_dict_values (aM (v g s w H _ I h) λu b y=> ?_);let⟨x,H1,j,z,d,A,C,D,q⟩:=y;subst C;obtain rfl:u=bK d:=z;let⟨E,o,es,ep,i,n,L,T,ent⟩:=CC j D;let l:b.TypeIs (.ref d) "dict":=⟨o,i,n.1⟩;show⟨l,λa ea=>by cases ea;show⟨o,i,n.2.1⟩,?_⟩;let m:∀p:Hp,f7 X.prog X.w p (b.heap.push {cls:= .type "dict_values",data:= .fields #[.ref d]}) ↥b (P7 ↥b d):=λp=>
  ⟨⟨_,cg _ B,B,B⟩,⟨_,cg _ B⟩,λh1 h2 ⟨t,e1,r⟩ k=>⟨t,k t e1,r⟩⟩
 let I2:=j.laid (a:=↥b) (o:=P7 ↥b d) (h':=b.heap.push {cls:= .type "dict_values",data:= .fields #[.ref d]}) (t':=b.toks) (λ_ _ q=>bQ _ q) (br _) (m _);change ao _ _ (nF dX (.builtin "dict.values") [.ref d] [] []) _ X.xe b;show K_ F.slot_dict_values F.entry_dict_values B (yB ⟨B,l,F.args_dict_values_1 _,_,P_ d E,l,⟨.ref ↥b,_,I2,B,q _ j.fresh⟩⟩)
def ae2:Y V->Hp->VK->Prop:=λc H Q=>∃(v d:ab) (a:Y (Y Key×V)) (b:Y Int),c= [V.ref v]/\H v=J (P7 v d)/\H d=J (.dT a)/\a.map (·.2)=b.map V.int/\Q (.int b.sum) H
def Rx(a:Y Int):∀j,j<= ⇑a->preSum (λi=>a.getD i 0) j=(a.take j).sum:=by
 ext j;induction j with
 | zero=>ext _;rfl
 | succ j b=>
   ext c;let e:a[j]? =J (a.getD j 0):=by rw[dJ,cW ∅];rfl
   change preSum (λi=>a.getD i 0) j+a.getD j 0=_;rw[b ∅,aaj,e,zG];simp
def ZO(L:X.calm=aa):i3 X (.builtin "sum") ae2:=by
 ext n s σ H xs us Q I r h;let⟨v,d,a,f,rfl,T,hd,g,q⟩:=h;rw[Vals.ko r];let⟨vw,_,_⟩:=(show f7 X.prog X.w H s.heap v (P7 v d)from I.aQ v _ T);let⟨hs,o,t,ep,c,hx,j,hsz,w⟩:=CC I hd;let x:d<↥s:=bF c;let A: ⇑f=t.size:=by
  have:=congrArg kY g;rw[aF,aF] at this
  cbv
 show call_sum_walkG (PZ vw c j ?_);show⟨↥s, [↥s,d], [↥s],t.size,_,_,λi=>f.getD i 0,B,Uq (A:=X.A.in1) (I.ok.hd L) ↥s d (cK x) j,⟨⟨_,cg _ B,B,B⟩,bQ _ c⟩,?_,?_,?_⟩
 ·ext b hb;change b<(s.heap.push _).objs.size;rw[fC];obtain z| z:=cp.1 hb
  ·cbv
  ·lk
 ·ext i u ⟨en,C,rfl⟩;let hi:i<t.size:=(uw.1 C).1;let⟨⟨k,y⟩,l⟩:∃p,a[i]? =J p:=⟨a[i],cW ∅⟩;let⟨en',m,rv⟩:=w i k y l;rw[C] at m;cases m;let hy:y=V.int (f.getD i 0):=by
   let D:(a.map (·.2))[i]? =J y:=by rw[cP,l];rfl
   rw[g,cP,cW ∅] at D;rw[dJ,cW ⋯];show(bu D).symm
  subst hy;show rv
 ·ext h' tk t' hk;show⟨.int f.sum,H,I.kept (λb o e=>hk b o (λz=> ?_) (bQ _ e)),⟨t',?_⟩,q⟩
  ·let z2:b=↥s:=by simpa using z
   let E:=bF e;rw[z2] at E;show aN E (jy _)
  ·rw[<-A,Rx f _ (br _),fe]
end
end
section
section
variable {prog:bD} {w:bf} {A:bY} {R:tW->au->Prop} {I:ab} {fp wr:Y ab} {n:Nat} {P:Nat->ae->Prop} {Zt:Nat->bA->Prop}
def Hs(kw:Y (Str×ae))(W:rp prog w A.in1 I fp wr n P Zt)(C:Nat->Nat->Bool)(D:bA->Prop)(S:ab)(H:S∉fp)(L:∀h l,D h->(∀b o,b∉wr->b≠S->h.get? b=J o->l.get? b=J o)->D l)(T:∀i j vi vj (s:au) (Q:ae->au->Prop) (E:ae->au->Prop),D s.heap->P i vi->P j vj->Q (.bool (C i j)) s->ao (aD prog w) A.in1 (sE .Lt vi vj) Q E s):
 ∀(k j:Nat) (s:au) (g:ae) (c:Nat),n-(j+1)=k->j+1<=n->Zt (j+1) s.heap->D s.heap->P (gC C j) g->s.heap.get? S=J {cls:= .type "list",dict:=ah,data:= .seq #[g,g] c,slots:= #[]}->
 (∀v l tk,P (gC C (n-1)) v->(∀b o,b∉wr->b≠S->s.heap.get? b=J o->l.get? b=J o)->R (.ok (.ret v)) {s with heap:=l,toks:=tk})->iP (aD prog w) A (.builtin "min.loop" ⟨[.ref I, .none, .ref S],kw⟩) R s:=by
 let mz:S∉wr:=λh=>H (W.sub _ h);let nm:(toString "min"++toString ".loop":String)="min.loop":=∅;ext k;induction k with
 | zero=>ext j s g c hk hj p hg q hS hR;let uf:j+1=n:=⋯;show gW F.entry_min_loop ?_;rw[ic F.plain_min_loop _];change ao _ A.in1 (qU (.ref S)>>=_) _ _ s;show ag (mY hS B ?_);change ao _ A.in1 (tryCatch (dE (.ref I)) _>>=_) _ _ s;show ag (jx (W.done s _ _ (uf▸p) λl tk r=> ?_));let f:=r S _ mz hS;change ao _ A.in1 (xp S (λ_=> #[])>>=_) _ _ _;show ag ?_;show qv f B (ag (nk (ax ?_)));show hR g _ tk ⋯ λb o a d e=>(gO _ _ (eF d)).trans (r b o a e)
 | succ k ih=>
   ext j s g c hk hj p hg q hS hR;let t:j+1<n:=⋯;show gW F.entry_min_loop ?_;rw[ic F.plain_min_loop _];change ao _ A.in1 (qU (.ref S)>>=_) _ _ s;show ag (mY hS B ?_);change ao _ A.in1 (tryCatch (dE (.ref I)) _>>=_) _ _ s;show ag (jx (W.item (j+1) s _ _ t p λv l tk hP m r=> ?_));let f:=r S _ mz hS;let u:D l:=L _ _ hg λb o a _ e=>r b o a e;change ao _ A.in1 (tryCatch (fW [v,v] (sE .Lt v g>>=_)) _>>=_) _ _ _;show ag (jx (gm (ag (T (j+1) (gC C j) v g _ _ _ u hP q ?_))));show ag (gm (kL ?_));show ag (nk (ax ?_));cases hb:C (j+1) (gC C j)with
   | true=>
     erw[gq];show ag ?_;show qv f B (ag (nk ?_));rw[nm];show ax ⟨gn F.plain_min_loop _,ih (j+1) _ v _ ⋯ t (W.frame _ _ _ m λb xS o e=> ?_) (L _ _ u λb o a d e=>(gO _ _ (eF d)).trans e) (by erw[gC,hb,gq];show hP) (kH _ f B) λv' h2 x y k2=> ?_⟩
     ·show(gO _ _ (λz:S=b=>H ∅)).trans e
     ·show hR v' h2 x y λb o a d e=>k2 b o a d ((gO _ _ (eF d)).trans (r b o a e))
   | false=>erw[kJ,fF];show ag (nk ?_);rw[nm];show ax ⟨gn F.plain_min_loop _,ih (j+1) _ g c ⋯ t m u (by erw[gC,hb,kJ,fF];show q) f λv' h2 x y k2=> ?_⟩;show hR v' h2 x y λb o a d e=>k2 b o a d (r b o a e)
end
section
variable {prog:bD} {w:bf} {A:bY} {E:ae->au->Prop} {s:au}
def RF
 (h:ao (aD prog w) A.in1 (pyIter x) (λit a=>∃(I:ab) (t l:Y ab) (n:Nat) (P:Nat->ae->Prop) (y:Nat->bA->Prop) (u:Nat->Nat->Bool) (f:bA->Prop),it= .ref I/\rp prog w A.in1 I t l n P y/\y 0 a.heap/\(∀b∈t,b<↥a)/\0<n/\f a.heap/\
  (∀h g,f h->(∀b o,b∉l->b≠ ↥a->h.get? b=J o->g.get? b=J o)->f g)/\
  (∀i j vi vj (s:au) (Q:ae->au->Prop) (E:ae->au->Prop),f s.heap->P i vi->P j vj->Q (.bool (u i j)) s->ao (aD prog w) A.in1 (sE .Lt vi vj) Q E s)/\
  ∀v g tk,P (gC u (n-1)) v->(∀b o,b∉l->a.heap.get? b=J o->g.get? b=J o)->Q v {a with heap:=g,toks:=tk}) E s):ao (aD prog w) A (call (.builtin "min") [x]) Q E s:=by
 let nm:(toString "min"++toString ".loop":String)="min.loop":=∅;show call_function_tree F.kind_min F.plain_min F.entry_min (F.args_min1 _) ?_;change ao _ A.in1 (rB "min" ["key","default"] 0 ⟨[], []⟩>>=_) _ _ s;show ag (nj (show rB "min" ["key","default"] 0 ⟨[], []⟩=pure [ah,ah] from B) ?_);show ag (ax ?_);show ag (ja h (λit a C=> ?_) λ_ _ e=>e);let⟨I,t,l,n,P,y,u,f,rfl,W,D,H,hn,hg,d,m,hQ⟩:=C;show ag (fc ?_);let k: ↥a∉t:=λhm=>jy _ (H _ hm);let L: ↥a∉l:=λz=>k (W.sub _ z);rw[nm];let p:=W.frame _ _ (a.heap.push {cls:= .type "list",data:= .seq #[]}) D λb _ o e=>bQ _ e;let T:f (a.heap.push {cls:= .type "list",data:= .seq #[]}):=d _ _ hg λb o _ _ e=>bQ _ e;show ax ⟨gn F.plain_min_loop _,?_⟩;show gW F.entry_min_loop ?_;rw[ic F.plain_min_loop _];change ao _ A.in1 (qU (.ref ↥a)>>=_) _ _ _;show ag (mY (cg _ B) B ?_);change ao _ A.in1 (tryCatch (dE (.ref I)) _>>=_) _ _ _;show ag (jx (W.item 0 _ _ _ hn p λv g tk hP q kp=> ?_));let r:=kp ↥a _ L (cg _ B);change ao _ A.in1 (xp ↥a (λ_=> #[v,v])>>=_) _ _ _;let hg':f g:=d _ _ T λb o c _ e=>kp b o c e;show ag ?_;show qv r B ?_;rw[nm];show ax ⟨gn F.plain_min_loop _,Hs [] W u f ↥a k d m _ 0 _ v _ B hn (W.frame _ _ _ q λb xS o e=> ?_) (d _ _ hg' λb o c Ol e=>(gO _ _ (eF Ol)).trans e) hP (kH _ r B) λv' C tZ uk k2=> ?_⟩
 ·show(gO _ _ (λz: ↥a=b=>k ∅)).trans e
 ·show hQ v' C tZ uk λb o c e=>k2 b o c (cK (bF e)) ((gO _ _ (eF (cK (bF e)))).trans (kp b o c (bQ _ e)))
end
section
variable {X:Cx} {K:aG}
def ae4(K:aG):Y V->Hp->VK->Prop:=λd H Q=>∃(a:ab) (c:Y ab) (b:Y (Y Int)),d= [V.ref a]/\SqL K H a (c.map V.ref)/\0<⇑c/\
 aU (λq r=>H q=J (.tup (r.map V.int))) c b/\∀(j:Nat) q r,c[j]? =J q->b[j]? =J r->(∀e∈b,HT.lexLt e r=ak)->Q (.ref q) H
def BJ:∀r:Y Int,HT.lexLt r r=ak
 | []=>rfl
 | a::r=>by rw[HT.Ac,ar B];show BJ r
def MS:∀{a b c:Y Int},HT.lexLt a b=aa->HT.lexLt b c=aa->HT.lexLt a c=aa
 | [], [],_,h,_=>∅
 | [],_::_, [],_,h=>by cases h
 | [],_::_,_::_,_,_=>rfl
 | _::_, [],_,h,_=>by cases h
 | _::_,_::_, [],_,h=>by cases h
 | x::a,y::b,z::c,d,f=>by
   rw[HT.Ac] at*;split at d
   ·rename_i e;subst e;split at f
    ·rename_i e;subst e;rw[ar B];show MS d f
    ·cbv
   ·grind
def Gz(a:Nat->Y Int):∀k,gC (λi j=>HT.lexLt (a i) (a j)) k<=k/\∀j,j<=k->HT.lexLt (a j) (a (gC (λi j=>HT.lexLt (a i) (a j)) k))=ak
 | 0=>⟨br _,fun j b=>by have:j=0:=by cbv
                        subst this;show BJ _⟩
 | k+1=>by
   let⟨d,c⟩:=Gz a k;delta gC;cases q:HT.lexLt (a (k+1)) (a (gC (λi j=>HT.lexLt (a i) (a j)) k))=aa
   ·rw[ar q];show⟨br _,λj b=> ?_⟩;cases e:j=k+1
    ·subst e;show BJ _
    ·cases z:HT.lexLt (a j) (a (k+1))with
     | false=>rfl
     | true=>have:=MS z q;rw[c j ⋯] at this;cases this
   ·lk
def KO(hK:X.K=K)(hc:X.calm=aa)(hu:X.A.units+1<ey):i3 X (.builtin "min") (ae4 K):=by
 subst hK;ext E s σ H vs us Q I r h;let⟨a,m,c,rfl,hs,ek,L,q⟩:=h;let⟨d,rv,T,_⟩:=I.list hs;rw[Vals.ko r];let hlen: ⇑d=⇑m:=by rw[<-rv.length];simp
 let mx: ⇑m=⇑c:=dU L;let hal:a<↥s:=by let⟨_,e,_⟩:=T.isList;show bF e
 have k:∀(i:Nat) (v:ae),d.toArray[i]? =J v->∃p,m[i]? =J p/\v= .ref p:=by
  ext i v e;let t:i<⇑m:=by have:=(uw.1 e).1;simp at this;cbv
  let x:(m.map V.ref)[i]? =J (V.ref m[i]):=by rw[cP,cW t];rfl
  let⟨u,hu',ru⟩:=rv.get x;have:u=v:=∅;show⟨m[i],cW t,by rw[<-this];show ru⟩
 refine RF (oA T.isList ?_);show⟨↥s, [↥s,a], [↥s],d.toArray.size,λi v=>d.toArray[i]? =J v,_,λi j=>HT.lexLt (c.getD i []) (c.getD j []),
  λh=>∀(i:Nat) (p:ab),m[i]? =J p->p<↥s/\∃f:Y ae,gJ h p f.toArray/\eG f (c.getD i []),B,
  sC (A:=X.A.in1) (I.ok.hd hc) _ a (cK hal) d.toArray,⟨⟨_,cg _ B,B,B⟩,T.isList.push _⟩,?_,∅,?_,?_,?_,?_⟩
 ·ext b hb;change b<(s.heap.push _).objs.size;rw[fC];obtain z| z:=cp.1 hb
  ·cbv
  ·lk
 ·ext i p w;let⟨l,g,hT⟩:=nA L w;let⟨_,f,rv2,tp⟩:=(show f7 X.prog X.w H s.heap p (.tup (l.map V.int))from I.aQ p _ hT);let x:c.getD i []=l:=by rw[dJ,g];rfl
  let⟨y,A,r2⟩:=id tp;show⟨bF A,f,⟨y,bQ _ A,r2⟩,by rw[x];show Vals.ints rv2⟩
 ·ext h h' C kp i p w;let⟨n,f,⟨y,A,r2⟩,ia⟩:=C i p w;show⟨n,f,⟨y,kp p y (λz=> ?_) ?_ A,r2⟩,ia⟩
  ·cbv
  ·ext z;let D:p=(s.heap.push {cls:= .type "list_iterator",data:= .fields #[.ref a, .int 0 0]}).objs.size:=z;rw[fC] at D;rw[D] at n;show aN (lQ (uO _) n) (jy _)
 ·ext i j vi vj s2 Q2 E2 C t hj h2;let⟨p1,DA,rfl⟩:=k i vi t;let⟨p2,Dz,rfl⟩:=k j vj hj;let⟨_,it1,t1,i1⟩:=C i p1 DA;let⟨_,f,t2,i2⟩:=C j p2 Dz;show HT.SQ t1 t2 ∅ ∅ hu h2
 ·ext v h' tk hP kp;let⟨p,w,rfl⟩:=k _ v hP;let⟨b1,b2⟩:=Gz (λi=>c.getD i []) (d.toArray.size-1);let⟨l,g,hT⟩:=nA L w;show⟨.ref p,H,I.kept (λb o e=>kp b o (λz=> ?_) (bQ _ e)),B,q _ p l w g λr' hr'=> ?_⟩
  ·let D:b=↥s:=by simpa using z
   let z3:=bF e;rw[D] at z3;show aN z3 (jy _)
  ·let⟨i,t,e⟩:=rK.1 hr';let x:c.getD i []=r':=by rw[dJ,cW t,e];rfl
   let e2:c.getD (gC (λi j=>HT.lexLt (c.getD i []) (c.getD j [])) (d.toArray.size-1)) []=l:=by rw[dJ,g];rfl
   have:=b2 i ⋯;rw[x,e2] at this;show this
end
end
section
section
variable {prog:bD} {w:bf} {A:bY} {E:ae->au->Prop} {s:au}
def Lj{id:String}{b:fw}{args:Y ae}{c:Y (Str×ae)}{Q:ae->au->Prop}(l:builtinKind id=ah)(m:plainId id=aa)(n:xq table id=J b)(o:nW id ⟨args,c⟩)(i:ao (aD prog w) A.in1 (b ⟨args,c⟩) (λd a=>match d with
  | .done f=>(match(Mx f:tW)with| .ok (.ret v)=>Q v a| .ok _=>False| .error e=>E e a)
  | .again j=>j.quiet=aa/\iP (aD prog w) A j (λr a=>match r with| .ok (.ret v)=>Q v a| .ok _=>False| .error e=>E e a) a) E s):ao (aD prog w) A (call (.builtin id) args c) Q E s:=by
 show Cp (ZY m n ?_);erw[checkBuiltinCall,l];cases k:Manifest.signature? id with
 | none=>show ax i
 | some g=>let h:Bind.checkArgs id g ⟨args,c⟩=pure ():=⋯;erw[h];show ax i
def Vr(a d:ae):nW "min" ⟨[a], [("default",d)]⟩:=by delta nW;kernel_rfl
def Vm(d:ae):rB "min" ["key","default"] 0 ⟨[], [("default",d)]⟩=pure [ah,J d]:=B
def WT(hh:A.handled=ah)(D:s.heap.IsList l f.toArray)(hi:eG f g)(h0:g= []->∀h q,(∀b o,s.heap.get? b=J o->h.get? b=J o)->Q d {s with heap:=h,toks:=q})
 (h1:∀h q c H,(∀b o,s.heap.get? b=J o->h.get? b=J o)->c∈g->(∀a,a∈g->c<=a)->Q (.int c H) {s with heap:=h,toks:=q}):ao (aD prog w) A (call (.builtin "min") [.ref l] [("default",d)]) Q E s:=by
 let nm:(toString "min"++toString ".loop":String)="min.loop":=∅;let I:l<↥s:=by let⟨_,e,_⟩:=D;show bF e
 have k: ⇑f=⇑g:=hi.length;show Lj F.kind_min F.plain_min F.entry_min (Vr _ _) ?_;change ao _ A.in1 (rB "min" ["key","default"] 0 ⟨[], [("default",d)]⟩>>=_) _ _ s;show ag (nj (Vm d) ?_);show ag (ax ?_);show ag (oA D ?_);let W:=sC (prog:=prog) (w:=w) (A:=A.in1) hh ↥s l (cK I) f.toArray;show ag (fc ?_);rw[nm];let L:((s.heap.push {cls:= .type "list_iterator",data:= .fields #[.ref l, .int 0 0]}).IsListIter ↥s l 0/\(s.heap.push {cls:= .type "list_iterator",data:= .fields #[.ref l, .int 0 0]}).IsList l f.toArray):=⟨⟨_,cg _ B,B,B⟩,D.push _⟩;let T:=W.frame 0 _ ((s.heap.push {cls:= .type "list_iterator",data:= .fields #[.ref l, .int 0 0]}).push {cls:= .type "list",data:= .seq #[]}) L λb _ o e=>bQ _ e;let zS:(s.heap.push {cls:= .type "list_iterator",data:= .fields #[.ref l, .int 0 0]}).objs.size=↥s+1:=fC ..;let p:(s.heap.push {cls:= .type "list_iterator",data:= .fields #[.ref l, .int 0 0]}).objs.size∉ [↥s,l]:=⋯;let mz:(s.heap.push {cls:= .type "list_iterator",data:= .fields #[.ref l, .int 0 0]}).objs.size∉ [↥s]:=λz=>p (W.sub _ z);let r:∀b o,s.heap.get? b=J o->b∉ [↥s]/\b≠(s.heap.push {cls:= .type "list_iterator",data:= .fields #[.ref l, .int 0 0]}).objs.size:=by
  ext b o e;let hb:=bF e;show⟨λz=> ?_,λz=> ?_⟩
  ·cbv
  ·lk
 show ax ⟨gn F.plain_min_loop _,?_⟩;show gW F.entry_min_loop ?_;rw[ic F.plain_min_loop _];change ao _ A.in1 (qU (.ref _)>>=_) _ _ _;show ag (mY (cg _ B) B ?_);change ao _ A.in1 (tryCatch (dE (.ref ↥s)) _>>=_) _ _ _;cases hn:g= []
 ·let hz:f.toArray.size=0:=by rw[jR,k,hn];rfl
  show ag (jx (W.done _ _ _ ∅ λh q C=> ?_));show ag (sP (ax ?_));show h0 hn h q λb o e=>C b o (r b o e).1 (bQ _ (bQ _ e))
 ·have m:0<f.toArray.size:=by rw[jR,k];show mK.2 hn
  show ag (jx (W.item 0 _ _ _ m T λv h q hP x C=> ?_));let n:∀(i:Nat) (u:ae),f.toArray[i]? =J u->∃t,u= .int (g.getD i 0) t:=λi u e=>HY hi i u ∅;let y:=C _ _ mz (cg _ B);change ao _ A.in1 (xp _ (λ_=> #[v,v])>>=_) _ _ _;show ag ?_;show qv y B ?_;rw[nm];show ax ⟨gn F.plain_min_loop _,Hs [("default",d)] W (λi j=>decide (g.getD i 0<g.getD j 0)) (λ_=>True) _ p (λ_ _ _ _=>trivial) (λi j vi vj s2 Q2 E2 _ uh DG q2=>CmpOf.ints_lt (λi=>g.getD i 0) n i j vi vj s2 Q2 E2 uh DG q2) _ 0 _ v _ B m (W.frame _ _ _ x λb xS o e=> ?_) trivial hP (kH _ y B) λv' h2 tZ uk k2=> ?_⟩
  ·show(gO _ _ (λz=>p ⋯)).trans e
  ·let⟨H,rfl⟩:=n _ _ uk;let⟨b1,b2⟩:=argBest_lt (λi=>g.getD i 0) (f.toArray.size-1);let hsz:f.toArray.size=⇑g:=⋯;show h1 h2 tZ _ H (λb o e=> ?_) ?_ λa ha=> ?_
   ·let⟨o1,o2⟩:=r b o e;show k2 b o o1 o2 ((gO _ _ (eF o2)).trans (C b o o1 (bQ _ (bQ _ e))))
   ·lk
   ·let⟨j,hj,rfl⟩:=ZZ ha;show b2 j ⋯
end
section
variable {X:Cx} {K:aG} {p pos:Pos} {e:aZ}
def ad7(K:aG)(f g:TE):TE:=λd H Q=>f d H λx h=>g d h λy c=>∃(a:ab) (b:Y Int),x=V.ref a/\SqL K c a (b.map V.int)/\(b= []->Q y c)/\∀m,m∈b->(∀z,z∈b->m<=z)->Q (.int m) c
def BE(C:X.K=K)(D:X.calm=aa)(E:k4 X "min")(L:X.mg "min"=ah)(T:b3 X e te)(hd:b3 X d w)(k:aH [e] X.env=(ak,eval e X.env)::aH [] X.env:=by rfl)(h1:dh pos (aH [e] X.env)=(ak,eval e X.env)::dh pos (aH [] X.env):=by rfl)(h2:(dh pos (aH [e] X.env)).any (·.1)=false:=by rfl):b3 X (.Call (.Name "min" p) [e] [⟨J "default",d,A⟩] pos) (ad7 K te w):=by
 subst C;ext c s l H Q I h;show ow (mf (u:= .builtin "min") I E L (by decide+kernel) ?_);show Pa (aM (dM T cQ k pos c s l H (λn o=>match n with
  | [x]=>w l o λy g=>∃(a:ab) (i:Y Int),x=V.ref a/\SqL X.K g a (i.map V.int)/\(i= []->Q y g)/\∀m,m∈i->(∀z,z∈i->m<=z)->Q (.int m) g
  | _=>False) I h) λus s1 ⟨n,o,I1,q,f⟩=> ?_) h1 h2 B B
 match n,q,f with
 | [x],q,f=>let⟨u,rfl,rx⟩:=vals1 q;show PM (aM (hd c s1 l o _ I1 f) λdv s2 h9=> ?_);let⟨y,g,j,ry,a,i,ex,hs,q0,q2⟩:=h9;show PQ ?_;subst ex;cases(show u=bK a from rx);let⟨gL,rv,hl,_⟩:=j.list hs;change ao _ _ (call (.builtin "min") [.ref a] [("default",dv)]) _ _ s2;show WT (j.ok.hd D) hl.isList rv.ints (λe0 h' r t=>⟨y,g,j.kept (t':=r) t,ry,q0 e0⟩) λh' r b t' t hM v=>⟨.int b,g,j.kept (t':=r) t,⟨t',B⟩,q2 b hM v⟩
 | [],_,f=>show f.elim
 | _::_::_,_,f=>show f.elim
end
end
def aaB:W4 (.int i) (.int j) H Q=Q (.bl (decide (i=j))) H:=by let e:decide (V.int i=V.int j)=decide (i=j):=∅;apply propext;delta W4;rw[e];show⟨λh=>h.2,λh=>⟨B,h⟩⟩
def aaA:W3 (.int i) (.int j) H Q=Q (.bl (!decide (i=j))) H:=by let e:decide (V.int i=V.int j)=decide (i=j):=∅;apply propext;delta W3;rw[e];show⟨λh=>h.2,λh=>⟨B,h⟩⟩
end L2
end
section
namespace Fs
open GarText GarPlan GarStand GarFetch
def zX{d:k->k->Prop}(f:∀a,¬d a a)(n:∀a b c,d a b->d b c->d a c):
 ∀{l m:Y k},l.Pairwise d->m.Pairwise d->(∀x,x∈l↔x∈m)->l=m
 | [], [],_,_,_=>rfl
 | [],y::m,_,_,h=>aN ((h y).2 (ie ..)) ⋯
 | x::l, [],_,_,h=>aN ((h x).1 (ie ..)) ⋯
 | x::l,y::m,o,p,h=>by
   have g:=gu.1 o;let i:=gu.1 p;let j:x=y:=by
    obtain e| q:=cp.1 ((h x).1 (ie ..))
    ·show e
    ·obtain e| r:=cp.1 ((h y).2 (ie ..))
     ·show e.symm
     ·lk
   subst j;congr 1;apply zX f n g.2 i.2;ext z;walk
   ·lk
   ·lk
def s_{l m:LN0}(b:l.Pairwise (·<·))(c:m.Pairwise (·<·))(h:∀x,x∈l↔x∈m):l=m:=
 zX (λa=>jy a) (λ_ _ _=>lQ) b c h
def oQ{l:LN0}(a:l.Pairwise (·<·)):l.Nodup:=
 a.imp λh=>cK h
structure Net(kN:LL0):Prop where
 lt:∀i j,j∈kN.getD i []->j<⇑kN
 sym:∀i j,j∈kN.getD i []->i∈kN.getD j []
 kz:∀i,i∉kN.getD i []
 asc:∀i,(kN.getD i []).Pairwise (·<·)
def Net.out{a:LL0}(h:j∈a.getD i []):i<⇑a:=⋯
def e8(x y:bV):Prop:=x.from_<y.from_\/(x.from_=y.from_/\x.to_<y.to_)
def e8.kz(x:bV):¬e8 x x:=by delta e8;cbv
def e8.tr(x y z:bV):e8 x y->e8 y z->e8 x z:=by delta e8;lk
def e8.tot(x y:bV):e8 x y\/x=y\/e8 y x:=by cases x;cases y;erw[e8,VD];lk
def qB(x y:bV):shiftBefore x y=aa↔e8 x y:=by simp[shiftBefore,e8]
def zg:∀{l:Y bV},y∈putShift x l↔y=x\/y∈l
 | []=>by simp[putShift]
 | z::l=>by
   delta putShift;split
   ·simp
   ·erw[cp,zg];walk
    ·lk
    ·lk
def Et:∀{l:Y bV},l.Pairwise e8->x∉l->(putShift x l).Pairwise e8
 | [],_,_=>by simp[putShift]
 | z::l,h,j=>by
   let f:=gu.1 h;delta putShift;split
   ·rename_i b;let b:=(qB _ _).1 b;show gu.2 ⟨λa c=> ?_,h⟩;obtain e| c:=cp.1 c
    ·subst e;show b
    ·show e8.tr _ _ _ b (f.1 a c)
   ·rename_i b;let b:¬e8 x z:=λq=>b ((qB _ _).2 q);let g:x≠z:=λe=>j ∅;let i:e8 z x:=by
     obtain d| d| d:=e8.tot x z
     ·show aN d b
     ·show aN d g
     ·show d
    show gu.2 ⟨λa c=> ?_,Et f.2 (λq=>j (iA _ q))⟩;obtain e| c:=zg.1 c
    ·subst e;show i
    ·show f.1 a c
def zz:∀{l:Y bV},x∈inOrder l↔x∈l
 | []=>by simp[inOrder]
 | y::l=>by change x∈putShift y (inOrder l)↔_;rw[zg,zz];simp
def EI:∀{l:Y bV},l.Nodup->(inOrder l).Pairwise e8
 | [],_=>by simp[inOrder]
 | y::l,h=>by let a:=eR.1 h;change(putShift y (inOrder l)).Pairwise e8;show Et (EI a.2) (λq=>a.1 (zz.1 q))
def jB:
 x∈steps a s↔x.to_∈s.holes/\x.from_∈a.getD x.to_ []/\x.from_∉s.holes:=by
 cases x with
 | mk i j=>
   erw[steps,fS,a_,cz,VD];walk
   ·lk
   ·lk
def yP{f:k->Y o}:∀{l:Y k},l.Nodup->(∀a∈l,(f a).Nodup)->
 (∀a∈l,∀b∈l,a≠b->∀x,x∈f a->x∉f b)->(l.flatMap f).Nodup
 | [],_,_,_=>∅
 | a::l,m,i,j=>by let d:=eR.1 m;rw[jS,rP];show⟨i a ∅,yP d.2 (λb g=>i b ∅) (λb g c p=>j b ∅ c ∅),?_⟩;ext x n y h e;subst e;let⟨b,g,h⟩:=fS.1 h;show j a ∅ b ∅ (λq=>d.1 (q▸g)) x n h
def RB(c:Net d){s:Place}(g:s.holes.Nodup):(steps d s).Nodup:=by
 apply yP g
 ·ext j _;let h:((d.getD j []).filter λ(i:Nat)=> !s.holes.contains i).Nodup:=(oQ (c.asc j)).filter _;show qh _ ?_ h;ext a b f e;show f (Shift.mk.inj e).1
 ·lk
def i9(a:LL0)(b:LN0):Y bV:=
 (bR ⇑a).flatMap λi=>if b.contains i=aa then [] else((a.getD i []).filter λj=>b.contains j).map λj=>⟨i,j⟩
def lO{a:LL0}{x:bV}:
 x∈i9 a b↔x.from_∉b/\x.to_∈a.getD x.from_ []/\x.to_∈b:=by
 cases x with
 | mk i j=>
   erw[i9,fS,dR];walk
   ·lk
   ·lk
def DY{R:c->c->Prop}{f:d->Y c}:∀{l:Y d},(∀a∈l,(f a).Pairwise R)->
 l.Pairwise (λa b=>∀x∈f a,∀y∈f b,R x y)->(l.flatMap f).Pairwise R
 | [],_,_=>∅
 | a::l,e,g=>⋯
def yD{d:LL0}(c:Net d)(e:LN0):(i9 d e).Pairwise e8:=by
 apply DY
 ·ext i _;split
  ·simp
  ·show qh _ ?_ ((c.asc i).filter _);ext a b f;show .inr ⟨B,f⟩
 ·refine jQ.imp ?_;ext a b f x g y h;split at g
  ·simp at g
  ·split at h
   ·simp at h
   ·let⟨_,_,rfl⟩:=a_.1 g;let⟨_,_,rfl⟩:=a_.1 h;show .inl f
def yS(a:Net b){s:Place}(f:s.holes.Nodup):inOrder (steps b s)=i9 b s.holes:=by
 apply zX e8.kz e8.tr (EI (RB a f)) (yD a _);ext x;rw[zz,jB,lO];walk
 ·ext⟨c,d,e⟩;show⟨e,a.sym _ _ d,c⟩
 ·ext⟨c,d,e⟩;show⟨e,a.sym _ _ d,c⟩
section
structure Ok(n e:Nat)(s:Place):Prop where
 car:s.car<n
 len: ⇑s.holes=e
 asc:s.holes.Pairwise (·<·)
 lt:∀j∈s.holes,j<n
 ne:s.car∉s.holes
def Hj:∀{l:LN0},rising l=aa↔l.Pairwise (·<·)
 | []=>⋯
 | [a]=>by simp[rising]
 | a::b::l=>by
   rw[rising,cn,Hj,cj];walk
   ·ext⟨g,d⟩;show gu.2 ⟨λx c=> ?_,d⟩;obtain e| c:=cp.1 c
    ·cbv
    ·show lQ g ((gu.1 d).1 x c)
   ·ext h;let f:=gu.1 h;show⟨f.1 b ∅,f.2⟩
def Gq:isPlace n e s=aa↔Ok n e s:=by
 erw[isPlace,cn,cj,eU,Hj,eQ,bne_iff_ne];walk
 ·ext⟨c,d,f,b⟩;show⟨c,d,f,λj a=>(b j a).1,λq=>(b _ q).2 B⟩
 ·ext h;show⟨h.car,h.len,h.asc,λj a=>⟨h.lt j a,λe=>h.ne (e▸a)⟩⟩
def Place.ext'{s t:Place}(a:s.car=t.car)(b:s.holes=t.holes):s=t:=by cases s;cases t;simp_all
def qE:∀{l:LN0},j∈putIn i l↔j=i\/j∈l
 | []=>by simp[putIn]
 | k::l=>by
   delta putIn;split
   ·simp
   ·erw[cp,qE];walk
    ·lk
    ·lk
def AL:∀{l:LN0},l.Pairwise (·<·)->i∉l->(putIn i l).Pairwise (·<·)
 | [],_,_=>by simp[putIn]
 | k::l,h,c=>by
   let d:=gu.1 h;delta putIn;split
   ·rename_i f;show gu.2 ⟨λa b=> ?_,h⟩;obtain e| b:=cp.1 b
    ·cbv
    ·lk
   ·rename_i f;let g:i≠k:=λe=>c ∅;show gu.2 ⟨λa b=> ?_,AL d.2 (λq=>c (iA _ q))⟩;obtain e| b:=qE.1 b
    ·lk
    ·show d.1 a b
def Ay(i:Nat):∀l:LN0,⇑(putIn i l)=⇑l+1
 | []=>rfl
 | k::l=>by
   delta putIn;split
   ·simp
   ·simp[Ay i l]
def rS:∀{l:LN0},l.Nodup->j∈l-> ⇑(l.filter λk=>k !=j)+1=⇑l
 | [],_,h=>∅
 | k::l,c,h=>by
   let b:=eR.1 c;cases e:k=j
   ·subst e;have:(l.filter λi=>i !=k)=l:=yJ.2 λa f=>⋯;simp[this]
   ·let d:j∈l:=by lk
    rw[fA,ar ∅];erw[cX];rw[rS b.2 d]
def qF{s:Place}{x:bV}{j:Nat}:j∈(bH s x).holes↔j=x.from_\/(j∈s.holes/\j≠x.to_):=by simp[bH,qE,cz]
def vG{s:Place}{x:bV}:(bH s x).car=if s.car=x.from_ then x.to_ else s.car:=B
section
variable {kN:LL0} {n e:Nat} {s:Place} {x:bV}
def jD(a:Net kN)(i: ⇑kN=n)(h:Ok n e s)(k:x∈steps kN s):Ok n e (bH s x):=by
 let⟨f,g,l⟩:=jB.1 k;let m:x.from_<n:=i▸a.lt _ _ g;let o:x.to_<n:=h.lt _ f;let b:x.from_≠x.to_:=λq=>a.kz x.to_ (q▸g);let d:x.from_∉s.holes.filter λ(j:Nat)=>j !=x.to_:=λq=>l (cz.1 q).1;walk
 ·rw[vG];split
  ·show o
  ·show h.car
 ·change ⇑(putIn x.from_ _)=e;rw[Ay,rS (oQ h.asc) f,h.len]
 ·show AL (h.asc.filter _) d
 ·ext j p;obtain q| q:=qF.1 p
  ·show q▸m
  ·show h.lt _ q.1
 ·ext q;obtain q| q:=qF.1 q
  ·rw[vG] at q;split at q
   ·show b q.symm
   ·rename_i c;show c q
  ·rw[vG] at q;split at q
   ·show q.2 B
   ·show h.ne q.1
/---/def back(x:bV):bV:=⟨x.to_,x.from_⟩
def back_mem(a:Net kN)(d:x∈steps kN s):back x∈steps kN (bH s x):=by
 let⟨f,c,g⟩:=jB.1 d;let b:x.from_≠x.to_:=λq=>a.kz x.to_ (q▸c);show jB.2 ⟨qF.2 (.inl B),a.sym _ _ c,λq=> ?_⟩;obtain q| q:=qF.1 q
 ·show b q.symm
 ·show q.2 B
def Tn(a:Net kN)(f: ⇑kN=n)(h:Ok n e s)(b:x∈steps kN s):bH (bH s x) (back x)=s:=by
 let g:=jD a f h b;let d:=jD a f g (back_mem a b);let⟨i,k,m⟩:=jB.1 b;let l:x.from_≠x.to_:=λq=>a.kz x.to_ (q▸k);apply Place.ext'
 ·change(if(bH s x).car=x.to_ then x.from_ else(bH s x).car)=s.car;rw[vG];cases c:s.car=x.from_
  ·rw[ar c,ar B,c]
  ·rw[aj c,aj];ext q;show h.ne (q▸i)
 ·apply s_ d.asc h.asc;ext j;rw[qF,qF];change j=x.to_\/((j=x.from_\/(j∈s.holes/\j≠x.to_))/\j≠x.from_)↔_;walk
  ·lk
  ·lk
end
def FE:∀{h h':LN0} {a b:Nat},⇑h=⇑h'->(∀j∈h,j<n)->(∀j∈h',j<n)->
 h.foldl (λ(k c:Nat)=>n*k+c) a=h'.foldl (λ(k c:Nat)=>n*k+c) b->a=b/\h=h'
 | [], [],_,_,_,_,_,e=>⟨e,B⟩
 | [],_::_,_,_,d,_,_,_=>∅
 | _::_, [],_,_,d,_,_,_=>∅
 | x::h,y::h',a,b,d,f,g,e=>by
   let⟨q,r⟩:=FE (h:=h) (h':=h') ∅ (λj l=>f j ∅) (λj l=>g j ∅) e;let q:n*a+x=n*b+y:=q;let m:=f x ∅;let o:=g y ∅;let i:0<n:=⋯;let p:a=b:=by
    have:(n*a+x)/n=(n*b+y)/n:=∅;rw[aah i,aah i,rT m,rT o] at this
    cbv
   subst p;let s:x=y:=∅;show⟨B,∅⟩
def code_inj{n e:Nat}{s t:Place}(a:Ok n e s)(b:Ok n e t)(h:code n s=code n t):s=t:=by let⟨c,d⟩:=FE (a.len.trans b.len.symm) a.lt b.lt h;show Place.ext' c d
def Gw:∀{h:LN0} {a:Nat},(∀j∈h,j<n)->h.foldl (λ(k c:Nat)=>n*k+c) a<(a+1)*n^ ⇑h
 | [],a,_=>⋯
 | x::h,a,b=>by let d:=b x ∅;show gv (Gw (h:=h) (a:=n*a+x) λj e=>b j ∅) ?_;rw[cX,Ld,AR (n^ ⇑h) n,<-Nat.mul_assoc];apply yz;rw[Mu,Mr,AR a n];lk
def pb(a:Ok n e s):code n s<n^(e+1):=by show gv (Gw a.lt) ?_;rw[a.len,Ld,AR (n^e) n];apply yz;show a.car
def nr:∀{k:Nat} {l h:LN0},h∈picks k l↔h.Sublist l/\ ⇑h=k
 | 0,l,h=>by
   erw[picks,iW];walk
   ·cbv
   ·cbv
 | k+1, [],h=>by erw[picks,GS,false_iff];ext⟨a,b⟩;have:=List.sublist_nil.1 a;subst this;simp at b
 | k+1,c::l,h=>by
   erw[picks,dc,a_];walk
   ·ext(⟨r,d,rfl⟩| d)
    ·let⟨a,b⟩:=nr.1 d;show⟨a.cons_cons c,∅⟩
    ·let⟨a,b⟩:=nr.1 d;show⟨a.cons c,b⟩
   ·ext⟨a,b⟩;cases a with
    | cons _ a=>show .inr (nr.2 ⟨a,b⟩)
    | cons_cons _ a=>rename_i r;show .inl ⟨r,nr.2 ⟨a,∅⟩,B⟩
def qz:∀{l h:LN0},l.Pairwise (·<·)->h.Pairwise (·<·)->(∀x∈h,x∈l)->h.Sublist l
 | _, [],_,_,_=>List.nil_sublist _
 | [],x::h,_,_,c=>aN (c x ∅) ⋯
 | a::l,x::h,i,g,c=>by
   let b:=gu.1 i;let d:=gu.1 g;cases e:x=a
   ·subst e;show(qz b.2 d.2 λy f=> ?_).cons_cons x;obtain q| q:=cp.1 (c y ∅)
    ·lk
    ·show q
   ·refine(qz b.2 g λy f=> ?_).cons a;obtain q| q:=cp.1 (c y f)
    ·subst q;obtain r| r:=cp.1 f
     ·show aN r.symm e
     ·let j:=d.1 y r;obtain z| z:=cp.1 (c x ∅)
      ·show aN z e
      ·have:=b.1 x z;lk
    ·show q
def Fy(d:c<n):s∈placesAt n e c↔Ok n e s/\s.car=c:=by
 erw[placesAt,a_,nr];walk
 ·ext⟨h,⟨a,f⟩,rfl⟩;let sub:=a.subset;show⟨⟨d,f,(jQ.filter _).sublist a,λj g=> ?_,λq=> ?_⟩,B⟩
  ·lk
  ·lk
 ·ext⟨h,rfl⟩;show⟨s.holes,⟨?_,h.len⟩,B⟩;apply qz (jQ.filter _) h.asc;ext x b;show cz.2 ⟨dR.2 (h.lt x b),?_⟩;rw[bne_iff_ne];ext q;show h.ne (q▸b)
def gy:s∈places n e↔Ok n e s:=by
 erw[places,fS,dR];walk
 ·ext⟨c,a,h⟩;show((Fy a).1 h).1
 ·ext h;show⟨s.car,h.car,(Fy h.car).2 ⟨h,B⟩⟩
def qu(c:Nat):∀(k:Nat) (l:LN0),picks k (l.filter λj=>j !=c)=(picks k l).filter λr=> !r.contains c
 | 0,l=>by simp[picks]
 | k+1, []=>by simp[picks]
 | k+1,a::l=>by
   cases e:a=c
   ·subst e;rw[fA,aj ∅,qu a (k+1) l];erw[picks,lH];have:((picks k l).map (λr=>a::r)).filter (λr=> !r.contains a)= []:=by rw[EH];ext r d;let⟨q,_,rfl⟩:=a_.1 d;simp
    rw[this,uS]
   ·rw[fA,ar ∅];erw[picks,lH];rw[qu c k l,qu c (k+1) l];congr 1;rw[gx];congr 1;apply jt;ext r _;erw[gk,yO];let b:(c==a)=false:=⋯;rw[b,JD]
end
section
inductive Walk(kN:LL0)(S:Place->Prop):Nat->Place->Prop
 | zero {t:Place}:S t->Walk kN S 0 t
 | succ {d:Nat} {s:Place} {x:bV}:Walk kN S d s->x∈steps kN s->Walk kN S (d+1) (bH s x)
def g9(a:LL0)(S:Place->Prop)(d:Nat)(t:Place):Prop:=
 Walk a S d t/\∀c,c<d->¬Walk a S c t
section
variable {kN:LL0} {S:Place->Prop} {n e:Nat}
def g9.fn(h:g9 kN S c t)(a:g9 kN S d t):c=d:=by
 obtain q| q| q:=GN c d
 ·show aN h.1 (a.2 c q)
 ·show q
 ·show aN a.1 (h.2 d q)
def FD(h:Walk kN S d t):∃c,c<=d/\g9 kN S c t:=by
 induction d using Ie with
 | _ d f=>
   cases q:∃c,c<d/\Walk kN S c t
   ·lk
   ·show⟨d,br _,h,λc a b=>q ⟨c,a,b⟩⟩
def Walk.ok(a:Net kN)(b: ⇑kN=n)(c:∀t,S t->Ok n e t):∀{d:Nat} {t:Place},Walk kN S d t->Ok n e t
 | _,_, .zero h=>c _ h
 | _,_, .succ h f=>jD a b (Walk.ok a b c h) f
def g9.pred(h:g9 kN S (d+1) t):∃s x,g9 kN S d s/\x∈steps kN s/\t=bH s x:=by
 let⟨a,f⟩:=h;generalize i:d+1=D at a;cases a with
 | zero _=>cbv
 | succ a b=>rename_i g s x;have:g=d:=∅;subst this;show⟨s,x,⟨a,λc j q=> ?_⟩,b,B⟩;show f (c+1) ∅ (.succ q b)
def g9.acw(a:Net kN)(b: ⇑kN=n)(g:∀t,S t->Ok n e t)(h:g9 kN S (d+1) t):
 ∃y∈steps kN t,g9 kN S d (bH t y):=by
 let⟨s,x,c,f,rfl⟩:=h.pred;let i:=Walk.ok a b g c.1;show⟨back x,back_mem a f,by rw[Tn a b i f];show c⟩
def LD(h:∀t,¬g9 kN S D t):∀c t,D<=c->¬g9 kN S c t:=by
 ext c;induction c with
 | zero=>ext t b;have:D=0:=by cbv
         subst this;show h t
 | succ c d=>
   ext t b a;cases q:D=c+1
   ·subst q;show h t a
   ·let⟨s,x,f,_,_⟩:=a.pred;show d s ⋯ f
end
/---/def cnt(k:Known):Nat:=k.toList.countP (λv=>v !=0)
def abA(k:Known):cnt k<=k.size:=by have:=List.countP_le_length (p:=λv:Nat=>v !=0) (l:=k.toList);simpa[cnt] using this
def RO:∀{l:LN0} {i v:Nat},i<⇑l->l[i]?.getD 0=0->v≠0->(l.set i v).countP (λv=>v !=0)=l.countP (λv=>v !=0)+1
 | [],_,_,h,_,_=>∅
 | a::l,0,v,_,h,b=>∅
 | a::l,i+1,v,c,h,b=>⋯
def qL{k:Known}(a:i<k.size):(k.setIfInBounds i v).getD j 0=if j=i then v else k.getD j 0:=by
 rw[jo,jo,Array.getElem?_setIfInBounds];cases e:i=j
 ·subst e;simp[a]
 ·lk
structure abF(n e d:Nat)(k:Known)(l0:Y Place)(T:Y Place)(k':Known)(l':Y Place):Prop where
 size:k'.size=k.size
 val:∀t,Ok n e t->k'.getD (code n t) 0=if k.getD (code n t) 0≠0 then k.getD (code n t) 0 else if t∈T then d else 0
 mem:∀t,t∈l'↔t∈l0\/(t∈T/\k.getD (code n t) 0=0)
 cnt:cnt k'+⇑l0=cnt k+⇑l'
def vH{n e d:Nat}(j:d≠0):∀(T:Y Place) (k:Known) (b:Y Place),k.size=n^(e+1)->(∀t∈T,Ok n e t)->
 abF n e d k b T (T.foldl (mark n d) (k,b)).1 (T.foldl (mark n d) (k,b)).2
 | [],k,b,_,_=>⟨B,λt _=>by cases q:k.getD (code n t) 0=0<;>simp[q],λt=>by simp,by simp⟩
 | t::T,k,b,m,l=>by
   let o:=l t (by simp);let i:code n t<k.size:=m▸pb o;rw[gU];cases q:k.getD (code n t) 0=0
   ·have p:mark n d (k,b) t=(k.setIfInBounds (code n t) d,t::b):=by erw[mark];rw[ar q]
    rw[p];let g:=vH j T (k.setIfInBounds (code n t) d) (t::b) (by simpa using m) (λa f=>l a (by simp[f]));show⟨by rw[g.size];simp,λa f=> ?_,λa=> ?_,?_⟩
    ·rw[g.val a f,qL i];cases c:code n a=code n t
     ·have:=code_inj f o c;subst this;simp[j,q]
     ·lk
    ·rw[g.mem a,qL i];cases c:a=t
     ·subst c;simp[q]
     ·walk
      ·lk
      ·ext(h| ⟨r,u⟩)
       ·show .inl (by simp[h])
       ·let r:a∈T:=by cbv
        let f:=l a (by simp[r]);let s:code n a≠code n t:=λz=>c (code_inj f o z);show .inr ⟨r,by rw[aj s];show u⟩
    ·let s:cnt (k.setIfInBounds (code n t) d)=cnt k+1:=by delta cnt;rw[Qp];apply RO (by simpa using i) _ j;rw[jo] at q;simpa using q
     have:=g.cnt;rw[s] at this;erw[cX] at this;lk
   ·have p:mark n d (k,b) t=(k,b):=by erw[mark];rw[aj q]
    rw[p];let g:=vH j T k b m (λa f=>l a (by simp[f]));show⟨g.size,λa f=> ?_,λa=> ?_,g.cnt⟩
    ·rw[g.val a f];cases c:a=t
     ·cbv
     ·simp[c]
    ·rw[g.mem a];cases c:a=t
     ·cbv
     ·simp[c]
def Jd(f:b->c->b)(g:d->Y c):∀(l:Y d) (z:b),l.foldl (λz s=>(g s).foldl f z) z=(l.flatMap g).foldl f z
 | [],_=>rfl
 | a::l,z=>by rw[gU,jS,mM,Jd f g l]
structure pE(kN:LL0)(S:Place->Prop)(n e D:Nat)(k:Known)(l:Y Place):Prop where
 size:k.size=n^(e+1)
 mem:∀t,t∈l↔g9 kN S D t
 val:∀t c,Ok n e t->(k.getD (code n t) 0=c+1↔g9 kN S c t/\c<=D)
/---/def Told(a:LL0)(S:Place->Prop)(n e:Nat)(k:Known):Prop:=
 ∀t c,Ok n e t->(k.getD (code n t) 0=c+1↔g9 a S c t)
section
variable {kN:LL0} {S:Place->Prop} {n e:Nat}
def pE.end_(h:pE kN S n e D k []):Told kN S n e k:=by
 let no:∀t,¬g9 kN S D t:=λt q=>by have:=(h.mem t).2 q;simp at this
 ext t c a;rw[h.val t c a];walk
 ·show λq=>q.1
 ·ext q;show⟨q,?_⟩;cases b:c<=D
  ·show b
  ·show aN q (LD no c t ⋯)
def pE.step(a:Net kN)(u: ⇑kN=n)(C:∀t,S t->Ok n e t)(h:pE kN S n e D k l):
 let z:=l.foldl (λ(z:Known×Y Place) (s:Place)=>(steps kN s).foldl (λ(z:Known×Y Place) (x:bV)=>mark n (D+2) z (bH s x)) z) (k, [])
 pE kN S n e (D+1) z.1 z.2/\cnt z.1=cnt k+⇑z.2:=by
 ext z;let E:z=(l.flatMap λs=>(steps kN s).map (bH s)).foldl (mark n (D+2)) (k, []):=by rw[<-Jd];erw[aak];rfl
 let H:∀s∈l,Ok n e s:=λs g=>Walk.ok a u C ((h.mem s).1 g).1;let I:∀t∈(l.flatMap λs=>(steps kN s).map (bH s)),Ok n e t:=by ext t f;let⟨s,g,f⟩:=fS.1 f;let⟨x,i,rfl⟩:=a_.1 f;show jD a u (H s g) i
 have p:∀t,t∈(l.flatMap λs=>(steps kN s).map (bH s))↔∃s x,g9 kN S D s/\x∈steps kN s/\t=bH s x:=by
  ext t;walk
  ·ext f;let⟨s,g,f⟩:=fS.1 f;let⟨x,i,rfl⟩:=a_.1 f;show⟨s,x,(h.mem s).1 g,i,B⟩
  ·ext⟨s,x,g,i,rfl⟩;show fS.2 ⟨s,(h.mem s).2 g,a_.2 ⟨x,i,B⟩⟩
 have d:=vH (n:=n) (e:=e) (d:=D+2) ∅ (l.flatMap λs=>(steps kN s).map (bH s)) k [] h.size I;rw[<-E] at d;let j:∀t,Ok n e t->k.getD (code n t) 0=0->(t∈(l.flatMap λs=>(steps kN s).map (bH s))↔g9 kN S (D+1) t):=by
  ext t f v;let w:∀c,c<=D->¬g9 kN S c t:=λc r q=>by have:=(h.val t c f).2 ⟨q,r⟩;cbv
  rw[p];walk
  ·ext⟨s,x,g,i,rfl⟩;show⟨.succ g.1 i,λc r L=> ?_⟩;let⟨b,hb,m⟩:=FD L;show w b ⋯ m
  ·ext m;show m.pred
 show⟨⟨d.size.trans h.size,λt=> ?_,λt c f=> ?_⟩,?_⟩
 ·rw[d.mem t];walk
  ·lk
  ·ext m;let f:=Walk.ok a u C m.1;let v:k.getD (code n t) 0=0:=by
    cases q:k.getD (code n t) 0 with
    | zero=>rfl
    | succ c=>let⟨o,Q⟩:=(h.val t c f).1 q;have:=o.fn m;lk
   show .inr ⟨(j t f v).2 m,v⟩
 ·rw[d.val t f];cases q:k.getD (code n t) 0 with
  | zero=>
    erw[ne_eq,not_true_eq_false,fF];cases z:g9 kN S (D+1) t
    ·rw[ar ((j t f q).2 z)];walk
     ·lk
     ·ext⟨o,_⟩;have:=z.fn o;cbv
    ·rw[aj λy=>z ((j t f q).1 y)];walk
     ·ext r;cbv
     ·ext⟨o,Q⟩;cases r:c<=D
      ·have:=(h.val t c f).2 ⟨o,r⟩;cbv
      ·lk
  | succ b=>
    let⟨A,T⟩:=(h.val t b f).1 q;erw[ne_eq,Nat.add_one_ne_zero,not_false_eq_true,gq];walk
    ·lk
    ·ext⟨o,_⟩;rw[A.fn o]
 ·have:=d.cnt;simp at this
  cbv
def HC(a:Net kN)(g: ⇑kN=n)(i:∀t,S t->Ok n e t):∀(f D:Nat) (k:Known) (l:Y Place),
 pE kN S n e D k l->(l= []\/n^(e+1)<cnt k+f)->Told kN S n e (flood kN n f (D+1) (k,l))
 | 0,D,k,l,h,b=>by
   obtain rfl| b:=b
   ·show h.end_
   ·have:=abA k;rw[h.size] at this;lk
 | f+1,D,k,l,h,b=>by
   delta flood;cases c:l= []
   ·subst c;erw[List.isEmpty_nil,gq];show h.end_
   ·have d:l.isEmpty=false:=by cases l with
     | nil=>show aN B c
     | cons _ _=>rfl
    rw[d];erw[kJ,fF];let⟨m,o⟩:=h.step a g i;show HC a g i f (D+1) _ _ m ?_;obtain b| b:=b
    ·show aN b c
    ·generalize (l.foldl (λ(z:Known×Y Place) (s:Place)=>(steps kN s).foldl (λ(z:Known×Y Place) (x:bV)=>mark n (D+2) z (bH s x)) z) (k, []))=z at*;cases j:z.2= []
     ·show .inl j
     ·right;have:0<⇑z.2:=mK.2 j;lk
end
def told_from(a:Net P.nears)(j: ⇑P.nears=P.count)(f:∀t∈l,Ok P.count e t):
 Told P.nears (λt=>t∈l) P.count e (pricesFrom P e l):=by
 delta pricesFrom;let d:(lJ (P.count^(e+1)) 0:Known).size=P.count^(e+1):=⋯;let b:=vH (n:=P.count) (e:=e) (d:=1) ∅ l (lJ (P.count^(e+1)) 0) [] d f;let g:∀i,(lJ (P.count^(e+1)) 0:Known).getD i 0=0:=by ext i;rw[jo,Eo];split<;>rfl
 have k:∀t,g9 P.nears (λt=>t∈l) 0 t↔t∈l:=by
  ext t;walk
  ·ext⟨m,_⟩;cases m with
   | zero h=>show h
  ·ext h;show⟨.zero h,λc o=>∅⟩
 have F:pE P.nears (λt=>t∈l) P.count e 0 (l.foldl (mark P.count 1) (lJ (P.count^(e+1)) 0, [])).1 (l.foldl (mark P.count 1) (lJ (P.count^(e+1)) 0, [])).2:=by
  show⟨b.size.trans d,λt=> ?_,λt c n=> ?_⟩
  ·rw[b.mem t,k t,g];simp
  ·rw[b.val t n,g];erw[ne_eq,not_true_eq_false,fF];walk
   ·lk
   ·lk
 show HC a j f _ 0 _ _ F (.inr ⋯)
def oP(h:Told a S n e k)(b:Ok n e t):
 aT n k t=J d↔g9 a S d t:=by
 rw[<-h t d b];delta aT;cases k.getD (code n t) 0 with
 | zero=>simp
 | succ c=>simp
def Sz(h:Told a S n e k)(b:Ok n e t):
 aT n k t=ah↔∀d,¬g9 a S d t:=by
 cases q:aT n k t with
 | none=>show⟨λ_ d c=> ?_,λ_=>B⟩;have:=(oP h b).2 c;rw[q] at this;cases this
 | some d=>
   walk
   ·ext h;cases h
   ·ext z;show aN ((oP h b).1 q) (z d)
def told_of(a:Net P.nears)(b: ⇑P.nears=P.count)(e:Nat)(w:Wish):
 Told P.nears (λt=>Ok P.count e t/\di w t=aa) P.count e (pricesOf P e w):=by
 let h:=told_from a b (e:=e) (l:=(places P.count e).filter (di w)) (λt c=>gy.1 (cz.1 c).1);let d:(λt=>t∈(places P.count e).filter (di w))=λt=>Ok P.count e t/\di w t=true:=by funext t;rw[cz,gy]
 rw[d] at h;show h
end
section
def zQ:∀(l:Y d) (k:Nat),(l.zipIdx k).Pairwise (λa b=>a.2<b.2)
 | [],_=>∅
 | a::l,k=>by
   rw[mQ];show gu.2 ⟨λb c=> ?_,zQ l (k+1)⟩;have:=List.le_snd_of_mem_zipIdx c;change k<b.2
   cbv
def BG(a b:Nat):one a b=one b a:=by delta one;rw[Bool.or_comm]
def YQ(a:Nat):one a a=false:=by simp[one]
def touching_sym(a b:Cell):touching a b=touching b a:=by delta touching;rw[BG a.col,BG a.row,BG a.floor,BEq.comm (a:=a.floor),BEq.comm (a:=a.row),BEq.comm (a:=a.col),Bool.and_comm (a.sign== .lift)]
def touching_irr(a:Cell):touching a a=false:=by simp[touching,YQ]
section
variable (P:aW)
def i_: ⇑P.nears=P.count:=by simp[Bu,Plan.count]
def vY:j∈P.nears.getD i []↔∃a b,P.cells[i]? =J a/\P.cells[j]? =J b/\touching a b=true:=by
 delta Bu;rw[dJ,cP];cases h:P.cells[i]? with
 | none=>simp
 | some a=>
   erw[jT,mP,a_,cz];walk
   ·lk
   ·ext⟨f,b,c,d,e⟩;cases c;show⟨(b,j),⟨jO.2 d,e⟩,B⟩
def J_:Net P.nears where
 lt i j h:=by let⟨a,b,_,hb,_⟩:=(vY P).1 h;rw[i_];show(dZ.1 hb).1
 sym i j h:=by let⟨a,b,ha,hb,ht⟩:=(vY P).1 h;show(vY P).2 ⟨b,a,hb,ha,by rw[touching_sym];show ht⟩
 kz i h:=by let⟨a,b,ha,hb,ht⟩:=(vY P).1 h;rw[ha] at hb;cases hb;rw[touching_irr] at ht;cases ht
 asc i:=by
  delta Bu;rw[dJ,cP];cases h:P.cells[i]? with
  | none=>simp
  | some a=>erw[jT,mP];show qh _ (λ_ _ h=>h) ((zQ P.cells 0).filter _)
end
end
section
def uI:∀r:Y bV,iK r r=ak
 | []=>rfl
 | x::r=>by
   have h:shiftBefore x x=false:=by
    cases q:shiftBefore x x with
    | false=>rfl
    | true=>show aN ((qB _ _).1 q) (e8.kz x)
   simp[iK,h,uI r]
def oB:iK (x::r) (y::s)=aa↔e8 x y\/(x=y/\iK r s=aa):=by rw[iK,zI,cn,qB,eU]
def ze:∀{a b c:Y bV},iK a b=aa->iK b c=aa->iK a c=aa
 | [],_,_,h,_=>by simp[iK] at h
 | _::_, [],_,h,_=>by simp[iK] at h
 | _::_,_::_, [],_,h=>by simp[iK] at h
 | x::a,y::b,z::c,e,d=>by
   rw[oB] at*;obtain e| ⟨rfl,e⟩:=e
   ·obtain d| ⟨rfl,d⟩:=d
    ·show .inl (e8.tr _ _ _ e d)
    ·show .inl e
   ·obtain d| ⟨rfl,d⟩:=d
    ·show .inl d
    ·show .inr ⟨B,ze e d⟩
def EY:∀{a b:Y bV},⇑a=⇑b->iK a b=aa\/a=b\/iK b a=aa
 | [], [],_=> .inr (.inl B)
 | [],_::_,h=>∅
 | _::_, [],h=>∅
 | x::a,y::b,h=>by
   obtain q| q| q:=e8.tot x y
   ·show .inl (oB.2 (.inl q))
   ·subst q;obtain r| r| r:=EY (a:=a) (b:=b) ∅
    ·show .inl (oB.2 (.inr ⟨B,r⟩))
    ·show .inr (.inl ∅)
    ·show .inr (.inr (oB.2 (.inr ⟨B,r⟩)))
   ·show .inr (.inr (oB.2 (.inl q)))
def rX:shorter a b=aa↔ ⇑a<⇑b\/(⇑a=⇑b/\iK a b=aa):=by simp[shorter]
def zw(a:Y bV):shorter a a≠true:=by rw[Ne,rX,uI];simp
def Hd(d:shorter a b=aa)(e:shorter b c=aa):shorter a c=true:=by
 rw[rX] at*;obtain d| ⟨f,d⟩:=d
 ·lk
 ·obtain e| ⟨g,e⟩:=e
  ·show .inl ∅
  ·show .inr ⟨∅,ze d e⟩
def Gf(a b:Y bV):shorter a b=aa\/a=b\/shorter b a=true:=by
 rw[rX,rX];obtain h| h| h:=GN ⇑a ⇑b
 ·show .inl (.inl h)
 ·obtain q| q| q:=EY h
  ·show .inl (.inr ⟨h,q⟩)
  ·show .inr (.inl q)
  ·cbv
 ·show .inr (.inr (.inl h))
def FC:∀{l:Y (Y bV)},iO l=ah↔l= []
 | []=>⋯
 | r::l=>by
   erw[iO];split
   ·simp
   ·split<;>simp
def FA:∀{l:Y (Y bV)} {r:Y bV},iO l=J r->r∈l/\∀t∈l,shorter t r≠aa
 | [],_,h=>by simp[iO] at h
 | a::l,r,h=>by
   erw[iO] at h;split at h
   ·rename_i g;have:=FC.1 g;subst this;cases h;show⟨∅,λt c=> ?_⟩;have:t=a:=∅;subst this;show zw t
   ·rename_i b i;let⟨j,f⟩:=FA i;split at h
    ·rename_i d;cases h;show⟨∅,λt c=> ?_⟩;obtain e| c:=cp.1 c
     ·subst e;show λq=>zw _ (Hd q d)
     ·show f t c
    ·rename_i d;cases h;show⟨∅,λt c=> ?_⟩;obtain e| c:=cp.1 c
     ·subst e;show zw _
     ·ext q;obtain z| z| z:=Gf b a
      ·show d z
      ·cbv
      ·show f _ (by assumption) (Hd q z)
def Tb(d:r∈l)(e:∀t∈l,shorter t r≠aa):iO l=J r:=by
 cases q:iO l with
 | none=>rw[FC] at q;subst q;simp at d
 | some b=>
   let⟨a,c⟩:=FA q;obtain z| z| z:=Gf b r
   ·show aN z (e b a)
   ·rw[z]
   ·show aN z (c r d)
section
variable (kN:LL0) (n:Nat) (k:Known)
def k9(d:Nat)(s:Place):Y bV:=(i9 kN s.holes).filter λx=>aT n k (bH s x)==J d
def N7:bV->Y bV->bV
 | a, []=>a
 | a,b::l=>N7 (if shiftBefore b a=aa then b else a) l
def l8(d:Nat)(s:Place):bV:=(k9 kN n k d s).headD ⟨0,0⟩
def x6(d:Nat)(b:Y Place):bV:=match b.map (l8 kN n k d)with
 | []=>⟨0,0⟩
 | a::l=>N7 a l
def J1(d:Nat)(x:bV)(a:Y Place):Y Place:=
 ((a.flatMap λs=>((i9 kN s.holes).filter λy=>y==x).map (bH s))).filter λt=>aT n k t==J d
def v7:Nat->Y Place->Y bV
 | 0,_=> []
 | d+1,a=>x6 kN n k d a::v7 d (J1 kN n k d (x6 kN n k d a) a)
end
def yQ:∀(l:Y bV) (a:bV),N7 a l∈a::l/\∀x∈a::l,¬e8 x (N7 a l)
 | [],a=>⟨by simp[N7],λx d=>by have:x=a:=∅;subst this;show e8.kz _⟩
 | b::l,a=>by
   let⟨f,c⟩:=yQ l (if shiftBefore b a=aa then b else a);let e:N7 a (b::l)=N7 (if shiftBefore b a=aa then b else a) l:=B;rw[e];cases q:shiftBefore b a=aa
   ·rw[ar q] at f c⊢;let q:=(qB _ _).1 q;show⟨∅,λx d=> ?_⟩;obtain z| z:=cp.1 d
    ·subst z;ext y;show c b ∅ (e8.tr _ _ _ q y)
    ·show c x z
   ·rw[aj q] at f c⊢;let q:¬e8 b a:=λz=>q ((qB _ _).2 z);show⟨⋯,λx d=> ?_⟩;obtain z| z:=cp.1 d
    ·subst z;show c _ ∅
    ·obtain z| z:=cp.1 z
     ·subst z;ext y;obtain w| w| w:=e8.tot x a
      ·show q w
      ·cbv
      ·show c a ∅ (e8.tr _ _ _ w y)
     ·show c x ∅
section
variable {kN:LL0} {S:Place->Prop} {n e:Nat} {k:Known}
def oK(a:Net kN):x∈k9 kN n k d s↔x∈steps kN s/\aT n k (bH s x)=J d:=by
 rw[k9,cz,eU,lO,jB];walk
 ·ext⟨⟨b,c,f⟩,g⟩;show⟨⟨f,a.sym _ _ c,b⟩,g⟩
 ·ext⟨⟨b,c,f⟩,g⟩;show⟨⟨f,a.sym _ _ c,b⟩,g⟩
def Pp(a:Net kN):(k9 kN n k d s).Pairwise e8:=(yD a _).filter _
def sf(a:Net kN)(b: ⇑kN=n)(g:∀t,S t->Ok n e t)(T:Told kN S n e k)(c:Ok n e s)(h:aT n k s=J (d+1)):k9 kN n k d s≠ []:=by let⟨y,f,i⟩:=((oP T c).1 h).acw a b g;ext q;have:y∈k9 kN n k d s:=(oK a).2 ⟨f,(oP T (jD a b c f)).2 i⟩;rw[q] at this;simp at this
def ql(b:Net kN)(h:k9 kN n k d s≠ []):
 l8 kN n k d s∈k9 kN n k d s/\∀x∈k9 kN n k d s,¬e8 x (l8 kN n k d s):=by
 delta l8;let f:=Pp (kN:=kN) (n:=n) (k:=k) b (d:=d) (s:=s);cases q:k9 kN n k d s with
 | nil=>show aN q h
 | cons a l=>
   rw[q] at f;let c:=gu.1 f;show⟨∅,λx g=> ?_⟩;obtain z| z:=cp.1 g
   ·subst z;show e8.kz _
   ·ext y;show e8.kz _ (e8.tr _ _ _ (c.1 x z) y)
def vZ(a:Net kN)(b:Ok n e s)(c:aT n k s=J (d+1)):falls kN n k s=k9 kN n k d s:=by delta falls;rw[c,yS a (oQ b.asc)];rfl
def HE(a:aT n k s=J 0):falls kN n k s= []:=by delta falls;rw[a]
def vh(b:Net kN)(c:Ok n e s)(h:k9 kN n k d s≠ []):
 rowBy kN n k (d+1) s=l8 kN n k d s::rowBy kN n k d (bH s (l8 kN n k d s)):=by
 rw[rowBy,yS b (oQ c.asc)];delta l8;have:(i9 kN s.holes).find? (λx=>aT n k (bH s x)==J d)=(k9 kN n k d s).head? :=by rw[k9,GH]
 rw[this];cases q:k9 kN n k d s with
 | nil=>show aN q h
 | cons a l=>rfl
def Ar(a:Net kN)(c: ⇑kN=n)(g:∀t,S t->Ok n e t)(T:Told kN S n e k):∀{d:Nat} {s:Place},Ok n e s->
 aT n k s=J d-> ⇑(rowBy kN n k d s)=d
 | 0,_,_,_=>rfl
 | d+1,s,f,h=>by let b:=sf a c g T f h;rw[vh a f b];let⟨i,_⟩:=ql a b;let⟨j,l⟩:=(oK a).1 i;rw[cX,Ar a c g T (jD a c f j) l]
def qr:
 t∈J1 kN n k d x a↔∃s∈a,x∈k9 kN n k d s/\t=bH s x:=by
 erw[J1,cz,fS,a_,eU];walk
 ·ext⟨⟨s,b,y,⟨c,rfl⟩,rfl⟩,h⟩;show⟨s,b,cz.2 ⟨c,∅⟩,B⟩
 ·ext⟨s,b,f,rfl⟩;let⟨g,i⟩:=cz.1 f;show⟨⟨s,b,x,⟨g,B⟩,B⟩,∅⟩
def Fc(b:Net kN)(u: ⇑kN=n)(C:∀t,S t->Ok n e t)(T:Told kN S n e k):∀(d:Nat) (c:Y Place),c≠ []->
 (∀s∈c,Ok n e s/\aT n k s=J d)->
 (∃s∈c,rowBy kN n k d s=v7 kN n k d c)/\∀s∈c,rowBy kN n k d s=v7 kN n k d c\/iK (v7 kN n k d c) (rowBy kN n k d s)=aa
 | 0,c,i,_=>by let⟨s,f⟩:=List.exists_mem_of_ne_nil c i;show⟨⟨s,f,B⟩,λs _=> .inl B⟩
 | d+1,c,i,j=>by
   have m:∀s∈c,k9 kN n k d s≠ []:=λs f=>sf b u C T (j s f).1 (j s f).2;let h:x6 kN n k d c∈c.map (l8 kN n k d)/\∀y∈c.map (l8 kN n k d),¬e8 y (x6 kN n k d c):=by
    delta x6;cases q:c.map (l8 kN n k d)with
    | nil=>show aN (lF.1 q) i
    | cons a l=>show yQ l a
   generalize E:x6 kN n k d c=x at h;let⟨D,o,H⟩:=a_.1 h.1;let first:∀s∈c,x∈k9 kN n k d s->l8 kN n k d s=x:=by
    ext s f g;let v:=(ql b (m s f)).2 x g;let p:=h.2 _ (Vz f);obtain q| q| q:=e8.tot (l8 kN n k d s) x
    ·show aN q p
    ·show q
    ·show aN q v
   let r:J1 kN n k d x c≠ []:=by apply yM;show qr.2 ⟨D,o,H▸(ql b (m D o)).1,B⟩
   let w:∀t∈J1 kN n k d x c,Ok n e t/\aT n k t=J d:=by ext t A;let⟨s,f,g,rfl⟩:=qr.1 A;let⟨v,p⟩:=(oK b).1 g;show⟨jD b u (j s f).1 v,p⟩
   let⟨⟨t,A,I⟩,L⟩:=Fc b u C T d (J1 kN n k d x c) r w;rw[v7,E];walk
   ·let⟨s,f,g,rfl⟩:=qr.1 A;show⟨s,f,?_⟩;rw[vh b (j s f).1 (m s f),first s f g,I]
   ·ext s f;rw[vh b (j s f).1 (m s f)];let p:=h.2 _ (Vz f);obtain q| q| q:=e8.tot (l8 kN n k d s) x
    ·show aN q p
    ·rw[q];let g:x∈k9 kN n k d s:=q▸(ql b (m s f)).1;obtain z| z:=L (bH s x) (qr.2 ⟨s,f,g,rfl⟩)
     ·show .inl ∅
     ·show .inr (oB.2 (.inr ⟨B,z⟩))
    ·show .inr (oB.2 (.inl q))
def QH(a:Net kN)(l: ⇑kN=n)(m:∀t,S t->Ok n e t)(T:Told kN S n e k){f:Y Place}(u:∀q∈f,Ok n e q)(D:∃q∈f,aT n k q=J d)(h:∀q∈f,∀c,aT n k q=J c->d<=c):
 iO (f.filterMap λq=>(aT n k q).map λc=>rowBy kN n k c q)=J (v7 kN n k d (f.filter λq=>aT n k q==J d)):=by
 let o:(f.filter λq=>aT n k q==J d)≠ []:=by cbv
 let p:∀s∈(f.filter λq=>aT n k q==J d),Ok n e s/\aT n k s=J d:=∅;let⟨⟨s,r,v⟩,x⟩:=Fc a l m T d _ o p;apply Tb
 ·lk
 ·ext t y;let⟨q,g,b⟩:=js.1 y;cases i:aT n k q with
  | none=>rw[i] at b;cases b
  | some c=>
    rw[i,jT] at b;let b:=bu b;let E:=h q g c i;let A:=Ar a l m T (u q g) i;let C: ⇑(v7 kN n k d (f.filter λq=>aT n k q==J d))=d:=by rw[<-v];show Ar a l m T (p s r).1 (p s r).2
    rw[b] at A;rw[Ne,rX];ext(z| ⟨H,j⟩)
    ·lk
    ·have:c=d:=by cbv
     subst this;rw[<-b] at j;obtain w| w:=x q (cz.2 ⟨g,∅⟩)
     ·rw[w,uI] at j;cases j
     ·have:=ze j w;rw[uI] at this;cases this
end
end
section
/---/def wsum(F:Place->Nat):Y (Place×Nat)->Nat
 | []=>0
 | p::l=>p.2*F p.1+wsum F l
def uY(F:Place->Nat):∀l m:Y (Place×Nat),wsum F (l++m)=wsum F l+wsum F m
 | [],m=>by simp[wsum]
 | p::l,m=>by erw[XZ,wsum,uY F l m];lk
def GU:∀{l:Y (Place×Nat)},(∀p∈l,F p.1=G p.1)->wsum F l=wsum G l
 | [],_=>rfl
 | p::l,h=>by erw[wsum];rw[h p ∅,GU λq a=>h q ∅]
section
variable (kN:LL0) (n:Nat) (k:Known)
def B8:Nat->Place->Nat
 | 0,_=>1
 | d+1,s=>((k9 kN n k d s).map λx=>B8 d (bH s x)).sum
end
def JG(F:Place->Nat)(m:Nat):∀(l:Y bV) (s:Place),wsum F (l.map λx=>(bH s x,m))=m*(l.map λx=>F (bH s x)).sum
 | [],_=>by simp[wsum]
 | x::l,s=>by erw[bp,wsum,jX,Ms];rw[JG F m l s]
structure tM(n e:Nat)(z:Known×Y Place):Prop where
 size:z.1.size=n^(e+1)
 nd:z.2.Nodup
 ok:∀t∈z.2,Ok n e t
 pos:∀t,Ok n e t->(t∈z.2↔z.1.getD (code n t) 0≠0)
def As(F:Place->Nat){A:Known}(f:Ok n e t)(d:A.size=n^(e+1)):∀{l:Y Place},l.Nodup->(∀a∈l,Ok n e a)->
 wsum F (l.map λa=>(a,(A.setIfInBounds (code n t) (A.getD (code n t) 0+m)).getD (code n a) 0))=
  wsum F (l.map λa=>(a,A.getD (code n a) 0))+(if t∈l then m*F t else 0)
 | [],_,_=>∅
 | a::l,j,i=>by
   let g:=eR.1 j;let h:code n t<A.size:=d▸pb f;erw[bp,wsum];rw[As F f d g.2 (λb o=>i b ∅),qL h];cases c:a=t
   ·lk
   ·let k:code n a≠code n t:=λz=>c (code_inj (i a ∅) f z);rw[aj k];cases q:t∈l
    ·lk
    ·lk
def RR(h:tM n e z)(d:Ok n e t)(k:m≠0):
 tM n e (addTo n m z t)/\∀F:Place->Nat,wsum F ((addTo n m z t).2.map λa=>(a,(addTo n m z t).1.getD (code n a) 0))=
  wsum F (z.2.map λa=>(a,z.1.getD (code n a) 0))+m*F t:=by
 let⟨A,l⟩:=z;let f:code n t<A.size:=h.size▸pb d;let j:addTo n m (A,l) t=(A.setIfInBounds (code n t) (A.getD (code n t) 0+m),if A.getD (code n t) 0=0 then t::l else l):=B;rw[j];cases q:A.getD (code n t) 0=0
 ·have b:t∉l:=λz=>((h.pos t d).1 z) q;rw[ar q];show⟨⟨by simpa using h.size,eR.2 ⟨b,h.nd⟩,λa g=> ?_,λa g=> ?_⟩,λF=> ?_⟩
  ·obtain z| z:=cp.1 g
   ·show z▸d
   ·show h.ok a z
  ·change a∈t::l↔(A.setIfInBounds (code n t) (A.getD (code n t) 0+m)).getD (code n a) 0≠0;rw[qL f];cases c:a=t
   ·subst c;simp;cbv
   ·let i:code n a≠code n t:=λz=>c (code_inj g d z);rw[aj i,<-h.pos a g];simp[c]
  ·change wsum F ((t::l).map λa=>(a,(A.setIfInBounds (code n t) (A.getD (code n t) 0+m)).getD (code n a) 0))=_;rw[bp,wsum,As F d h.size h.nd h.ok,aj b,qL f,ar B,q];erw[jZ,Lf];show Lg _ _
 ·have b:t∈l:=(h.pos t d).2 q;rw[aj q];show⟨⟨by simpa using h.size,h.nd,h.ok,λa g=> ?_⟩,λF=> ?_⟩
  ·change a∈l↔(A.setIfInBounds (code n t) (A.getD (code n t) 0+m)).getD (code n a) 0≠0;rw[qL f];cases c:a=t
   ·cbv
   ·let i:code n a≠code n t:=λz=>c (code_inj g d z);rw[aj i];show h.pos a g
  ·change wsum F (l.map λa=>(a,(A.setIfInBounds (code n t) (A.getD (code n t) 0+m)).getD (code n a) 0))=_;rw[As F d h.size h.nd h.ok,ar b]
def HN:∀(T:Y (Place×Nat)) (z:Known×Y Place),tM n e z->(∀p∈T,Ok n e p.1/\p.2≠0)->
 tM n e (T.foldl (λz p=>addTo n p.2 z p.1) z)/\
 (∀F:Place->Nat,wsum F ((T.foldl (λz p=>addTo n p.2 z p.1) z).2.map λa=>(a,(T.foldl (λz p=>addTo n p.2 z p.1) z).1.getD (code n a) 0))=
  wsum F (z.2.map λa=>(a,z.1.getD (code n a) 0))+wsum F T)/\
 (∀t,t∈(T.foldl (λz p=>addTo n p.2 z p.1) z).2->t∈z.2\/∃m,(t,m)∈T)
 | [],z,h,_=>⟨h,λF=>by simp[wsum],λt b=> .inl b⟩
 | p::T,z,h,c=>by
   let⟨d,f⟩:=RR h (c p (by simp)).1 (c p (by simp)).2;let⟨g,i,j⟩:=HN T _ d (λq k=>c q (by simp[k]));rw[gU];show⟨g,λF=> ?_,λt b=> ?_⟩
   ·rw[i F,f F];erw[wsum];lk
   ·obtain q| ⟨m,q⟩:=j t b
    ·have:t∈(addTo n p.2 z p.1).2:=q;delta addTo at this;let⟨A,l⟩:=z;simp only at this;split at this
     ·lk
     ·show .inl this
    ·lk
section
variable {kN:LL0} {n e:Nat} {k:Known}
def HM(b:Net kN):∀{l:Y (Place×Nat)},(∀p∈l,Ok n e p.1/\p.2≠0/\aT n k p.1=J (d+1))->∀z:Known×Y Place,
 l.foldl (λ(z:Known×Y Place) (s:Place×Nat)=>(falls kN n k s.1).foldl (λ(z:Known×Y Place) (x:bV)=>addTo n s.2 z (bH s.1 x)) z) z=
  (l.flatMap λs=>(k9 kN n k d s.1).map λx=>(bH s.1 x,s.2)).foldl (λz p=>addTo n p.2 z p.1) z
 | [],_,_=>rfl
 | a::l,c,z=>by let f:=c a ∅;rw[gU,jS,mM,aak,HM b (λp g=>c p ∅),vZ b f.1 f.2.2]
def Ih(F:Place->Nat)(d:Nat):∀l:Y (Place×Nat),wsum F (l.flatMap λs=>(k9 kN n k d s.1).map λx=>(bH s.1 x,s.2))=
 wsum (λs=>((k9 kN n k d s).map λx=>F (bH s x)).sum) l
 | []=>rfl
 | a::l=>by rw[jS,uY,Ih F d l,wsum,JG]
def Tr(a:Net kN)(r: ⇑kN=n)(g:∀p∈l,Ok n e p.1/\p.2≠0/\aT n k p.1=J (d+1)):
 (∀p∈ahead kN n e k l,Ok n e p.1/\p.2≠0/\aT n k p.1=J d)/\
 ∀F:Place->Nat,wsum F (ahead kN n e k l)=wsum (λs=>((k9 kN n k d s).map λx=>F (bH s x)).sum) l:=by
 delta ahead;rw[HM a g];let u:∀i,(lJ (n^(e+1)) 0:Known).getD i 0=0:=by ext i;rw[jo,Eo];split<;>rfl
 have v:tM n e ((lJ (n^(e+1)) 0:Known),([]:Y Place)):=
  ⟨by simp,by simp,λt b=>by simp at b,λt _=>by rw[u];simp⟩
 let w:∀p∈(l.flatMap λs=>(k9 kN n k d s.1).map λx=>(bH s.1 x,s.2)),Ok n e p.1/\p.2≠0:=by ext p c;let⟨s,h,c⟩:=fS.1 c;let⟨x,j,rfl⟩:=a_.1 c;show⟨jD a r (g s h).1 ((oK a).1 j).1,(g s h).2.1⟩
 let⟨o,y,z⟩:=HN _ _ v w;walk
 ·ext p c;let⟨t,b,rfl⟩:=a_.1 c;let f:=o.ok t b;show⟨f,(o.pos t f).1 b,?_⟩;obtain q| ⟨m,q⟩:=z t b
  ·simp at q
  ·let⟨s,h,q⟩:=fS.1 q;let⟨x,j,q⟩:=a_.1 q;let⟨rfl,_⟩:=cq q;show((oK a).1 j).2
 ·ext F;rw[y F,Ih];simp[wsum]
def AU:∀l:Y (Place×Nat),wsum (λ_=>1) l=(l.map λ(s:Place×Nat)=>s.2).sum
 | []=>rfl
 | p::l=>by erw[wsum,bp,jX,AU l,Nat.mul_one]
def ID(a:Net kN)(b: ⇑kN=n):∀(d:Nat) (l:Y (Place×Nat)),(∀p∈l,Ok n e p.1/\p.2≠0/\aT n k p.1=J d)->
 rowsIn kN n e k d l=wsum (B8 kN n k d) l
 | 0,l,_=>by rw[rowsIn,<-AU];rfl
 | d+1,l,c=>by let⟨f,g⟩:=Tr a b c;rw[rowsIn,ID a b d _ f,g];rfl
end
end
def d1(r:LN0):Nat:=r.foldl (λm c=>m||| 2^c) 0
def Fw:∀(r:LN0) (m c:Nat),(r.foldl (λm c=>m||| 2^c) m).testBit c=(m.testBit c|| decide (c∈r))
 | [],m,c=>⋯
 | a::r,m,c=>by
   rw[gU,Fw r,JA,FT];cases h:a=c
   ·subst h;simp
   ·lk
def gY(r:LN0)(c:Nat):(d1 r).testBit c=decide (c∈r):=by rw[d1,Fw];simp
def WV(a:r.Pairwise (·<·))(b:s.Pairwise (·<·))(h:d1 r=d1 s):r=s:=by
 apply s_ a b;ext c;have:=congrArg (λm=>m.testBit c) h;erw[gY] at this;walk
 ·ext q;simpa[q] using this
 ·ext q;simpa[q] using this
def n0(h:LN0)(x:bV):LN0:=putIn x.from_ (h.filter λ(j:Nat)=>j !=x.to_)
def SK(a:x.from_∉h)(b:x.to_∈h):d1 (n0 h x)=d1 h^^^2^x.from_^^^2^x.to_:=by
 apply uD;ext c;rw[zJ,zJ,gY,gY,FT,FT];let e:(c∈n0 h x)↔(c=x.from_\/(c∈h/\c≠x.to_)):=by simp[n0,qE,cz]
 cases d:c=x.from_
 ·lk
 ·lk
/---/def rowsOf(n e:Nat):LL0:=picks e (bR n)
def iZ:h∈rowsOf n e↔h.Pairwise (·<·)/\ ⇑h=e/\∀c∈h,c<n:=by
 rw[rowsOf,nr];walk
 ·ext⟨a,b⟩;show⟨jQ.sublist a,b,λc d=>dR.1 (a.subset d)⟩
 ·ext⟨a,b,f⟩;show⟨qz jQ a λc d=>dR.2 (f c d),b⟩
def zy:∀(k:Nat) (l:LN0),l.Nodup->(picks k l).Nodup
 | 0,l,_=>by simp[picks]
 | k+1, [],_=>by simp[picks]
 | k+1,a::l,h=>by
   let b:=eR.1 h;rw[picks,rP];show⟨?_,zy (k+1) l b.2,?_⟩
   ·show qh _ ?_ (zy k l b.2);ext x y c e;show c (kU e).2
   ·ext x d y f e;subst e;let⟨q,_,rfl⟩:=a_.1 d;show b.1 ((nr.1 f).1.subset ∅)
def mX(n e:Nat):(rowsOf n e).Nodup:=zy e _ rQ
def lh(h:Ok n e s):s.holes∈rowsOf n e:=iZ.2 ⟨h.asc,h.len,h.lt⟩
def wW(a:h∈rowsOf n e)(b:c<n)(d:c∉h):Ok n e ⟨c,h⟩:=
 let⟨f,g,i⟩:=iZ.1 a
 ⟨b,g,f,i,d⟩
def d6(l:Y NN0)(k:Nat):Nat:=(l.lookup k).getD 0
/---/def putN(l:Y NN0)(k v:Nat):Y NN0:=
 if(l.any λp=>p.1==k)=aa then l.map λp=>if p.1=k then(p.1,v)else p else l++ [(k,v)]
def lookup_none{l:Y NN0}:l.lookup k=ah↔∀p∈l,p.1≠k:=⋯
def lookup_append_none{l m:Y NN0}{k:Nat}(h:l.lookup k=ah):(l++m).lookup k=m.lookup k:=⋯
def aeH{l m:Y NN0}{k v:Nat}(h:l.lookup k=J v):(l++m).lookup k=J v:=⋯
def SS{l:Y NN0}{k v j:Nat}:(l.map λp=>if p.1=k then(p.1,v)else p).lookup j=if j=k then(l.lookup j).map λ_=>v else l.lookup j:=by
 induction l with
 | nil=>simp
 | cons a l b=>lk
def Kx(l:Y NN0)(k v j:Nat):d6 (putN l k v) j=if j=k then v else d6 l j:=by
 delta d6 putN;cases h:(l.any λp=>p.1==k)=aa
 ·rw[ar h,SS];cases a:j=k
  ·subst a;rw[ar B,ar B];cases q:l.lookup j with
   | none=>lk
   | some _=>rfl
  ·rw[aj a,aj a]
 ·lk
structure Dict(m:Nat)(l:Y NN0):Prop where
 nd:(l.map (·.1)).Nodup
 nz:∀p∈l,p.2≠0
 lt:∀p∈l,p.1<m
def Dict.put(h:Dict m l)(i:k<m)(f:v≠0):Dict m (putN l k v):=by
 delta putN;cases q:(l.any λp=>p.1==k)=aa
 ·rw[ar q];show⟨?_,λp c=> ?_,λp c=> ?_⟩
  ·have:(l.map λp=>if p.1=k then(p.1,v)else p).map (·.1)=l.map (·.1):=by rw[bS];apply iV;ext p _;erw[gk];split<;>rfl
   rw[this];show h.nd
  ·let⟨a,d,rfl⟩:=a_.1 c;split
   ·show f
   ·show h.nz a d
  ·let⟨a,d,rfl⟩:=a_.1 c;split
   ·show h.lt a d
   ·show h.lt a d
 ·rw[aj q];show⟨?_,λp c=> ?_,λp c=> ?_⟩
  ·rw[fB,rP];show⟨h.nd,⋯,λa d b g e=> ?_⟩;let g:b=k:=∅;let⟨p,c,n⟩:=a_.1 d;show q (iC.2 ⟨p,c,⋯⟩)
  ·obtain z| z:=dc.1 c
   ·show h.nz p z
   ·cbv
  ·obtain z| z:=dc.1 c
   ·show h.lt p z
   ·cbv
def Dict.mem(h:Dict m l)(b:p∈l):d6 l p.1=p.2:=by
 delta d6;let c:=h.nd;clear h;induction l with
 | nil=>simp at b
 | cons a l d=>lk
def Ky(h:d6 l k≠0):(k,d6 l k)∈l:=by
 delta d6 at*;induction l with
 | nil=>simp at h
 | cons a l b=>lk
def l6(a st b:Nat):Nat:=if a.testBit st then a^^^2^st^^^2^b else a
def o3(z:LN0×Y NN0)(q:Nat×Nat×NN0):LN0×Y NN0:=
 if l6 q.1 q.2.1 q.2.2.1 &&& z.1.getD q.2.2.2 0=0 then z
 else(z.1.set q.2.2.2 (z.1.getD q.2.2.2 0-(l6 q.1 q.2.1 q.2.2.1 &&& z.1.getD q.2.2.2 0)),putN z.2 q.2.2.2 (d6 z.2 q.2.2.2||| (l6 q.1 q.2.1 q.2.2.1 &&& z.1.getD q.2.2.2 0)))
/---/def tasks(a:Y (Y (Nat×NN0)))(b:Y NN0):Y (Nat×Nat×NN0):=
 b.flatMap λp=>(a.getD p.1 []).map λs=>(p.2,s)
def u1(a:Y (Y (Nat×NN0)))(b:Y NN0)(u:LN0):LN0×Y NN0:=
 (tasks a b).foldl o3 (u, [])
def Ga(m:Nat):∀n:Nat,(m^^^n)+2*(m &&& n)=m+n:=xB.Eu m
def sub_eq_xor{a b:Nat}(h:∀c,b.testBit c=aa->a.testBit c=aa):a-b=a^^^b:=by
 have d:(a^^^b) &&& b=0:=by
  apply uD;ext i;rw[mS,zJ,Nat.zero_testBit];cases e:b.testBit i with
  | false=>simp
  | true=>simp[h i e]
 let f:(a^^^b)^^^b=a:=⋯;have:=Ga (a^^^b) b;rw[f,d] at this;lk
def u_{a b:Nat}(h:∀c,b.testBit c=aa->a.testBit c=aa)(c:Nat):(a-b).testBit c=(a.testBit c && !b.testBit c):=by
 rw[sub_eq_xor h,zJ];cases d:b.testBit c with
 | false=>simp
 | true=>simp[h c d]
def Uc{a b:Nat}(h:∀c,b.testBit c=aa->a.testBit c=aa)(f:b≠0):a-b<a:=by
 have:b<=a:=by
  have e:=sub_eq_xor h;let s:=Ga a b;let d:a &&& b=b:=by
   apply uD;ext i;rw[mS];cases q:b.testBit i with
   | false=>simp
   | true=>simp[h i q]
  rw[d] at s;lk
 grind
def Fb{l:LN0}(a:i<⇑l):(l.set i v).getD j 0=if j=i then v else l.getD j 0:=⋯
structure tG(u0:LN0)(T:Y (Nat×Nat×NN0))(u:LN0)(uo:Y NN0):Prop where
 len: ⇑u=⇑u0
 dict:Dict ⇑u0 uo
 new:∀i c,(d6 uo i).testBit c=aa↔(u0.getD i 0).testBit c=aa/\∃q∈T,q.2.2.2=i/\(l6 q.1 q.2.1 q.2.2.1).testBit c=aa
 left:∀i c,(u.getD i 0).testBit c=((u0.getD i 0).testBit c && !(d6 uo i).testBit c)
 sum:uo≠ []->u.sum<u0.sum
 same:uo= []->u=u0
def Ha:∀{l:LN0} {i v:Nat},i<⇑l->v<l.getD i 0->(l.set i v).sum<l.sum
 | [],_,_,h,_=>∅
 | a::l,0,v,_,h=>∅
 | a::l,i+1,v,h,b=>by have:=Ha (l:=l) (i:=i) (v:=v) ∅ ∅;simp;cbv
def Gd{k:LN0}:∀(T D:Y (Nat×Nat×NN0)) (u:LN0) (a:Y NN0),tG k D u a->(∀q∈T,q.2.2.2<⇑k)->
 tG k (D++T) (T.foldl o3 (u,a)).1 (T.foldl o3 (u,a)).2
 | [],D,u,a,h,_=>∅
 | q::T,D,u,a,h,n=>by
   rw[gU];let t:=n q ∅;let v:D++q::T=(D++ [q])++T:=⋯;rw[v];let l:tG k (D++ [q]) (o3 (u,a) q).1 (o3 (u,a) q).2:=by
    delta o3;simp only;cases z:l6 q.1 q.2.1 q.2.2.1 &&& u.getD q.2.2.2 0=0
    ·rw[ar z];show⟨h.len,h.dict,λi c=> ?_,h.left,h.sum,h.same⟩;rw[h.new i c];walk
     ·ext⟨d,r,b,f,g⟩;show⟨d,r,∅,f,g⟩
     ·ext⟨d,r,b,f,g⟩;obtain b| b:=dc.1 b
      ·show⟨d,r,b,f,g⟩
      ·have:r=q:=by simpa using b
       subst this;let w:(l6 r.1 r.2.1 r.2.2.1 &&& u.getD r.2.2.2 0).testBit c=false:=∅;rw[mS,g,oI,f,h.left i c,d,oI] at w;have:=(h.new i c).1 ∅;show this
    ·rw[aj z];simp only;let o:q.2.2.2<⇑u:=⋯;let sub:∀c,(l6 q.1 q.2.1 q.2.2.1 &&& u.getD q.2.2.2 0).testBit c=aa->(u.getD q.2.2.2 0).testBit c=true:=⋯;let m:d6 a q.2.2.2||| (l6 q.1 q.2.1 q.2.2.1 &&& u.getD q.2.2.2 0)≠0:=∅
     show⟨by rw[jU];show h.len,h.dict.put t m,λi c=> ?_,λi c=> ?_,λ_=> ?_,λe=> ?_⟩
     ·rw[Kx];cases j:i=q.2.2.2
      ·subst j;rw[ar B,JA,mS,zI,cn,h.new,h.left,cn];walk
       ·ext(⟨d,r,b,f,g⟩| ⟨d,f,_⟩)
        ·lk
        ·lk
       ·ext⟨d,r,b,f,g⟩;obtain b| b:=dc.1 b
        ·lk
        ·have:r=q:=by simpa using b
         subst this;cases x:(d6 a r.2.2.2).testBit c with
         | true=>show .inl ((h.new _ c).1 x)
         | false=>show .inr ⟨g,d,B⟩
      ·rw[aj j,h.new];walk
       ·ext⟨d,r,b,f,g⟩;show⟨d,r,∅,f,g⟩
       ·lk
     ·rw[Kx,Fb o];cases j:i=q.2.2.2
      ·subst j;rw[ar B,ar B,u_ sub,JA,mS,h.left];cases(k.getD q.2.2.2 0).testBit c<;>cases(d6 a q.2.2.2).testBit c<;>cases(l6 q.1 q.2.1 q.2.2.1).testBit c<;>rfl
      ·rw[aj j,aj j,h.left]
     ·let d:=Ha o (Uc sub z);cases p:a= []
      ·have:=h.same p;rw[this] at d⊢;show d
      ·have:=h.sum p;lk
     ·exfalso;delta putN at e;split at e
      ·rename_i s;have:a= []:=lF.1 e;rw[this] at s;simp at s
      ·simp at e
   show Gd T (D++ [q]) _ _ l λr b=>n r ∅
def Pw(h:∀q∈tasks a b,q.2.2.2<⇑u):
 tG u (tasks a b) (u1 a b u).1 (u1 a b u).2:=by
 have f:tG u [] u []:=by
  show⟨B,⟨by simp,λp d=>by simp at d,λp d=>by simp at d⟩,λi c=> ?_,λi c=> ?_,λe=>aN B e,λ_=>B⟩
  ·simp[d6]
  ·simp[d6]
 show Gd (tasks a b) [] u [] f h
section
def i8(a:LL0)(n e:Nat):Y (Y (Nat×NN0)):=
 (rowsOf n e).map λh=>(i9 a h).map λx=>(x.from_,x.to_,(rowsOf n e).idxOf (n0 h x))
def GY{a st b c:Nat}(f:a.testBit b=ak)(e:st≠b):
 (l6 a st b).testBit c=aa↔∃d,a.testBit d=aa/\c=if d=st then b else d:=by
 delta l6;cases h:a.testBit st=aa
 ·lk
 ·lk
structure mF(kN:LL0)(S:Place->Prop)(n e d:Nat)(u:LN0)(fZ:Y NN0):Prop where
 len: ⇑u=⇑(rowsOf n e)
 dict:Dict ⇑(rowsOf n e) fZ
 lay:∀i h c,(rowsOf n e)[i]? =J h->((d6 fZ i).testBit c=aa↔g9 kN S d ⟨c,h⟩)
 un:∀i h c,(rowsOf n e)[i]? =J h->((u.getD i 0).testBit c=aa↔Ok n e ⟨c,h⟩/\∀p,p<=d->¬g9 kN S p ⟨c,h⟩)
def ke{b:Type} [BEq b] [LawfulBEq b]{l:Y b}{a:b}(h:a∈l):l[l.idxOf a]? =J a:=⋯
def oW{b:Type} [BEq b] [LawfulBEq b]{l:Y b}(c:l.Nodup){a:b}{i:Nat}(h:l[i]? =J a):l.idxOf a=i:=⋯
section
variable {kN:LL0} {S:Place->Prop} {n e d:Nat} {u:LN0} {fZ:Y NN0}
def vF(l: ⇑kN=n){h:LN0}(b:h∈rowsOf n e){x:bV}(f:x∈i9 kN h):n0 h x∈rowsOf n e:=by
 let⟨g,m,i⟩:=lO.1 f;let⟨a1,a2,a3⟩:=iZ.1 b;let a:x.from_∉h.filter λ(j:Nat)=>j !=x.to_:=λq=>g (cz.1 q).1;show iZ.2 ⟨AL (a1.filter _) a,?_,λc k=> ?_⟩
 ·rw[n0,Ay,rS (oQ a1) i,a2]
 ·obtain q| q:=qE.1 k
  ·lk
  ·cbv
def Ax:q∈tasks (i8 kN n e) fZ↔
 ∃j h x,(rowsOf n e)[j]? =J h/\(j,q.1)∈fZ/\x∈i9 kN h/\q.2=(x.from_,x.to_,(rowsOf n e).idxOf (n0 h x)):=by
 erw[tasks,fS,a_];walk
 ·ext⟨⟨j,c⟩,f,s,a,rfl⟩;delta i8 at a;rw[dJ,cP] at a;cases b:(rowsOf n e)[j]? with
  | none=>rw[b] at a;simp at a
  | some h=>lk
 ·ext⟨j,h,x,b,f,g,i⟩;show⟨(j,q.1),f,q.2,?_,B⟩;delta i8;rw[dJ,cP,b];erw[jT,mP,a_];show⟨x,g,i.symm⟩
def mF.step(a:Net kN)(v: ⇑kN=n)(T:∀t,S t->Ok n e t)(f:mF kN S n e d u fZ):
 mF kN S n e (d+1) (u1 (i8 kN n e) fZ u).1 (u1 (i8 kN n e) fZ u).2/\
 ((u1 (i8 kN n e) fZ u).2≠ []->(u1 (i8 kN n e) fZ u).1.sum<u.sum)/\
 ((u1 (i8 kN n e) fZ u).2= []->(u1 (i8 kN n e) fZ u).1=u):=by
 let ji:∀q∈tasks (i8 kN n e) fZ,q.2.2.2<⇑u:=by ext q C;let⟨j,h,x,l,w,y,e2⟩:=Ax.1 C;rw[e2,f.len];show qc (vF v (cD l) y)
 have Sp:=Pw ji;generalize u1 (i8 kN n e) fZ u=z at Sp⊢;let D:∀i h c,(rowsOf n e)[i]? =J h->((d6 z.2 i).testBit c=aa↔g9 kN S (d+1) ⟨c,h⟩):=by
  ext i h c E;rw[Sp.new i c,f.un i h c E];walk
  ·ext⟨⟨H,DB⟩,q,C,I,hb⟩;let⟨j,l,x,A,w,y,e2⟩:=Ax.1 C;rw[e2] at I hb;simp only at I hb;let afg:=vF v (cD A) y;let hh:h=n0 l x:=⋯;let⟨x1,x2,x3⟩:=lO.1 y;let aeR:d6 fZ j=q.1:=f.dict.mem w;let g:∀k,q.1.testBit k=aa->g9 kN S d ⟨k,l⟩:=λk h0=>(f.lay j l k A).1 ∅;let m:q.1.testBit x.to_=false:=by
    cases o:q.1.testBit x.to_ with
    | false=>rfl
    | true=>show aN x3 (Walk.ok a v T (g _ o).1).ne
   let r:x.from_≠x.to_:=λz=>x1 (z▸x3);let⟨k,h0,hc⟩:=(GY m r).1 hb;let hw:=g k h0;let hxs:x∈steps kN ⟨k,l⟩:=jB.2 ⟨x3,a.sym _ _ x2,x1⟩;let ep:(⟨c,h⟩:Place)=bH ⟨k,l⟩ x:=by rw[hh,hc];rfl
   show⟨ep▸ .succ hw.1 hxs,λb hb hwb=> ?_⟩;let⟨b',jM,Ob⟩:=FD hwb;show DB b' ⋯ Ob
  ·ext w;let H:=Walk.ok a v T w.1;show⟨⟨H,λp hpd C=> ?_⟩,?_⟩
   ·have:=C.fn w;lk
   ·let⟨s,x,hs,y,ep⟩:=w.pred;let L:=Walk.ok a v T hs.1;let Q:=lh L;let A:=ke Q;let g:=(f.lay _ s.holes s.car A).2 ⋯;let hnz:d6 fZ ((rowsOf n e).idxOf s.holes)≠0:=⋯;let⟨y1,y2,y3⟩:=jB.1 y;let hxu:x∈i9 kN s.holes:=lO.2 ⟨y3,a.sym _ _ y2,y1⟩;let hh:h=n0 s.holes x:=by have:=congrArg Place.holes ep;show this
    have hc:c=if s.car=x.from_ then x.to_ else s.car:=congrArg Place.car ep;let m:(d6 fZ ((rowsOf n e).idxOf s.holes)).testBit x.to_=false:=by
     cases o:(d6 fZ ((rowsOf n e).idxOf s.holes)).testBit x.to_ with
     | false=>rfl
     | true=>show aN y1 (Walk.ok a v T ((f.lay _ _ _ A).1 o).1).ne
    let r:x.from_≠x.to_:=λz=>y3 (z▸y1);show⟨(d6 fZ ((rowsOf n e).idxOf s.holes),x.from_,x.to_,(rowsOf n e).idxOf (n0 s.holes x)),Ax.2 ⟨_,s.holes,x,A,Ky hnz,hxu,B⟩,?_,?_⟩
    ·change(rowsOf n e).idxOf (n0 s.holes x)=i;rw[<-hh];show oW (mX n e) E
    ·show(GY m r).2 ⟨s.car,g,hc⟩
 show⟨⟨Sp.len.trans f.len,f.len▸Sp.dict,D,λi h c E=> ?_⟩,Sp.sum,Sp.same⟩;rw[Sp.left i c,cn,f.un i h c E,yY];have:=D i h c E;walk
 ·lk
 ·lk
def mF.end_(a:Net kN)(g: ⇑kN=n)(h:∀t,S t->Ok n e t)(b:mF kN S n e d u []):∀c t,d<=c->¬g9 kN S c t:=by apply LD;ext t i;let f:=Walk.ok a g h i.1;have:=(b.lay _ t.holes t.car (ke (lh f))).2 ⋯;simp[d6] at this
end
def p8(g h:LN0):Nat:=d1 g-(d1 g &&& d1 h)
def qt(g h:LN0)(c:Nat):(p8 g h).testBit c=aa↔c∈g/\c∉h:=by delta p8;rw[u_ (λi d=>∅),mS,gY,gY];cases a:c∈g<;>cases b:c∈h<;>simp[a,b]
def GW(f h:LN0):d1 h &&& d1 f=d1 f↔∀c∈f,c∈h:=by
 walk
 ·ext e c b;have:=congrArg (λm=>m.testBit c) e;simpa[mS,gY,b] using this
 ·ext d;apply uD;ext c;rw[mS,gY,gY];cases a:c∈f
  ·simp[a,d c a]
  ·simp[a]
def C3(n:Nat)(h:LN0):Nat:=2^n-1-d1 h
def zb(a:∀c∈h,c<n)(c:Nat):(C3 n h).testBit c=aa↔c<n/\c∉h:=by
 delta C3;rw[u_,Qs,gY]
 ·cbv
 ·ext i b;rw[gY] at b;rw[Qs];simpa using a i ∅
def j3(g f:LN0)(a:LL0):Y NN0:=
 a.zipIdx.filterMap λp=>if d1 p.1 &&& d1 f=d1 f/\p8 g p.1≠0 then J (p.2,p8 g p.1)else ah
/---/def less(u:LN0)(a:Y NN0):LN0:=a.foldl (λu p=>u.set p.1 (u.getD p.1 0-p.2)) u
def ka:p∈j3 g f a↔∃h,a[p.1]? =J h/\(∀c∈f,c∈h)/\p8 g h≠0/\p.2=p8 g h:=by
 erw[j3,js];walk
 ·ext⟨⟨h,i⟩,e,b⟩;split at b
  ·rename_i d;cases b;show⟨h,jO.1 e,(GW _ _).1 d.1,d.2,B⟩
  ·cases b
 ·ext⟨h,j,k,l,m⟩;show⟨(h,p.1),jO.2 j,?_⟩;rw[ar ⟨(GW _ _).2 k,l⟩,<-m]
def Hw(g f:LN0)(c:LL0):(j3 g f c).Pairwise (λa b=>a.1<b.1):=by
 delta j3;rw[List.pairwise_filterMap];show(zQ c 0).imp ?_;ext a b e x d y h;split at d
 ·lk
 ·cases d
def less_get:∀(a:Y NN0) (u:LN0),(a.map (·.1)).Nodup->(∀p∈a,p.1<⇑u)->
 ⇑(less u a)=⇑u/\∀i,(less u a).getD i 0=u.getD i 0-d6 a i
 | [],u,_,_=>⟨B,λi=>by simp[less,d6]⟩
 | p::a,u,g,j=>by
   rw[bp] at g;let c:=eR.1 g;let k:=j p ∅;let⟨d,l⟩:=less_get a (u.set p.1 (u.getD p.1 0-p.2)) c.2 (λq h=>⋯);show⟨by change ⇑(less _ a)=_;rw[d,jU],λi=> ?_⟩;change(less (u.set p.1 (u.getD p.1 0-p.2)) a).getD i 0=_;rw[l i,Fb k];cases f:i=p.1
   ·subst f;let b:a.lookup p.1=none:=lookup_none.2 λq h e=>c.1 (a_.2 ⟨q,h,e⟩);let m:d6 a p.1=0:=by delta d6;rw[b];rfl
    let d:d6 (p::a) p.1=p.2:=by cbv
    rw[ar B,m,d,vB]
   ·rw[aj f];let n:(i==p.1)=false:=kI.2 f;let d:d6 (p::a) i=d6 a i:=by delta d6;rw[show(p::a).lookup i=a.lookup i from ⋯]
    rw[d]
def Vo(L:∀c∈g,c<n):
 mF kN (λt=>Ok n e t/\di ⟨g,f⟩ t=aa) n e 0 (less ((rowsOf n e).map (C3 n)) (j3 g f (rowsOf n e))) (j3 g f (rowsOf n e)):=by
 let C:((j3 g f (rowsOf n e)).map (·.1)).Nodup:=by show qh _ ?_ (Hw g f (rowsOf n e));ext a b h;show cK h
 let E:∀p∈j3 g f (rowsOf n e),p.1<⇑(rowsOf n e):=by ext p l;let⟨h,s,_⟩:=ka.1 l;show(dZ.1 s).1
 have D:Dict ⇑(rowsOf n e) (j3 g f (rowsOf n e)):=⟨C,λp l=>by let⟨h,_,_,v,Q⟩:=ka.1 l;rw[Q];show v,E⟩;let⟨T,l2⟩:=less_get (j3 g f (rowsOf n e)) ((rowsOf n e).map (C3 n)) C (λp l=>by simpa using E p l);let H:∀t:Place,g9 kN (λt=>Ok n e t/\di ⟨g,f⟩ t=aa) 0 t↔Ok n e t/\di ⟨g,f⟩ t=true:=by
  ext t;walk
  ·ext⟨hw,_⟩;cases hw with
   | zero h=>show h
  ·ext h;show⟨.zero h,λc hc=>by cbv⟩
 let m:∀(c:Nat) (h:LN0),di ⟨g,f⟩ ⟨c,h⟩=aa↔c∈g/\∀k∈f,k∈h:=by ext c h;simp[di]
 have o:∀i h c,(rowsOf n e)[i]? =J h->((d6 (j3 g f (rowsOf n e)) i).testBit c=aa↔g9 kN (λt=>Ok n e t/\di ⟨g,f⟩ t=aa) 0 ⟨c,h⟩):=by
  ext i h c q;rw[H,m];let d:=cD q;walk
  ·ext j;let r:d6 (j3 g f (rowsOf n e)) i≠0:=by ext z;rw[z] at j;simp at j
   let⟨h',w,e2,e3,I⟩:=ka.1 (Ky r);simp only at w I;rw[q] at w;cases w;rw[I,qt] at j;show⟨wW d (L c j.1) j.2,j.1,e2⟩
  ·ext⟨x,y,hf⟩;let j:(p8 g h).testBit c=true:=(qt _ _ _).2 ⟨y,x.ne⟩;let r:p8 g h≠0:=by ext z;rw[z] at j;simp at j
   let hm:(i,p8 g h)∈j3 g f (rowsOf n e):=ka.2 ⟨h,q,hf,r,B⟩;rw[D.mem hm];show j
 show⟨by rw[T];simp,D,o,λi h c q=> ?_⟩;let d:=cD q;let hu:((rowsOf n e).map (C3 n)).getD i 0=C3 n h:=by cbv
 let u:∀k,(d6 (j3 g f (rowsOf n e)) i).testBit k=aa->(C3 n h).testBit k=true:=by ext k hk;have:=Walk.ok (kN:=kN) (n:=n) (e:=e) (S:=λt=>Ok n e t/\di ⟨g,f⟩ t=aa);let l:=(H _).1 ((o i h k q).1 hk);show(zb (iZ.1 d).2.2 k).2 ⟨l.1.car,l.1.ne⟩
 rw[l2 i,hu,u_ u,cn,zb (iZ.1 d).2.2,yY];walk
 ·ext⟨⟨s,A⟩,v⟩;show⟨wW d s A,λp l hq=> ?_⟩;have:p=0:=by cbv
  subst this;rw[(o i h c q).2 hq] at v;cases v
 ·ext⟨s,A⟩;show⟨⟨s.car,s.ne⟩,?_⟩;cases j:(d6 (j3 g f (rowsOf n e)) i).testBit c with
  | false=>rfl
  | true=>show aN ((o i h c q).1 j) (A 0 (br _))
end
def o5(m k:Nat):LN0:=(bR k).filter λc=>m.testBit c
def u4(b:Y Int)(a:LN0)(d:Int):Y Int:=a.foldl (λr c=>r.set c d) b
def n1(b:Nat->Nat)(c:Y (Y Int))(a:Y NN0)(d:Int):Y (Y Int):=
 a.foldl (λc p=>c.set p.1 (u4 (c.getD p.1 []) (o5 p.2 (b p.2)) d)) c
def vg:∀(a:LN0) (b:Y Int) (d:Int),⇑(u4 b a d)=⇑b
 | [],_,_=>rfl
 | c::a,b,d=>by change ⇑(u4 (b.set c d) a d)=_;rw[vg a,jU]
def QG{l:Y Int}{i j:Nat}{v z:Int}(a:i<⇑l):(l.set i v).getD j z=if j=i then v else l.getD j z:=⋯
def Hf:∀(b:LN0) (e:Y Int) (d:Int) (j:Nat),(∀c∈b,c<⇑e)->(u4 e b d).getD j 0=if j∈b then d else e.getD j 0
 | [],_,_,_,_=>by simp[u4]
 | c::b,e,d,j,h=>by
   change(u4 (e.set c d) b d).getD j 0=_;rw[Hf b _ d j (λa g=>∅),QG (h c ∅)];cases f:j∈b
   ·simp[f]
   ·cbv
def yT{l:Y (Y Int)}(a:i<⇑l):(l.set i v).getD j []=if j=i then v else l.getD j []:=⋯
def EX{b:Nat->Nat}(w:∀m c,m.testBit c=aa->c<b m){n:Nat}{d:Int}:∀(a:Y NN0) (f:Y (Y Int)),(a.map (·.1)).Nodup->(∀p∈a,p.1<⇑f/\∀c,p.2.testBit c=aa->c<n)->
 (∀i,i<⇑f-> ⇑(f.getD i [])=n)->
 ⇑(n1 b f a d)=⇑f/\(∀i,i<⇑f-> ⇑((n1 b f a d).getD i [])=n)/\
 ∀i c,((n1 b f a d).getD i []).getD c 0=if(d6 a i).testBit c=aa then d else(f.getD i []).getD c 0
 | [],f,_,_,o=>⟨B,o,λi c=>by simp[n1,d6]⟩
 | p::a,f,x,y,o=>by
   rw[bp] at x;let r:=eR.1 x;let⟨j,s⟩:=y p ∅;let g:∀c∈o5 p.2 (b p.2),c<⇑(f.getD p.1 []):=by ext c k;rw[o p.1 j];show s c (cz.1 k).2
   obtain⟨I,A,C⟩:=EX w a (f.set p.1 (u4 (f.getD p.1 []) (o5 p.2 (b p.2)) d)) r.2
    (λq t=>by rw[jU];show y q (by simp[t])) (λi h=>by
     rw[jU] at h;rw[yT j];cases e:i=p.1
     ·subst e;rw[ar B,vg];show o _ h
     ·rw[aj e];show o i h)
   let D:n1 b f (p::a) d=n1 b (f.set p.1 (u4 (f.getD p.1 []) (o5 p.2 (b p.2)) d)) a d:=B;rw[D];show⟨⋯,λi h=>A i ∅,λi c=> ?_⟩;rw[C i c,yT j];cases h:i=p.1
   ·subst h;let l:a.lookup p.1=none:=lookup_none.2 λq t e=>r.1 (a_.2 ⟨q,t,e⟩);let E:d6 a p.1=0:=by delta d6;rw[l];rfl
    let u:d6 (p::a) p.1=p.2:=by delta d6;rw[show(p::a).lookup p.1=J p.2 from ⋯];rfl
    rw[E,u,aj ⋯,ar B,Hf _ _ _ _ g];cases k:p.2.testBit c=aa
    ·let v:c∈o5 p.2 (b p.2):=cz.2 ⟨dR.2 (w _ _ k),k⟩;rw[ar k,ar v]
    ·let v:¬c∈o5 p.2 (b p.2):=λz=>k (cz.1 z).2;rw[aj k,aj v]
   ·let H:(i==p.1)=false:=kI.2 h;let u:d6 (p::a) i=d6 a i:=by delta d6;rw[show(p::a).lookup i=a.lookup i from ⋯]
    rw[u,aj h]
structure nR(kN:LL0)(S:Place->Prop)(n e d:Nat)(ps:Y (Y Int)):Prop where
 len: ⇑ps=⇑(rowsOf n e)
 row:∀i,i<⇑ps-> ⇑(ps.getD i [])=n
 val:∀i h c,(rowsOf n e)[i]? =J h->c<n->(∃p,p<d/\g9 kN S p ⟨c,h⟩/\(ps.getD i []).getD c 0=(p:Int))\/((∀p,p<d->¬g9 kN S p ⟨c,h⟩)/\(ps.getD i []).getD c 0= -1)
def QA:nR kN S n e 0 ((rowsOf n e).map λ_=>de n (-1)):=by
 show⟨⋯,λi a=> ?_,λi h c a b=> .inr ⟨λp f=>by cbv,?_⟩⟩
 ·cbv
 ·let d:((rowsOf n e).map λ_=>de n (-1:Int)).getD i []=de n (-1):=by cbv
  rw[d];simp[b]
def nR.step(w:∀m c,m.testBit c=aa->c<bits m)(a:Net f)(x: ⇑f=n)(y:∀t,S t->Ok n e t)(h:nR f S n e d r)(b:mF f S n e d u j):nR f S n e (d+1) (n1 bits r j d):=by
 let A:∀p∈j,p.1<⇑r/\∀c,p.2.testBit c=aa->c<n:=by ext p k;let l:=b.dict.lt p k;show⟨by rw[h.len];show l,λc s=> ?_⟩;let C:(rowsOf n e)[p.1]? =J (rowsOf n e)[p.1]:=cW l;show(Walk.ok a x y ((b.lay p.1 _ c C).1 (by rw[b.dict.mem k];show s)).1).car
 let⟨l,D,E⟩:=EX (d:=(d:Int)) w j r b.dict.nd A h.row;show⟨l.trans h.len,λi o=>D i ∅,λi g c o s=> ?_⟩;rw[E i c];cases q:(d6 j i).testBit c=aa
 ·rw[ar q];show .inl ⟨d,∅,(b.lay i g c o).1 q,B⟩
 ·rw[aj q];let I:¬g9 f S d ⟨c,g⟩:=λz=>q ((b.lay i g c o).2 z);obtain⟨p,k,v,H⟩| ⟨k,v⟩:=h.val i g c o s
  ·lk
  ·lk
def X8(n e:Nat)(a:Y (Y Int))(t:Place):Int:=(a.getD ((rowsOf n e).idxOf t.holes) []).getD t.car 0
def nR.at_(h:nR a S n e d m)(b:∀c t,d<=c->¬g9 a S c t)(T:Told a S n e k)(g:Ok n e t):
 X8 n e m t=bq (aT n k t):=by
 delta X8;let o:=ke (lh g);obtain⟨p,l,f,i⟩| ⟨l,f⟩:=h.val _ t.holes t.car o g.car
 ·rw[i,(oP T g).2 ⋯];rfl
 ·rw[f,(Sz T g).2 λc q=> ?_]
  ·rfl
  ·cases j:c<d
   ·show l c j ⋯
   ·show b c _ ∅ q
section
inductive Reach(kN:LL0):Nat->Nat->Prop
 | zero:Reach kN 0 0
 | succ {d i j:Nat}:Reach kN d i->j∈kN.getD i []->Reach kN (d+1) j
def r6(a:LL0)(d i:Nat):Prop:=Reach a d i/\∀c,c<d->¬Reach a c i
section
variable {kN:LL0}
def MX(h:Reach kN d i):∃c,c<=d/\r6 kN c i:=by
 induction d using Ie with
 | _ d e=>
   cases q:∃c,c<d/\Reach kN c i
   ·lk
   ·show⟨d,br _,h,λc a b=>q ⟨c,a,b⟩⟩
def r6.fn(h:r6 kN c i)(a:r6 kN d i):c=d:=by
 obtain q| q| q:=GN c d
 ·show aN h.1 (a.2 c q)
 ·show q
 ·show aN a.1 (h.2 d q)
def r6.pred(h:r6 kN (d+1) j):∃i,r6 kN d i/\j∈kN.getD i []:=by
 let⟨a,e⟩:=h;generalize g:d+1=D at a;cases a with
 | zero=>cbv
 | succ a b=>rename_i f i;have:f=d:=∅;subst this;show⟨i,⟨a,λc k q=>e (c+1) ∅ (.succ q b)⟩,b⟩
def iG:∀{n:Nat} {l:LN0},l.Nodup->(∀x∈l,x<n)-> ⇑l<=n
 | 0,l,_,h=>by
   cases l with
   | nil=>simp
   | cons a l=>have:=h a ∅;cbv
 | n+1,l,b,h=>by
   cases q:n∈l
   ·let d:=rS b q;let e:=iG (n:=n) (l:=l.filter λk=>k !=n) (b.filter _) λx c=>⋯;lk
   ·have:=iG (n:=n) b λx c=>by lk
    cbv
def r6.lt(a:Net kN)(b:0<⇑kN)(h:Reach kN d i):i<⇑kN:=by
 cases h with
 | zero=>show b
 | succ _ c=>show a.lt _ _ c
def r6.bound(a:Net kN)(k:0<⇑kN)(h:r6 kN d i):d<⇑kN:=by
 have:∀d i,r6 kN d i->∃l:List Nat,⇑l=d+1/\l.Nodup/\∀x∈l,x<⇑kN/\∃c,c<=d/\r6 kN c x:=by
  ext d;induction d with
  | zero=>ext i h;exact⟨[i],rfl,by simp,fun x b=>by have:x=i:=by simpa using b
                                                    subst this;show⟨r6.lt a k h.1,0,br _,h⟩⟩
  | succ d n=>
    ext i h;let⟨j,o,_⟩:=h.pred;let⟨l,m,f,g⟩:=n j o;show⟨i::l,by simp[m],eR.2 ⟨λp=> ?_,f⟩,λx b=> ?_⟩
    ·let⟨_,c,r,q⟩:=g i p;have:=q.fn h;lk
    ·obtain e| b:=cp.1 b
     ·subst e;show⟨r6.lt a k h.1,d+1,br _,h⟩
     ·lk
 let⟨l,m,f,g⟩:=this d i h;have:=iG f λx b=>(g x b).1;lk
def S1(kN:LL0)(d:Nat)(a:Y (az Nat)):Prop:=
 ⇑a=⇑kN/\∀i c,i<⇑kN->(a.getD i ah=J c↔r6 kN c i/\c<=d)
def Wg(a:Net kN)(u:0<⇑kN)(h:S1 kN d e):S1 kN (d+1) (round kN (λ_=>aa) d e):=by
 let⟨v,s⟩:=h;delta round;show⟨by simp[v],λi c w=> ?_⟩;let f:i<⇑e:=∅;rw[dJ,cP,yw,cW f];let x:e.getD i ah=e[i]:=by rw[dJ,cW f];rfl
 erw[jT,mP,jZ];let g:=s i;rw[x] at g;cases q:e[i] with
 | some b=>
   let⟨n,y⟩:=(g b w).1 q;erw[EW];walk
   ·lk
   ·ext⟨A,_⟩;show n.fn A
 | none=>
   have o:∀c,c<=d->¬r6 kN c i:=λc H l=>⋯;let t:((kN.getD i []).any λ(j:Nat)=>e.getD j ah==J d)=aa↔r6 kN (d+1) i:=by
    rw[iC];walk
    ·ext⟨j,m,I⟩;let k:=a.lt _ _ m;let p:=(s j d k).1 ⋯;show⟨.succ p.1.1 (a.sym _ _ m),λb L C=> ?_⟩;let⟨D,E,l⟩:=MX C;show o D ⋯ l
    ·ext l;let⟨j,m,r⟩:=l.pred;let k:=r6.lt a u m.1;show⟨j,a.sym _ _ r,∅⟩
   erw[true_and];cases z:((kN.getD i []).any λ(j:Nat)=>e.getD j ah==J d)=aa
   ·lk
   ·lk
def IF(a:Net kN)(c:0<⇑kN):∀(k d:Nat) (b:Y (az Nat)),S1 kN d b->S1 kN (d+k) (rounds kN (λ_=>aa) k d b)
 | 0,d,b,h=>h
 | k+1,d,b,h=>by have:=IF a c k (d+1) _ (Wg a c h);rw[show d+(k+1)=d+1+k by lk];show this
end
def TR(P:aW)(s:0<P.count):P.whole=aa↔∀i,i<P.count->∃d,Reach P.nears d i:=by
 have a:=J_ P;let t:=i_ P;let b:0<⇑P.nears:=∅;delta Plan.whole Plan.far farOver;let start:S1 P.nears 0 ((bR ⇑P.nears).map λ(k:Nat)=>if [0].contains k=aa then J 0 else ah):=by
  show⟨⋯,λi c f=> ?_⟩;rw[dJ,cP,yI f];erw[jT,mP,yO,GI,vd,eU];cases e:i=0
  ·subst e;erw[gq,EW];walk
   ·ext rfl;show⟨⟨.zero,λc n=>∅⟩,br _⟩
   ·ext⟨_,h⟩;cbv
  ·rw[aj e];walk
   ·ext h;cases h
   ·ext⟨h,n⟩;have:c=0:=∅;subst this;cases h.1;show aN B e
 let⟨o,j⟩:=IF a b ⇑P.nears 0 _ start;rw[eQ];walk
 ·ext h i f;let g:i<(rounds P.nears (λ_=>aa) ⇑P.nears 0 ((bR ⇑P.nears).map λ(k:Nat)=>if [0].contains k=aa then J 0 else ah)).length:=∅;let l:=h _ (rR g);cases q:(rounds P.nears (λ_=>aa) ⇑P.nears 0 ((bR ⇑P.nears).map λ(k:Nat)=>if [0].contains k=aa then J 0 else ah))[i] with
  | none=>rw[q] at l;cases l
  | some c=>have:=(j i c ∅).1 (by rw[dJ,cW g,q];rfl);show⟨c,this.1.1⟩
 ·ext h x p;let⟨i,f,e⟩:=rK.1 p;rw[o] at f;let⟨d,r⟩:=h i ∅;let⟨c,_,m⟩:=MX r;let u:=m.bound a b;have:=(j i c f).2 ⟨m,⋯⟩;rw[dJ,cW ∅,e] at this;rw[show x=J c from this];rfl
structure Cn(kN:LL0)(qQ waiting:LN0):Prop where
 nd:qQ.Nodup
 zero:0∈qQ
 sound:∀i∈qQ,∃d,Reach kN d i
 sub:∀i∈waiting,i∈qQ
 closed:∀i∈qQ,i∈waiting\/∀j∈kN.getD i [],j∈qQ
def Cn.all(W:Cn b a [])(i:Nat):i∈a↔∃d,Reach b d i:=by
 show⟨W.sound i,?_⟩;ext⟨d,h⟩;induction h with
 | zero=>show W.zero
 | succ _ c e=>
   obtain q| q:=W.closed _ e
   ·simp at q
   ·show q _ c
def sub_len:∀{m l:LN0},l.Nodup->m.Nodup->(∀x∈m,x∈l)-> ⇑m<= ⇑l
 | [],_,_,_,_=>⋯
 | a::m,l,c,e,d=>by let b:=eR.1 e;let f:=rS c (d a ∅);let g:=sub_len (m:=m) (l:=l.filter λk=>k !=a) (c.filter _) b.2 λx h=>cz.2 ⟨d x ∅,⋯⟩;simp;lk
def SG{l:LN0}(a:l.Nodup)(c:∀x∈l,x<n): ⇑l=n↔∀i,i<n->i∈l:=by
 walk
 ·ext h i e;cases q:i∈l
  ·show q
  ·have:=iG (n:=n) (eR.2 ⟨q,a⟩) λx b=>by lk
   simp at this;lk
 ·ext h;let f:=iG a c;let d:=sub_len a (rQ) λx b=>h x (dR.1 b);rw[fm] at d;lk
end
/---/def toB(l:LN0):Bytes:=l.map eD
def pj(c:a<256)(d:b<256)(h:eD a=eD b):a=b:=by have:=congrArg UInt8.toNat h;rw[FP,FP] at this;lk
def JJ(b:a<256):(eD a).toNat=a:=by rw[FP];cbv
def toB_inj:∀{l m:LN0},(∀x∈l,x<256)->(∀x∈m,x<256)->toB l=toB m->l=m
 | [], [],_,_,_=>rfl
 | [],_::_,_,_,h=>by simp[toB] at h
 | _::_, [],_,_,h=>by simp[toB] at h
 | a::l,b::m,c,d,h=>by let⟨e,f⟩:=kU h;rw[pj (c a ∅) (d b ∅) e,toB_inj (λx g=>c x ∅) (λx g=>d x ∅) f]
def i4(c:Nat):LN0->LL0
 | []=> [[]]
 | x::r=>match i4 c r with
   | []=> [[x]]
   | h::t=>if x=c then []::h::t else(x::h)::t
def Hl(c x:Nat)(r:LN0):i4 c (x::r)=match i4 c r with
 | []=> [[x]]
 | h::t=>if x=c then []::h::t else(x::h)::t:=B
def Gj(c x:UInt8)(r:Bytes):parted c (x::r)=match parted c r with
 | []=> [[x]]
 | h::t=>if x=c then []::h::t else(x::h)::t:=B
def sI(c:Nat):∀l,i4 c l≠ []
 | []=>by simp[i4]
 | x::r=>by
   delta i4;split
   ·simp
   ·split<;>simp
def vl(a:c<256):∀{l:LN0},(∀x∈l,x<256)->parted (eD c) (toB l)=(i4 c l).map toB
 | [],_=>rfl
 | x::r,h=>by
   have b:=vl a (l:=r) λy d=>h y ∅;change(match parted (eD c) (toB r)with
    | []=> [[eD x]]
    | h::t=>if eD x=eD c then []::h::t else(eD x::h)::t)=_
   rw[b,Hl];cases q:i4 c r with
   | nil=>show aN q (sI c r)
   | cons f tl=>
     erw[bp];cases e:x=c
     ·subst e;simp[toB]
     ·rw[aj e,aj λz=>e (pj (h x ∅) a z)];simp[toB]
def Bd:∀{l:LN0},(∀x∈l,x<256)->∀p∈i4 c l,∀x∈p,x<256
 | [],_,p,a,x,b=>by
   have:p= []:=by simpa[i4] using a
   subst this;simp at b
 | y::r,h,p,a,x,b=>by
   let d:=Bd (c:=c) (l:=r) λz e=>h z ∅;delta i4 at a;split at a
   ·cbv
   ·lk
def F2:LL0->LN0->LN0->LL0
 | L,l, []=>L++ [l]
 | L,l,b::r=>if b=10 then F2 (L++ [l]) [] r else F2 L (l++ [b]) r
def Aq:∀(t:LN0) (L:LL0) (l:LN0),F2 L l t=L++(match i4 10 t with| []=> [l]| h::tl=>(l++h)::tl)
 | [],L,l=>by simp[F2,i4]
 | b::r,L,l=>by
   delta F2 i4;cases q:i4 10 r with
   | nil=>show aN q (sI 10 r)
   | cons a tl=>
     cases e:b=10
     ·rw[ar e,Aq r,q];simp[e]
     ·rw[aj e,Aq r,q];simp[e]
def Sr(t:LN0):F2 [] [] t=i4 10 t:=by
 rw[Aq];cases q:i4 10 t with
 | nil=>show aN q (sI 10 t)
 | cons a tl=>simp
def zB(c:UInt8):∀b:Bytes,joined [c] (parted c b)=b
 | []=>rfl
 | x::r=>by
   let d:=zB c r;delta parted;cases q:parted c r with
   | nil=>rw[q] at d;simp[joined] at d;simp[joined,<-d]
   | cons f tl=>
     rw[q] at d;cases e:x=c
     ·subst e;erw[gq];change []++([x]++joined [x] (f::tl))=x::r;rw[d];rfl
     ·erw[e,fF];cases tl with
      | nil=>simp[joined] at d⊢;rw[d]
      | cons a tl=>simp[joined] at d⊢;rw[d]
def Gi:∀{b:Bytes},c∉b->parted c b= [b]
 | [],_=>rfl
 | x::r,h=>by let a:=Gi (c:=c) (b:=r) λz=>h ∅;delta parted;rw[a];have:¬x=c:=λz=>h ∅;simp[this]
def IP:∀{a b:Bytes},c∉a->parted c (a++c::b)=a::parted c b
 | [],b,_=>by
   change parted c (c::b)=_;rw[Gj];cases q:parted c b with
   | nil=>
     have:=zB c b;rw[q] at this;cases b with
     | nil=>simp[parted] at q
     | cons x r=>simp[joined] at this
   | cons e tl=>simp
 | x::a,b,h=>by let d:=IP (c:=c) (a:=a) (b:=b) λz=>h ∅;change parted c (x::(a++c::b))=_;rw[Gj,d];have:¬x=c:=λz=>h ∅;simp[this]
def B7(x:Nat):Bool:=decide (97<=x) && decide (x<=122)
def O3(x:Nat):Bool:=decide (48<=x) && decide (x<=57)
def C0(l:LN0):Bool:=decide (1<= ⇑l) && (decide (⇑l<=12) && (B7 (l.headD 0) && l.all λx=>B7 x|| O3 x))
def Hy(h:∀x∈l,x<256):isName (toB l)=C0 l:=by
 cases l with
 | nil=>rfl
 | cons a r=>
   let e:∀x∈a::r,tP (eD x)=B7 x:=λx c=>by delta tP B7;rw[JJ (h x c)]
   let f:∀x∈a::r,xw (eD x)=O3 x:=λx c=>by delta xw O3;rw[JJ (h x c)]
   have g:∀m:LN0,(∀x∈m,x∈a::r)->(toB m).all (λ(x:UInt8)=>tP x|| xw x)=m.all λx=>B7 x|| O3 x:=by
    ext m;induction m with
    | nil=>ext _;rfl
    | cons b m i=>ext d;change((tP (eD b)|| xw (eD b)) && (toB m).all _)=_;rw[i λx c=>d x ∅,e b (d b ∅),f b (d b ∅)];rfl
   change(tP (eD a) && ((toB r).all (λ(x:UInt8)=>tP x|| xw x) && decide (⇑(toB (a::r))<=12)))=_;rw[g r λx c=>by simp[c],e a (by simp)];delta C0 toB;erw[aF,cX,List.headD_cons,sd];have:decide (1<= ⇑r+1)=true:=by simp
   rw[this];cases B7 a<;>cases(r.all λx=>B7 x|| O3 x)<;>cases decide (⇑r+1<=12)<;>simp
def HL:ascii "park"=toB [112,97,114,107]:=∅
def Gy:ascii "floor"=toB [102,108,111,111,114]:=∅
def C2(l:LN0):Bool:=decide (l.take 5= [112,97,114,107,32]) && C0 (l.drop 5)
def SH(h:∀x∈l,x<256):(tV (toB l)).isSome=C2 l:=by
 let i:BLANK=eD 32:=B;let v:words (toB l)=(i4 32 l).map toB:=by delta words;rw[i,vl (by decide) h]
 cases q:C2 l with
 | true=>
   delta C2 at q;rw[cn,cj] at q;let j:l= [112,97,114,107,32]++l.drop 5:=by rw[<-q.1,ER]
   let s:∀x∈l.drop 5,x<256:=λx g=>h x (List.mem_of_mem_drop g);let w:isName (toB (l.drop 5))=true:=by rw[Hy s];show q.2
   have y:eD 32∉toB (l.drop 5):=by
    ext A;let c:(l.drop 5).all (λx=>B7 x|| O3 x)=true:=by have:=q.2;delta C0 at this;erw[cn] at this;show this.2.2.2
    let⟨x,g,e⟩:=a_.1 A;let d:=pj (s x g) ⋯ e;have:=eQ.1 c x g;rw[d] at this;revert this;decide
   have C:eD 32∉toB [112,97,114,107]:=⋯;let D:words (toB l)= [toB [112,97,114,107],toB (l.drop 5)]:=by
    unfold words;rw[i];have:toB l=toB [112,97,114,107]++eD 32::toB (l.drop 5):=by
     conv=>lhs;rw[j]
     simp[toB]
    rw[this,IP C,Gi y]
   delta tV;rw[D];erw[HL,w,and_self,gq,Fu]
 | false=>
   cases z:tV (toB l)with
   | none=>rfl
   | some n=>
     exfalso;delta tV at z;split at z
     ·rename_i k m e;split at z
      ·rename_i u;let f:=zB BLANK (toB l);let E:parted BLANK (toB l)= [k,m]:=e;rw[E] at f;let f:k++([BLANK]++m)=toB l:=f;rw[u.1,HL] at f;rw[v] at e;cases o:i4 32 l with
       | nil=>rw[o] at e;simp at e
       | cons a t=>
         rw[o] at e;cases t with
         | nil=>simp at e
         | cons b t=>
           cases t with
           | cons _ _=>simp at e
           | nil=>
             simp only[bp,nc,List.cons.injEq,and_true] at e;let p:∀x∈b,x<256:=Bd h b (by rw[o];simp);let j:l= [112,97,114,107,32]++b:=by
              apply toB_inj h
              ·cbv
              ·rw[<-f,<-e.2];simp[toB,i]
             let r:C0 b=true:=by rw[<-Hy p,e.2];show u.2
             have:C2 l=true:=by delta C2;rw[j];simp[r]
             rw[this] at q;cases q
      ·cases z
     ·cases z
def A1:Sign->Nat
 | .wall=>35
 | .plain=>46
 | .cabin=>67
 | .lift=>76
def Ui(s:Sign):kn (eD (A1 s))=J s:=by cases s<;>decide
def U5(x:Nat):Bool:=x==35|| (x==46|| (x==67|| x==76))
def Rr(h:x<256)(e:kn (eD x)=J s):x=A1 s:=by
 delta kn at e;split at e
 ·rename_i q;cases e;show pj h ⋯ q
 ·split at e
  ·rename_i q;cases e;show pj h ⋯ q
  ·split at e
   ·rename_i q;cases e;show pj h ⋯ q
   ·split at e
    ·rename_i q;cases e;show pj h ⋯ q
    ·cases e
def Ja:U5 x=aa↔∃s,x=A1 s:=by
 walk
 ·ext h;erw[U5,zI,eU] at h;obtain h| h| h| h:=h
  ·show⟨.wall,h⟩
  ·show⟨.plain,h⟩
  ·show⟨.cabin,h⟩
  ·show⟨.lift,h⟩
 ·ext⟨s,rfl⟩;cases s<;>decide
def J9(l:LN0):Bool:=decide (0<⇑l) && l.all U5
def IY:∀{l:LN0},(∀x∈l,x<256)->∀{r:Y Sign},(toB l).mapM kn=J r↔l=r.map A1
 | [],_,r=>by
   change J []=J r↔_;cases r with
   | nil=>simp
   | cons _ _=>simp
 | x::l,h,r=>by
   have b:=λ{r:Y Sign}=>IY (l:=l) (λy f=>h y ∅) (r:=r);let c:(toB (x::l)).mapM kn=(kn (eD x)).bind λs=>((toB l).mapM kn).map λt=>s::t:=by
    change List.mapM kn (eD x::toB l)=_;rw[List.mapM_cons];cases kn (eD x)with
    | none=>rfl
    | some s=>
      cases(toB l).mapM kn with
      | none=>rfl
      | some t=>rfl
   rw[c];walk
   ·ext e;cases q:kn (eD x)with
    | none=>rw[q] at e;cases e
    | some s=>
      rw[q] at e;cases a:(toB l).mapM kn with
      | none=>rw[a] at e;cases e
      | some t=>rw[a] at e;let e:s::t=r:=bu e;rw[<-e,bp,<-Rr (h x ∅) q,<-b.1 a]
   ·ext e;cases r with
    | nil=>cases e
    | cons s t=>rw[bp] at e;let⟨rfl,d⟩:=kU e;rw[Ui,b.2 d];rfl
def Hh(h:∀x∈l,x<256):rowIn (toB l)=J r↔l≠ []/\l=r.map A1:=by
 delta rowIn;cases e:l= []
 ·subst e;simp[toB]
 ·have:¬toB l= []:=λz=>e (lF.1 z);rw[aj this,IY h];simp[e]
def JV:J9 l=aa↔l≠ []/\∃r:Y Sign,l=r.map A1:=by
 delta J9;rw[cn,cj,mK];walk
 ·ext⟨a,b⟩;show⟨a,?_⟩;clear a;induction l with
  | nil=>show⟨[],B⟩
  | cons x l c=>rw[sd,cn] at b;let⟨s,rfl⟩:=Ja.1 b.1;let⟨r,rfl⟩:=c b.2;show⟨s::r,B⟩
 ·ext⟨a,r,rfl⟩;show⟨a,?_⟩;rw[vz,eQ];ext s _;show Ja.2 ⟨s,B⟩
abbrev Fl:=Y (Y (Y Sign))
abbrev cI:=Y LL0
def d4(F:Fl):cI:=F.map λf=>f.map λr=>r.map A1
def C1(F:cI):Nat:=⇑(F.headD [])
def k5(F:cI):LL0:=F.getLastD []
def M7(F:cI):Bool:=decide (0<⇑F) && decide (⇑(k5 F)<C1 F)
def l5(F:cI):Nat:=(F.map λf=>(f.map λr=> ⇑(r.filter λx=>x !=35)).sum).sum
def B5(F:cI):Nat:=if F≠ []/\k5 F= [] then 1 else if M7 F=aa then 3 else if ⇑F=4 then 4 else 0
def N6(F:cI)(r:LN0):Nat:=
 if F= [] then 1
 else if F.headD []≠ []/\ ⇑r≠ ⇑((F.headD []).headD [])then 2
 else if 1<⇑F/\ ⇑(k5 F)=C1 F then 3
 else if 8<⇑r\/(C1 F=8/\ ⇑F=1)then 4
 else if 20<l5 F+⇑(r.filter λx=>x !=35)then 4
 else 0
def F9:LN0:= [102,108,111,111,114]
def B6(F:cI)(l:LN0):Nat:=if l=F9 then B5 F else if J9 l=aa then N6 F l else 1
def L0(F:cI)(l:LN0):cI:=if l=F9 then F++ [[]] else F.dropLast++ [k5 F++ [l]]
structure tN(F:Fl):Prop where
 xT: ⇑F<=4
 rows:∀f∈F,∀r∈f,r≠ []
 high: ⇑(F.headD [])<=8
 last: ⇑(F.getLastD [])<= ⇑(F.headD [])
def UX:tN []:=⟨∅,⋯,⋯,∅⟩
def wI(F:Fl): ⇑(d4 F)=⇑F:=by simp[d4]
def BN:d4 F= []↔F= []:=by simp[d4]
def KC(F:Fl):(d4 F).headD []=(F.headD []).map λr=>r.map A1:=by cases F<;>rfl
def sN(F:Fl):k5 (d4 F)=(F.getLastD []).map λr=>r.map A1:=by delta k5 d4;rw[jP,jP,yX];cases F.getLast? <;>rfl
def wH(F:Fl):high F=⇑(F.headD []):=by cases F<;>rfl
def Bl(F:Fl):C1 (d4 F)=⇑(F.headD []):=by delta C1;rw[KC];simp
def Jg(r:Y Sign): ⇑((r.map A1).filter λx=>x !=35)=⇑(r.filter λ(s:Sign)=>s != .wall):=by rw[gx,aF];congr 1;apply jt;ext s _;cases s<;>rfl
def Bo(F:Fl):jI F=l5 (d4 F):=by
 delta jI l5 d4;induction F with
 | nil=>rfl
 | cons f F b=>
   rw[qj,List.flatten_append,lH,dA,b,bp,bp,jX];congr 1;clear b;induction f with
   | nil=>rfl
   | cons r f a=>rw[qj,lH,dA,a,bp,bp,jX,Jg]
def yj(F G:cI):l5 (F++G)=l5 F+l5 G:=by simp[l5,zG]
def Ew(F:Y (Y a))(f:Y a):(F++ [f]).getLastD []=f:=by simp[jP]
def sm(h:F≠ []):F.getLast? =J (F.getLastD []):=by
 rw[jP];cases q:F.getLast? with
 | none=>show aN (Ef.1 q) h
 | some f=>rfl
def Hx(h:F≠ []):F=F.dropLast++ [F.getLastD []]:=by
 let a:=sm h;let⟨b,e⟩:=QY.1 a
 conv=>lhs;rw[e]
 conv=>rhs;rw[show F.dropLast=b from ⋯]
def UK(G:tN F)(E:∀x∈l,x<256):
 (∀k,pJ F (toB l)= .error k->B6 (d4 F) l=k/\k≠0)/\
 (∀p,pJ F (toB l)= .ok p->B6 (d4 F) l=0/\L0 (d4 F) l=d4 p/\tN p):=by
 let H:∀x∈F9,x<256:=⋯;cases e:l=F9
 ·subst e;let I:toB F9=ascii "floor":=Gy.symm;let A:(F.getLast?).getD []=F.getLastD []:=⋯;let c:B6 (d4 F) F9=B5 (d4 F):=by delta B6;rw[ar B]
  let s:L0 (d4 F) F9=d4 F++ [[]]:=by delta L0;rw[ar B]
  rw[c,s];delta pJ;rw[ar I];let c1:(F≠ []/\(F.getLast?).getD []= [])↔(d4 F≠ []/\k5 (d4 F)= []):=by rw[A,sN,Ne,Ne,BN,lF]
  delta B5;cases o:F≠ []/\(F.getLast?).getD []= []
  ·lk
  ·rw[aj o,aj λz=>o (c1.2 z)];let c2:(F≠ []/\ph F=ak)↔M7 (d4 F)=true:=by
    delta M7;rw[cn,cj,cj,wI,sN,Bl,aF,mK];walk
    ·ext⟨d,i⟩;show⟨d,?_⟩;let t:F.getLastD []≠ []:=λz=>o ⟨d,A.trans z⟩;let b:F.getLast? =J (F.getLastD []):=sm d;delta ph at i;rw[b] at i;erw[wH] at i;let hb:(F.getLastD []).isEmpty=false:=by cases q:F.getLastD [] with
      | nil=>show aN q t
      | cons _ _=>rfl
     rw[hb] at i;erw[Jw,oI,kI] at i;have:=G.last;lk
    ·ext⟨d,i⟩;show⟨d,?_⟩;let b:F.getLast? =J (F.getLastD []):=sm d;delta ph;rw[b];erw[wH];have:(⇑(F.getLastD [])==⇑(F.headD []))=false:=kI.2 ⋯;rw[this,Jx]
   cases d:F≠ []/\ph F=ak
   ·cbv
   ·rw[aj d,aj λz=>d (c2.2 z),wI];let j:FLOORS=4:=B;have:=G.xT;cases i:FLOORS<= ⇑F
    ·lk
    ·rw[aj i,aj ⋯];show⟨λk h=>∅,λp h=> ?_⟩;cases h;show⟨B,by simp[d4],⟨⋯,λf L r D=> ?_,?_,?_⟩⟩
     ·obtain z| z:=dc.1 L
      ·show G.rows f z r D
      ·cbv
     ·cases F with
      | nil=>simp
      | cons f F=>show G.high
     ·rw[Ew];simp
 ·have I:¬toB l=ascii "floor":=by rw[Gy];ext z;show e (toB_inj E H z)
  let c:B6 (d4 F) l=if J9 l=aa then N6 (d4 F) l else 1:=by delta B6;rw[aj e]
  let s:L0 (d4 F) l=(d4 F).dropLast++ [k5 (d4 F)++ [l]]:=by delta L0;rw[aj e]
  rw[c,s];delta pJ;rw[aj I];cases D:rowIn (toB l)with
  | none=>
    let Q:¬J9 l=true:=λz=>by let⟨o,r,d⟩:=JV.1 z;have:=(Hh E).2 ⟨o,d⟩;rw[D] at this;cases this
    rw[aj Q];simp only;show⟨λk h=>by cases h;show⟨B,by decide⟩,λp h=>by cases h⟩
  | some r=>
    let⟨t,n⟩:=(Hh E).1 D;let C:J9 l=true:=JV.2 ⟨t,r,n⟩;rw[ar C];let m: ⇑r=⇑l:=by rw[n];simp
    cases j:F= []
    ·subst j;erw[List.getLast?_nil];show⟨λk h=>by cases h;show⟨B,by decide⟩,λp h=>by cases h⟩
    ·have b:F.getLast? =J (F.getLastD []):=sm j;rw[b];simp only;let hw:(wide F≠0/\ ⇑r≠wide F)↔((d4 F).headD []≠ []/\ ⇑l≠ ⇑(((d4 F).headD []).headD [])):=by
      rw[<-m,KC];cases F with
      | nil=>show aN B j
      | cons f F=>
        cases f with
        | nil=>simp[wide]
        | cons a f=>let ha:a≠ []:=G.rows (a::f) (by simp) a (by simp);have: ⇑a≠0:=λz=>ha (Ez.1 z);simp[wide,this]
     delta N6;rw[aj (λz=>j (BN.1 z))];cases o:wide F≠0/\ ⇑r≠wide F
     ·lk
     ·rw[aj o,aj λz=>o (hw.2 z),wI,sN,Bl,aF];let hG:=G.last;let hH:=G.high;let u:(2<= ⇑F/\high F<= ⇑(F.getLastD []))↔(1<⇑F/\ ⇑(F.getLastD [])=⇑(F.headD [])):=by rw[wH];lk
      cases d:2<= ⇑F/\high F<= ⇑(F.getLastD [])
      ·lk
      ·rw[aj d,aj λz=>d (u.2 z)];let v:jI (F.dropLast++ [F.getLastD []++ [r]])=l5 (d4 F)+⇑(l.filter λx=>x !=35):=by
        rw[<-Bo]
        conv=>rhs;rw[Hx j]
        rw[n,Jg];simp[jI];lk
       have hS:SIDE=8:=B;let hC:CELLS=20:=B;let afc:(⇑F=1->F.getLastD []=F.headD []):=by
        ext z;cases F with
        | nil=>show aN B j
        | cons f F=>lk
       have afa:0<⇑F:=mK.2 j;let y:(SIDE<⇑r\/SIDE<= ⇑(F.getLastD [])\/CELLS<jI (F.dropLast++ [F.getLastD []++ [r]]))↔
        ((8<⇑l\/(⇑(F.headD [])=8/\ ⇑F=1))\/20<l5 (d4 F)+⇑(l.filter λx=>x !=35)):=by
        rw[v,hS,hC,m];walk
        ·lk
        ·lk
       cases i:SIDE<⇑r\/SIDE<= ⇑(F.getLastD [])\/CELLS<jI (F.dropLast++ [F.getLastD []++ [r]])
       ·lk
       ·rw[aj i];show⟨λk h=>(by cases h),λp h=> ?_⟩;cases h;let h4:=λz=>i (y.2 z);let T:¬(8<⇑l\/(⇑(F.headD [])=8/\ ⇑F=1)):=λz=>h4 (.inl z);let hnc:¬20<l5 (d4 F)+⇑(l.filter λx=>x !=35):=λz=>h4 (.inr z);show⟨by rw[aj T,aj hnc],?_,⟨?_,λf L q hq=> ?_,?_,?_⟩⟩
        ·let e3:(d4 F).dropLast=d4 F.dropLast:=by simp[d4,XM]
         rw[e3,n];simp[d4]
        ·have:=G.xT;simp;lk
        ·obtain z| z:=dc.1 L
         ·show G.rows f (TN _ z) q hq
         ·have:f=F.getLastD []++ [r]:=by simpa using z
          subst this;obtain w| w:=dc.1 hq
          ·let hm:F.getLastD []∈F:=by rw[Hx j];simp
           show G.rows _ hm q w
          ·lk
        ·cases F with
         | nil=>show aN B j
         | cons f F=>
           cases F with
           | nil=>lk
           | cons g F=>simpa using hH
        ·rw[Ew];cases F with
         | nil=>show aN B j
         | cons f F=>
           cases F with
           | nil=>simp
           | cons g F=>lk
def A3:Nat->cI->LL0->Except NN0 cI
 | _,F, []=> .ok F
 | i,F,l::a=>if B6 F l≠0 then .error (B6 F l,i)else A3 (i+1) (L0 F l) a
def Hu:∀(a:LL0) (i:Nat) (F:Fl),tN F->(∀l∈a,∀x∈l,x<256)->
 (∀k,linesOn i F (a.map toB)= .error k->A3 i (d4 F) a= .error k)/\
 (∀b,linesOn i F (a.map toB)= .ok b->A3 i (d4 F) a= .ok (d4 b)/\tN b)
 | [],i,F,G,_=>⟨λk h=>(by cases h),λb h=>(by cases h;show⟨B,G⟩)⟩
 | l::a,i,F,G,h=>by
   let⟨g,d⟩:=UK G (h l ∅);rw[bp];delta linesOn A3;cases q:pJ F (toB l)with
   | error k=>cbv
   | ok c=>let⟨j,e,f⟩:=d c q;simp only;rw[aj ∅,e];show Hu a (i+1) c f λm n=>h m ∅
def m5(F:cI):Y (Nat×NN0):=
 F.zipIdx.flatMap λf=>f.1.zipIdx.flatMap λr=>(r.1.zipIdx.filter λs=>s.1 !=35).map λs=>(f.2,r.2,s.2)
def L3(F:cI)(q:Nat×NN0):Nat:=((F.getD q.1 []).getD q.2.1 []).getD q.2.2 0
/---/def posOf(c:Cell):Nat×NN0:=(c.floor,c.row,c.col)
def zipIdx_map{b c:Type}(f:b->c):∀(l:Y b) (k:Nat),(l.map f).zipIdx k=(l.zipIdx k).map λp=>(f p.1,p.2)
 | [],_=>rfl
 | a::l,k=>by simp[mQ,zipIdx_map f l (k+1)]
def IE(b a:Nat):∀l:Y (Sign×Nat),
 (l.filterMap λ(s:Sign×Nat)=>if s.1= .wall then ah else J (⟨b,a,s.2,s.1⟩:Cell)).map posOf=
  ((l.map λp=>(A1 p.1,p.2)).filter λs=>s.1 !=35).map λs=>(b,a,s.2)
 | []=>rfl
 | (s,k)::l=>by let c:=IE b a l;cases s<;>simp[fA,A1,posOf] at c⊢<;>show c
def zW(P:aW):P.cells.map posOf=m5 (d4 P.floors):=by delta Plan.cells m5 d4;rw[qo,zipIdx_map,uL];congr 1;funext f;rw[qo,zipIdx_map,uL];congr 1;funext r;rw[zipIdx_map];show IE f.2 r.2 _
def sign_of{P:aW}{c:Cell}(h:c∈P.cells):L3 (d4 P.floors) (posOf c)=A1 c.sign:=by
 delta Plan.cells at h;let⟨⟨f,i⟩,a,h⟩:=fS.1 h;let⟨⟨r,j⟩,b,h⟩:=fS.1 h;let⟨⟨s,k⟩,d,h⟩:=js.1 h;let a:=jO.1 a;let b:=jO.1 b;let d:=jO.1 d;simp only at a b d h;split at h
 ·cases h
 ·cases h;delta L3 posOf d4;erw[dJ,cP,a,b,d,jT,mP]
def count_eq(P:aW):P.count=⇑(m5 (d4 P.floors)):=by rw[<-zW,aF];rfl
def mW(F:cI): ⇑(m5 F)=l5 F:=by
 unfold m5 l5;rw[VA];congr 1;have:∀(l:cI) (k:Nat),(l.zipIdx k).map (λf=> ⇑(f.1.zipIdx.flatMap λr=>(r.1.zipIdx.filter λs=>s.1 !=35).map λs=>(f.2,r.2,s.2)))=l.map λf=>(f.map λr=> ⇑(r.filter λx=>x !=35)).sum:=by
  ext l;induction l with
  | nil=>ext k;rfl
  | cons f l c=>
    ext k;rw[mQ,bp,bp,c (k+1)];congr 1;rw[VA];congr 1;have:∀(m:LL0) (j:Nat),(m.zipIdx j).map (λr=> ⇑((r.1.zipIdx.filter λs=>s.1 !=35).map λs=>(k,r.2,s.2)))=m.map λr=> ⇑(r.filter λx=>x !=35):=by
     ext m;induction m with
     | nil=>ext j;rfl
     | cons r m b=>
       ext j;rw[mQ,bp,bp,b (j+1)];congr 1;rw[aF];have:∀(r:LN0) (i:Nat),⇑((r.zipIdx i).filter λs=>s.1 !=35)=⇑(r.filter λx=>x !=35):=by
        ext r;induction r with
        | nil=>ext i;rfl
        | cons x r a=>
          ext i;rw[mQ,fA,fA];cases x !=35 with
          | true=>erw[gq,cX,a (i+1)]
          | false=>erw[kJ,fF,a (i+1)]
       show this r 0
    show this f 0
 show this F 0
def A5(F:cI):LN0:=((m5 F).zipIdx.filter λp=>L3 F p.1==67).map λp=>p.2
/---/def dist(a b:Nat):Nat:=(a-b)+(b-a)
def B1(F:cI)(a b:Nat×NN0):Bool:=
 if a.1=b.1 then decide (dist a.2.1 b.2.1+dist a.2.2 b.2.2=1)
 else if dist a.1 b.1≠1\/a.2≠b.2 then ak
 else L3 F a==76 && L3 F b==76
def v8(F:cI):LL0:=(m5 F).map λa=>((m5 F).zipIdx.filter λp=>B1 F a p.1).map λp=>p.2
def YR(a b:Nat):one a b=aa↔dist a b=1:=by simp[one,dist];lk
def touching_eq{P:aW}{a b:Cell}(g:a∈P.cells)(i:b∈P.cells):touching a b=B1 (d4 P.floors) (posOf a) (posOf b):=by
 rw[cE];delta B1;rw[sign_of g,sign_of i];let d:∀s:Sign,(A1 s==76)=(s== .lift):=by ext s;cases s<;>rfl
 rw[d,d];change touching a b=aa↔(if a.floor=b.floor then decide (dist a.row b.row+dist a.col b.col=1)
  else if dist a.floor b.floor≠1\/(a.row,a.col)≠(b.row,b.col)then ak else(a.sign==Sign.lift && b.sign==Sign.lift))=aa
 erw[touching,zI,cn,eU,YR];cases h:a.floor=b.floor
 ·rw[ar h];let k:dist a.floor b.floor=0:=by rw[h];simp[dist]
  erw[h,true_and,cj];let j:dist b.floor b.floor≠1:=∅;walk
  ·ext((⟨c,e⟩| ⟨c,e⟩)| ⟨c,_⟩)
   ·have:dist a.row b.row=0:=by rw[c];simp[dist]
    cbv
   ·have:dist a.col b.col=0:=by rw[c];simp[dist]
    cbv
   ·show aN c j
  ·ext l;left;cases f:a.row=b.row
   ·left;have:dist a.row b.row=0:=by rw[f];simp[dist]
    show⟨f,∅⟩
   ·right;let c:dist a.row b.row≠0:=by simp[dist];lk
    show⟨?_,⋯⟩;let e:dist a.col b.col=0:=⋯;simp[dist] at e;lk
 ·lk
def vX(P:aW):P.nears=v8 (d4 P.floors):=by
 delta Bu v8;rw[<-zW,bS];apply iV;ext a c;erw[gk];rw[zipIdx_map,gx,bS];have:(P.cells.zipIdx.filter λx=>touching a x.1)=P.cells.zipIdx.filter ((λp=>B1 (d4 P.floors) (posOf a) p.1)∘λp=>(posOf p.1,p.2)):=by apply jt;ext⟨b,j⟩ d;erw[gk];show touching_eq c (cD (jO.1 d))
 rw[this];rfl
def IG{b:Type}(p:b->Bool):∀(l:Y b) (k:Nat),((l.zipIdx k).filter λx=>p x.1).map (λx=>x.2)=((bR ⇑l).filter λi=>(l[i]?).any p).map λi=>k+i
 | [],_=>∅
 | a::l,k=>by
   rw[mQ,fA,cX,rF,fA];let c:=IG p l (k+1);let d:(Ml (λi=>((a::l)[i]?).any p) (List.map Nat.succ (bR ⇑l))).map (λi=>k+i)=((bR ⇑l).filter λi=>(l[i]?).any p).map λi=>k+1+i:=by
    rw[gx,bS];have:((λi=>((a::l)[i]?).any p)∘Nat.succ)=λi=>(l[i]?).any p:=by funext i;simp
    rw[this];apply iV;ext i _;erw[gk];lk
   cases h:p a with
   | true=>cbv
   | false=>cbv
def Jk(P:aW):P.cabins=A5 (d4 P.floors):=by
 delta A5 Plan.cabins Plan.count;rw[<-zW,zipIdx_map,gx,bS];let a:(P.cells.zipIdx.filter ((λp=>L3 (d4 P.floors) p.1==67)∘λp=>(posOf p.1,p.2)))=P.cells.zipIdx.filter λx=>x.1.sign== .cabin:=by apply jt;ext⟨b,j⟩ d;erw[gk];rw[sign_of (cD (jO.1 d))];cases b.sign<;>rfl
 rw[a];let e:=IG (λc:Cell=>c.sign== .cabin) P.cells 0;let f:(P.cells.zipIdx.filter λx=>x.1.sign== .cabin).map ((λp:(Nat×NN0)×Nat=>p.2)∘λp=>(posOf p.1,p.2))=(P.cells.zipIdx.filter λx=>x.1.sign== .cabin).map λx=>x.2:=B;rw[f,e];simp
def QF(h:pJ F b= .ok a)(c:jI F<=20):jI a<=20:=by
 delta pJ at h;split at h
 ·split at h
  ·cases h
  ·split at h
   ·cases h
   ·split at h
    ·cases h
    ·cases h;simpa[jI] using c
 ·split at h
  ·split at h
   ·cases h
   ·split at h
    ·cases h
    ·split at h
     ·cases h
     ·rename_i d;cases h;let e:CELLS=20:=B
      cbv
  ·cases h
def E_:∀{d:Y Bytes} {i:Nat} {F a:Fl},linesOn i F d= .ok a->jI F<=20->jI a<=20
 | [],i,F,a,h,c=>by cases h;show c
 | b::d,i,F,a,h,c=>by
   delta linesOn at h;cases q:pJ F b with
   | error k=>rw[q] at h;cases h
   | ok G=>rw[q] at h;show E_ h (QF q c)
def RN(P:aW):P.count=jI P.floors:=by rw[count_eq,mW,<-Bo]
def A4(F:cI)(a:LN0)(b:Bool):Nat:=
 if a≠ []\/F= []\/k5 F= [] then 1
 else if M7 F=aa then 3
 else if¬(1<= ⇑(A5 F)/\ ⇑(A5 F)<=4)then 5
 else if b=ak then 6
 else 0
def F8(a:LL0):Prop:=∀i,i<⇑a->∃d,Reach a d i
structure Co(P:aW):Prop where
 most:P.count<=20
 some:0<P.count
 mB:1<= ⇑P.cabins/\ ⇑P.cabins<=4
 afj:F8 P.nears
def Hk(D:∀x∈t,x<256):
 ∃(A:LL0) (a:LN0),i4 10 t=A++ [a]/\
  (A= []->iL (toB t)= .error (1,0))/\
  ∀h l,A=h::l->(C2 h=ak->iL (toB t)= .error (1,0))/\
   (C2 h=aa->(∀e,A3 1 [] l= .error e->iL (toB t)= .error e)/\
    ∀F,A3 1 [] l= .ok F->l5 F<=20/\∀u:Bool,(⇑(m5 F)≠0->(u=aa↔F8 (v8 F)))->
     (A4 F a u≠0->iL (toB t)= .error (A4 F a u,⇑l+1))/\
     (A4 F a u=0->∃P,iL (toB t)= .ok P/\F=d4 P.floors/\Co P)):=by
 let p:=sI 10 t;let v:=Bd (c:=10) D;show⟨(i4 10 t).dropLast,(i4 10 t).getLast p,(xZ p).symm,?_⟩;let w:LF=eD 10:=B;let f:lines (toB t)=((i4 10 t).dropLast).map toB:=by delta lines;rw[w,vl ∅ D,XM]
 let n:behind (toB t)=toB ((i4 10 t).getLast p):=by delta behind;rw[w,vl ∅ D,yX,DU p];rfl
 let j:∀l∈(i4 10 t).dropLast,∀x∈l,x<256:=λl E=>v l (TN _ E);let r:∀x∈(i4 10 t).getLast p,x<256:=v _ (List.getLast_mem p);generalize (i4 10 t).dropLast=A at f j;generalize (i4 10 t).getLast p=a at n r;walk
 ·ext e;subst e;delta iL;rw[f];rfl
 ·ext h l e;subst e;let hh:=j h ∅;let E:∀m∈l,∀x∈m,x<256:=λm hm=>j m ∅;let d:=SH hh;walk
  ·ext e;rw[e] at d;delta iL;rw[f];erw[bp];cases q:tV (toB h)with
   | none=>rfl
   | some _=>rw[q] at d;cases d
  ·ext e;rw[e] at d;cases q:tV (toB h)with
   | none=>rw[q] at d;cases d
   | some g=>
     let⟨L1,L2⟩:=Hu l 1 [] UX E;let e0:d4 []= []:=B;rw[e0] at L1 L2;let b:iL (toB t)=match linesOn 1 [] (l.map toB)with
      | .error e=> .error e
      | .ok F=>
        let P:aW:=⟨g,F⟩;let e:=⇑(l.map toB)+1
        if behind (toB t)≠ []\/F= []\/(F.getLast?).getD []= [] then .error (1,e)
        else if ph F=ak then .error (3,e)
        else if P.cabins= []\/CABINS<⇑P.cabins then .error (5,e)
        else if P.whole=ak then .error (6,e)
        else .ok P:=by
      delta iL;rw[f];erw[bp,q];cases linesOn 1 [] (l.map toB)<;>rfl
     cases H:linesOn 1 [] (l.map toB)with
     | error k=>cbv
     | ok c=>
       let⟨h1,G⟩:=L2 c H;rw[H] at b;simp only at b;show⟨λe he=> ?_,λF hF=> ?_⟩
       ·rw[h1] at he;cases he
       ·rw[h1] at hF;cases hF;let i:jI c<=20:=E_ H ⋯;show⟨by rw[<-Bo];show i,λu I=> ?_⟩;let L:(behind (toB t)≠ []\/c= []\/(c.getLast?).getD []= [])↔(a≠ []\/d4 c= []\/k5 (d4 c)= []):=by
         rw[n,BN,sN,lF,jP];have:toB a≠ []↔a≠ []:=by simp[toB]
         rw[this]
        rw[aF] at b;delta A4;cases C:behind (toB t)≠ []\/c= []\/(c.getLast?).getD []= []
        ·cbv
        ·rw[aj C] at b;rw[aj λz=>C (L.2 z)];let Q:c≠ []:=λz=>C (.inr (.inl z));let s:c.getLastD []≠ []:=λz=>C (.inr (.inr ∅));let T:ph c=ak↔M7 (d4 c)=true:=by
          unfold M7 ph;rw[cn,cj,cj,wI,sN,Bl,aF,mK,sm Q];erw[wH];let hb:(c.getLastD []).isEmpty=false:=by cases q:c.getLastD [] with
           | nil=>show aN q s
           | cons _ _=>rfl
          rw[hb];erw[Jw,oI,kI];have:=G.last;walk
          ·lk
          ·ext⟨_,z⟩;lk
         cases c2:ph c=ak
         ·cbv
         ·rw[aj c2] at b;rw[aj λz=>c2 (T.2 z)];let afi:=Jk ⟨g,c⟩;let hCB:CABINS=4:=B;let hc3:((⟨g,c⟩:aW).cabins= []\/CABINS<⇑(⟨g,c⟩:aW).cabins)↔¬(1<= ⇑(A5 (d4 c))/\ ⇑(A5 (d4 c))<=4):=⋯;cases c3:(⟨g,c⟩:aW).cabins= []\/CABINS<⇑(⟨g,c⟩:aW).cabins
          ·cbv
          ·rw[aj c3] at b;rw[aj λz=>c3 (hc3.2 z)];let o:0<(⟨g,c⟩:aW).count:=by
            cases z:(⟨g,c⟩:aW).count with
            | succ _=>cbv
            | zero=>exfalso;apply c3;left;delta Plan.cabins;rw[z];rfl
           let hnn: ⇑(v8 (d4 c))=(⟨g,c⟩:aW).count:=by rw[<-vX ⟨g,c⟩,i_]
           let hw:(⟨g,c⟩:aW).whole=aa↔F8 (v8 (d4 c)):=by rw[TR _ o,<-vX ⟨g,c⟩];delta F8;rw[i_]
           let y:=I (by rw[<-count_eq ⟨g,c⟩];lk);cases c4:(⟨g,c⟩:aW).whole with
           | false=>cbv
           | true=>
             rw[aj ∅] at b;let hf:u=true:=y.2 (hw.1 c4);rw[aj ∅];show⟨λz=>aN B z,λ_=>⟨⟨g,c⟩,b,B,⟨?_,o,?_,?_⟩⟩⟩
             ·rw[RN];show i
             ·cbv
             ·rw[vX ⟨g,c⟩];show hw.1 c4
end Fs
end
section
namespace L2
open PySem PySem.Spec PyProof.Rows Fs
def ai5:Enc LN0:=eList b0
def lN:∀{b:Y V} {c:LN0},aU (b0.rep G) b c↔b=c.map λ(n:Nat)=>V.int (n:Int)
 | [], []=>⟨λ_=>B,λ_=> .nil⟩
 | [],_::_=>⟨(λh=>nomatch h),(λh=>∅)⟩
 | _::_, []=>⟨(λh=>nomatch h),(λh=>∅)⟩
 | v::b,n::c=>by
   walk
   ·ext h;cases h with
    | cons a d=>let a:v= .int n:=a;rw[bp,a,lN.1 d]
   ·ext h;rw[bp] at h;let⟨a,d⟩:=kU h;show .cons a (lN.2 d)
def oU:ai5.rep G v d↔∃p,v= .ref p/\G p=J (.lst (d.map λ(n:Nat)=>V.int (n:Int))):=by
 walk
 ·ext⟨p,e,a,b,c⟩;rw[lN] at c;show⟨p,a,c▸b⟩
 ·ext⟨p,a,b⟩;show⟨p,_,a,b,lN.2 B⟩
def vD(a:LN0):(a.map λ(n:Nat)=>V.int (n:Int))=(a.map λ(n:Nat)=>(n:Int)).map V.int:=⋯
def BU(a b:Nat):kR (a:Int) (b:Int)=((a &&& b:Nat):Int):=by rw[bitAnd_pp ∅ ∅];simp
def MI(a b:Nat):qx (a:Int) (b:Int)=((a||| b:Nat):Int):=by rw[xB.Xz ∅ ∅];simp
def wk(a b:Nat):mU (a:Int) (b:Int)=((a^^^b:Nat):Int):=by rw[xB.Vl ∅ ∅];simp
def qP(c:Nat):(1:Int)*2^((c:Int).toNat)=((2^c:Nat):Int):=by simp
def Mg(m k:Nat):kR ((m:Int)/2^((k:Int).toNat)) 1=if m.testBit k=aa then 1 else 0:=by let a:(m:Int)/2^((k:Int).toNat)=((m/2^k:Nat):Int):=∅;let b:(1:Int)=((1:Nat):Int):=B;rw[a,b,BU,Nat.and_one_is_mod];rw[Nat.testBit_eq_decide_div_mod_eq];have:=Nat.mod_two_eq_zero_or_one (m/2^k);obtain h| h:=this<;>simp[h]
def take_snoc{l:Y a}(h:l[i]? =J x):l.take (i+1)=l.take i++ [x]:=by rw[aaj,h];rfl
def AF(a:LN0):(a.map λ(n:Nat)=>V.int (n:Int)).all A7=true:=by rw[vz,eQ];ext n _;rfl
def Kt(x:Nat)(a:LN0):W6 (.int (x:Int)) (a.map λ(n:Nat)=>V.int (n:Int))=a.contains x:=by
 delta W6;rw[vy,cE,iC,kG];walk
 ·ext⟨n,b,e⟩;let e:((n:Int)==(x:Int))=true:=e;let c:(n:Int)=(x:Int):=∅;have:n=x:=⋯;show this▸b
 ·ext h;show⟨x,h,by change((x:Int)==(x:Int))=aa;simp⟩
def Zx{K:aG}{H:Hp}{p:ab}{a:LN0}{x:Nat}{Q:VK}(h:H p=J (.lst (a.map λ(n:Nat)=>V.int (n:Int))))(q:Q (.bl (a.contains x)) H):N2 K ak (.int (x:Int)) (.ref p) H Q:=
 ⟨p,_,B, .inl (SqL.of h),B,AF a,by rw[aj (by decide),Kt];show q⟩
def SF{K:aG}{H:Hp}{p:ab}{a:LN0}{x:Nat}{Q:VK}(h:H p=J (.lst (a.map λ(n:Nat)=>V.int (n:Int))))(q:Q (.bl (!a.contains x)) H):N2 K aa (.int (x:Int)) (.ref p) H Q:=
 ⟨p,_,B, .inl (SqL.of h),B,AF a,by rw[ar B,Kt];show q⟩
def aeO{a:LN0}(h:i<⇑a):(a.map λ(n:Nat)=>V.int (n:Int))[i]? =J (.int ((a.getD i 0:Nat):Int)):=∅
def getD_at{a:Type}{l:Y a}{i:Nat}{d:a}(h:i<⇑l):l[i]? =J (l.getD i d):=∅
def AH:∀(b a:Y Int),a.Nodup-> ⇑(b.foldl sQ a)<= ⇑a+⇑b/\(⇑(b.foldl sQ a)=⇑a+⇑b↔(∀x∈b,x∉a)/\b.Nodup)
 | [],a,_=>⟨∅,⋯⟩
 | x::b,a,h=>by
   rw[gU];cases q:a.any (·==x)=aa
   ·let e:sQ a x=a:=by delta sQ;rw[ar q]
    rw[e];let⟨f,c⟩:=AH b a h;show⟨∅,⟨λz=>by simp at z;lk,λz=> ?_⟩⟩;let⟨y,g,j⟩:=iC.1 q;have:y=x:=⋯;show aN (this▸g) (z.1 x ∅)
   ·let e:sQ a x=a++ [x]:=by delta sQ;rw[aj q]
    let k:x∉a:=λi=>q (iC.2 ⟨x,i,⋯⟩);rw[e];let d:(a++ [x]).Nodup:=⋯;let⟨f,c⟩:=AH b (a++ [x]) d;rw[dA,qe] at f c;show⟨⋯,?_⟩;rw[cX,show ⇑a+(⇑b+1)=⇑a+1+⇑b by lk,c,eR];walk
    ·lk
    ·lk
def range_getD(a:Y Int):(bR ⇑a).map (λi=>a.getD i 0)=a:=by
 apply ox;ext i;rw[cP];cases h:i<⇑a
 ·cbv
 ·cbv
def Wd(a:LN0):((me (λi=>(a.map λ(n:Nat)=>(n:Int)).getD i 0) ⇑(a.map λ(n:Nat)=>(n:Int))).length=⇑a)↔a.Nodup:=by
 delta me;rw[range_getD];have:=(AH (a.map λ(n:Nat)=>(n:Int)) [] ∅).2;erw[lK,jZ,aF,GS,not_false_eq_true,implies_true,true_and] at this;rw[this];walk
 ·lk
 ·lk
end L2
end
section
namespace R3
open PySem PySem.Spec PyProof.Rows L2
variable {K:aG} {M:Y Res} {U:Y En} {α β γ:Type} {Φ:Out->Prop}
structure Res where
 fp:ab->Prop
 P:Hp->Hp->Prop
 st:∀{G H G' H':Hp},c5 G G'->(∀b u,fp b->H b=J u->H' b=J u)->P G H->P G' H'
def d8(M:Y Res)(b:ab):Prop:=∃r∈M,r.fp b
def set_same{x:α}:∀{l:Y α} {i:Nat},l[i]? =J x->l.set i x=l
 | _::_,0,h=>by cases h;rfl
 | a::_,_+1,h=>congrArg (a::·) (set_same (EA▸h))
def gA:¬d8 [] b:=λ⟨_,h,_⟩=>nomatch h
def fg:d8 (r::M) b↔r.fp b\/d8 M b:=by simp[d8]
def fq:d8 (M++a) b↔d8 M b\/d8 a b:=by
 erw[d8,dc];walk
 ·lk
 ·lk
def N5(u:HO):Prop:=∀a,u≠ .tup a
/---/def Own:Y Res->Hp->Hp->Prop
 | [],_,_=>True
 | r::M,G,H=>r.P G H/\(∀b,r.fp b->G b=ah/\(∃u,H b=J u/\N5 u)/\¬d8 M b)/\Own M G H
def Own.un:∀{M:Y Res} {G H:Hp},Own M G H->∀{b},d8 M b->G b=ah/\∃u,H b=J u/\N5 u
 | [],_,_,_,_,h=>(gA h).elim
 | r::M,G,H,⟨_,c,a⟩,b,h=>by
   obtain h| h:=fg.1 h
   ·cbv
   ·show a.un h
def Own.keep:∀{M:Y Res} {G H c d:Hp},Own M G H->c5 G c->(∀b u,d8 M b->H b=J u->d b=J u)->(∀b,d8 M b->c b=ah)->Own M c d
 | [],_,_,_,_,_,_,_,_=>cM
 | r::M,G,H,c,d,⟨e,f,h⟩,g,k,n=>by show⟨r.st g (λb u a=>k b u (fg.2 (.inl a))) e,λb a=> ?_,h.keep g (λb u a=>k b u (fg.2 (.inr a))) λb a=>n b (fg.2 (.inr a))⟩;let⟨_,⟨u,i,j⟩,l⟩:=f b a;show⟨n b (fg.2 (.inl a)),⟨u,k b u (fg.2 (.inl a)) i,j⟩,l⟩
def fD:∀{M c:Y Res} {G H:Hp},Own (M++c) G H↔Own M G H/\Own c G H/\∀b,d8 M b->¬d8 c b
 | [],c,G,H=>⟨λh=>⟨cM,h,λb h=>(gA h).elim⟩,λh=>h.2.1⟩
 | r::M,c,G,H=>by
   walk
   ·ext⟨f,d,g⟩;let⟨i,e,j⟩:=fD.1 g;show⟨⟨f,λb a=>⟨(d b a).1,(d b a).2.1,λz=>(d b a).2.2 (fq.2 (.inl z))⟩,i⟩,e,λb a z=> ?_⟩;obtain a| a:=fg.1 a
    ·show(d b a).2.2 (fq.2 (.inr z))
    ·show j b a z
   ·ext⟨⟨f,d,g⟩,i,e⟩;show⟨f,λb a=>⟨(d b a).1,(d b a).2.1,λz=> ?_⟩,fD.2 ⟨g,i,λb a=>e b (fg.2 (.inr a))⟩⟩;obtain z| z:=fq.1 z
    ·show(d b a).2.2 z
    ·show e b (fg.2 (.inl a)) z
def cu{j:Nat}{r:Res}(o:Own M G H)(h:M[j]? =J r):r.P G H/\∀b,r.fp b->G b=ah/\∃u,H b=J u/\N5 u:=by
 induction M generalizing j with
 | nil=>simp at h
 | cons q M c=>
   cases j with
   | zero=>simp at h;subst h;show⟨o.1,λb a=>⟨(o.2.1 b a).1,(o.2.1 b a).2.1⟩⟩
   | succ j=>show c o.2.2 (by simpa using h)
def qT{j:Nat}{r:Res}(h:M[j]? =J r)(a:r.fp b):d8 M b:=⟨r,cD h,a⟩
def sX{j:Nat}{r r':Res}(h:M[j]? =J r)(a:∀b,r'.fp b->r.fp b)(c:d8 (M.set j r') b):d8 M b:=by
 let⟨q,d,e⟩:=c;obtain z| z:=List.mem_or_eq_of_mem_set d
 ·show⟨q,z,e⟩
 ·subst z;show qT h (a b e)
def Own.put{j:Nat}{r r':Res}(o:Own M G H)(h:M[j]? =J r)(f:∀b,r'.fp b->r.fp b)(g:∀b u,¬r.fp b->H b=J u->c b=J u)(m:∀b,r'.fp b->∃u,c b=J u/\N5 u)(n:r'.P G c):Own (M.set j r') G c:=by
 induction M generalizing j with
 | nil=>simp at h
 | cons q M p=>
   let⟨s,d,i⟩:=o;cases j with
   | zero=>simp at h;subst h;change Own (r'::M) G c;show⟨n,λb a=>⟨(d b (f b a)).1,m b a,(d b (f b a)).2.2⟩,i.keep (λ_ _ z=>z) (λb u a e=>g b u (λz=>(d b z).2.2 a) e) λb a=>(i.un a).1⟩
   | succ j=>let k:M[j]? =J r:=∅;change Own (q::M.set j r') G c;let l:∀b,q.fp b->¬r.fp b:=λb a z=>(d b a).2.2 (qT k z);show⟨q.st (λ_ _ z=>z) (λb u a e=>g b u (l b a) e) s,λb a=> ?_,p i k⟩;let⟨t,⟨u,v,w⟩,x⟩:=d b a;show⟨t,⟨u,g b u (l b a) v,w⟩,λz=>x (sX k f z)⟩
def su(a:d8 (M.eraseIdx j) b):d8 M b:=by let⟨q,c,e⟩:=a;show⟨q,List.mem_of_mem_eraseIdx c,e⟩
def Own.erase(j:Nat)(o:Own M G H):Own (M.eraseIdx j) G H:=by
 induction M generalizing j with
 | nil=>show cM
 | cons q M e=>
   let⟨f,a,d⟩:=o;cases j with
   | zero=>show d
   | succ j=>show⟨f,λb c=>⟨(a b c).1,(a b c).2.1,λz=>(a b c).2.2 (su z)⟩,e j d⟩
def own_apart{j:Nat}{r:Res}(o:Own M G H)(h:M[j]? =J r)(a:r.fp b):¬d8 (M.eraseIdx j) b:=by
 induction M generalizing j with
 | nil=>simp at h
 | cons q M e=>
   let⟨g,c,f⟩:=o;cases j with
   | zero=>simp at h;subst h;show(c b a).2.2
   | succ j=>
     let d:M[j]? =J r:=∅;ext z;obtain z| z:=fg.1 z
     ·show(c b z).2.2 (qT d a)
     ·show e f d z
structure To(M:Y Res)(G H:Hp)(kq0:Y Res)(G' H':Hp):Prop where
 h:∀b u,¬d8 M b->H b=J u->H' b=J u
 g:c5 G G'
 s:c5 G' H'
 o:∀b u,¬d8 M b->H b=J u->N5 u->G' b=G b
 f:∀b,d8 kq0 b->d8 M b\/H b=ah
 w:Own kq0 G' H'
def To.refl(s:c5 G H)(w:Own M G H):To M G H M G H:=⟨λ_ _ _ e=>e,λ_ _ e=>e,s,λ_ _ _ _ _=>B,λ_ h=> .inl h,w⟩
def To.trans(a:To M G H d k l)(b:To d k l i m p):To M G H i m p:=by
 have j:∀c u,¬d8 M c->H c=J u->¬d8 d c:=λc u n e z=>by
  obtain z| z:=a.f c z
  ·show n z
  ·rw[z] at e;cases e
 show⟨λc u n e=>b.h c u (j c u n e) (a.h c u n e),a.g.trans b.g,b.s,λc u n e t=>(b.o c u (j c u n e) (a.h c u n e) t).trans (a.o c u n e t),λc h=> ?_,b.w⟩;obtain z| z:=b.f c h
 ·show a.f c z
 ·cases q:d8 M c
  ·show .inl q
  ·show .inr ?_;cases e:H c with
   | none=>rfl
   | some u=>rw[a.h c u q e] at z;cases z
def To.frame(t:To M G H c j k)(o:Own (M++a) G H):To (M++a) G H (c++a) j k:=by
 let⟨r,d,l⟩:=fD.1 o;let m:∀b,d8 a b->¬d8 M b:=λb h z=>l b z h;let p:Own a j k:=d.keep t.g (λb u h e=>t.h b u (m b h) e) λb h=>by let⟨q,u,e,i⟩:=d.un h;show(t.o b u (m b h) e i).trans q
 show⟨λb u n e=>t.h b u (λz=>n (fq.2 (.inl z))) e,t.g,t.s,λb u n e i=>t.o b u (λz=>n (fq.2 (.inl z))) e i,λb h=> ?_,fD.2 ⟨t.w,p,λb h z=> ?_⟩⟩
 ·obtain z| z:=fq.1 h
  ·obtain z| z:=t.f b z
   ·show .inl (fq.2 (.inl z))
   ·show .inr z
  ·show .inl (fq.2 (.inr z))
 ·obtain y| y:=t.f b h
  ·show l b y z
  ·let⟨_,u,e,_⟩:=d.un z;rw[y] at e;cases e
def rW(s:c5 G H)(a:H p=ah):G p=none:=by
 cases q:G p with
 | none=>rfl
 | some u=>rw[s p u q] at a;cases a
def wA(w:Own M G H)(a:H p=ah):¬d8 M p:=λz=>by let⟨_,u,e,_⟩:=w.un z;rw[a] at e;cases e
def To.new(s:c5 G H)(w:Own M G H)(a:H p=ah)(o:HO):To M G H M (upd G p o) (upd H p o):=by
 let c:=rW s a;let i:=wA w a;show⟨λb u n e=>by rw[aS (eE e a)];show e,λb u e=>by rw[aS (eE e c)];show e,λb u e=> ?_,λb u n e _=>aS (eE e a),λb h=> .inl h,w.keep (λb u e=>by rw[aS (eE e c)];show e) (λb u h e=>by rw[aS (eE e a)];show e) λb h=> ?_⟩
 ·cases d:b=p
  ·subst d;rw[bg] at e⊢;show e
  ·rw[aS d] at e⊢;show s b u e
 ·rw[aS (show b≠p from λz=>i ∅)];show(w.un h).1
def To.ug(s:c5 G H)(w:Own M G H)(a:H p=ah)(o:HO):To M G H M G (upd H p o):=
 ⟨λb u n e=>by rw[aS (eE e a)];show e,λb u e=>e,λb u e=>by rw[aS (eE (s b u e) a)];show s b u e,λb u n e _=>B,λb h=> .inl h,
  w.keep (λb u e=>e) (λb u h e=>by rw[aS (eE e a)];show e) λb h=>(w.un h).1⟩
def To.own{o:HO}(s:c5 G H)(w:Own M G H)(a:H p=ah)(r:Res)(c:∀b,r.fp b↔b=p)(d:r.P G (upd H p o))(e:N5 o:=by ext _ h;cases h):To M G H (M++ [r]) G (upd H p o):=by
 let t:=To.ug s w a o;show⟨t.h,t.g,t.s,t.o,λb h=> ?_,fD.2 ⟨t.w,⟨d,λb i=> ?_,cM⟩,λb h z=> ?_⟩⟩
 ·obtain z| z:=fq.1 h
  ·show .inl z
  ·obtain z| z:=fg.1 z
   ·rw[(c b).1 z];show .inr a
   ·show(gA z).elim
 ·rw[(c b).1 i];show⟨rW s a,⟨o,bg,e⟩,gA⟩
 ·obtain z| z:=fg.1 z
  ·rw[(c b).1 z] at h;show wA w a h
  ·show gA z
def To.put{j:Nat}{r r':Res}(s:c5 G H)(w:Own M G H)(h:M[j]? =J r)(d:∀b,r'.fp b->r.fp b)(a:∀b u,¬r.fp b->H b=J u->c b=J u)(i:∀b,r'.fp b->∃u,c b=J u/\N5 u)(k:r'.P G c):To M G H (M.set j r') G c:=
 ⟨λb u n e=>a b u (λz=>n (qT h z)) e,λ_ _ e=>e,λb u e=>a b u (λz=>by rw[((cu w h).2 b z).1] at e;cases e) (s b u e),λ_ _ _ _ _=>B,λb l=> .inl (sX h d l),w.put h d a i k⟩
def To.xJ{j:Nat}{r:Res}(s:c5 G H)(w:Own M G H)(h:M[j]? =J r)(d:c5 G c)(k:c5 c H)(i:∀b,¬r.fp b->c b=G b):To M G H (M.eraseIdx j) c H:=
 ⟨λ_ _ _ e=>e,d,k,λb u n e _=>i b λz=>n (qT h z),λb a=> .inl (su a),(w.erase j).keep d (λ_ _ _ e=>e) λb a=>by rw[i b λz=>own_apart w h z a];show(w.un (su a)).1⟩
def To.rg{o:HO}(x:To M G H a b c)(n:¬d8 M p)(e:H p=J o)(g:G p=ah)(d:N5 o:=by ext _ h;cases h):c p=J o/\b p=ah/\¬d8 a p:=
 ⟨x.h p o n e,(x.o p o n e d).trans g,λz=>by
  obtain y| y:=x.f p z
  ·show n y
  ·rw[y] at e;cases e⟩
def To.tup(s:c5 G H)(w:Own M G H)(c:H q=J (.tup i)):To M G H M (upd G q (.tup i)) H:=by
 have j:c5 G (upd G q (.tup i)):=λb u e=>by
  cases a:b=q
  ·subst a;rw[s b u e] at c;cases c;show bg
  ·rw[aS a];show e
 show⟨λ_ _ _ e=>e,j,λb u e=> ?_,λb u n e d=> ?_,λ_ h=> .inl h,w.keep j (λ_ _ _ e=>e) λb a=> ?_⟩
 ·cases a:b=q
  ·subst a;rw[bg] at e;cases e;show c
  ·rw[aS a] at e;show s b u e
 ·show aS λa=> ?_;subst a;rw[c] at e;cases e;show d _ B
 ·let⟨k,u,e,d⟩:=w.un a;rw[aS λz=> ?_]
  ·show k
  ·subst z;rw[c] at e;cases e;show d _ B
inductive En:Type 1
 | no
 | im {α:Type} (e:Enc α) (a:α)
def V9(G:Hp):az V->En->Prop
 | _, .no=>True
 | some v, .im e a=>e.rep G v a
 | none, .im _ _=>False
inductive Sl(G:Hp):L2.St->Y En->Prop
 | nil:Sl G [] []
 | cons {v:az V} {x:En} {σ:L2.St} {U:Y En}:V9 G v x->Sl G σ U->Sl G (v::σ) (x::U)
def V9.mono(s:c5 G a):∀{v:az V} {x:En},V9 G v x->V9 a v x
 | some _, .no,_=>cM
 | none, .no,_=>cM
 | some _, .im e _,h=>e.mono s h
 | none, .im _ _,h=>h
def Sl.mono(s:c5 G b){a:L2.St}{U:Y En}(h:Sl G a U):Sl b a U:=by
 induction h with
 | nil=>show .nil
 | cons h _ t=>show .cons (h.mono s) t
def Sl.get:∀{b:L2.St} {U:Y En} {i:Nat},Sl G b U->U[i]? =J (.im e a)->∃v,b[i]? =J (J v)/\e.rep G v a
 | _,_,i, .nil,h=>∅
 | _,_,0, .cons (v:=v) h t,q=>by
   simp at q;subst q;cases v with
   | none=>show h.elim
   | some v=>show⟨v,B,h⟩
 | _,_,i+1, .cons h t,q=>by let⟨v,d,c⟩:=t.get (by simpa using q);show⟨v,∅,c⟩
def Sl.set(r:e.rep G v a):∀{b:L2.St} {U:Y En} (i:Nat),Sl G b U->Sl G (b.set i (J v)) (U.set i (.im e a))
 | _,_,_, .nil=> .nil
 | _,_,0, .cons h t=> .cons r t
 | _,_,i+1, .cons h t=> .cons h (t.set r i)
def Sl.unset:∀{a:L2.St} {U:Y En} (i:Nat),Sl G a U->Sl G (a.set i v) (U.set i .no)
 | _,_,_, .nil=> .nil
 | _,_,0, .cons h t=> .cons (by cases v<;>show cM) t
 | _,_,i+1, .cons h t=> .cons h (t.unset i)
def Sl.append{a b:L2.St}{U c:Y En}(h:Sl G a U)(q:Sl G b c):Sl G (a++b) (U++c):=by
 induction h with
 | nil=>show q
 | cons h _ t=>show .cons h t
def Sl.NI:∀n,Sl G (de n ah) (de n .no)
 | 0=> .nil
 | n+1=> .cons cM (Sl.NI n)
def Sl.len:∀{a:L2.St} {U:Y En},Sl G a U-> ⇑a=⇑U
 | _,_, .nil=>rfl
 | _,_, .cons _ t=>by rw[cX,cX,t.len]
def L6(U:Y En):LN0->Y En
 | []=>U
 | v::a=>(L6 U a).set v .no
def Sl.wipe(h:Sl G b U):∀a,Sl G (L2.wipe b a) (L6 U a)
 | []=>h
 | v::a=>(h.wipe a).unset v
inductive Le:Y En->Y En->Prop
 | nil:Le [] []
 | eq {x:En} {a b:Y En}:Le a b->Le (x::a) (x::b)
 | no {x:En} {a b:Y En}:Le a b->Le (.no::a) (x::b)
def Le.sl{a b:Y En}{c:L2.St}(l:Le a b)(h:Sl G c b):Sl G c a:=by
 induction l generalizing c with
 | nil=>show h
 | eq _ d=>cases h with| cons h t=>show .cons h (d t)
 | no _ d=>cases h with| @cons v _ _ _ h t=>show .cons (by cases v<;>show cM) (d t)
def Le.refl:∀a:Y En,Le a a
 | []=> .nil
 | _::a=> .eq (Le.refl a)
/---/def N(M:Y Res)(U:Y En)(t:TE){β:Type}(e:Enc β)(b:β):Prop:=
 ∀(G H:Hp) (a:L2.St),c5 G H->Own M G H->Sl G a U->∀Q:VK,(∀v c d,To M G H M c d->e.rep c v b->Q v d)->t a H Q
def b4(M:Y Res)(U:Y En)(t:TT)(b:Bool):Prop:=
 ∀(G H:Hp) (a:L2.St),c5 G H->Own M G H->Sl G a U->∀Q:Bool->Hp->Prop,(∀d c,To M G H M d c->Q b c)->t a H Q
def l7(M:Y Res)(U:Y En)(t:TA)(e:Y En):Prop:=
 ∀(G H:Hp) (a:L2.St),c5 G H->Own M G H->Sl G a U->∀Q:Y V->Hp->Prop,(∀b c d,To M G H M c d->Sl c (b.map J) e->Q b d)->t a H Q
structure YY(qa:It)(G:Hp){α:Type}(e:Enc α)(l:Y α):Prop where
 go:∀i H,c5 G H->i<⇑l->qa.go i H
 n_:∀M i G1 H x H',i<⇑l->c5 G G1->c5 G1 H->Own M G1 H->qa.n_ i H x H'->∃a G2,l[i]? =J a/\To M G1 H M G2 H'/\e.rep G2 x a
 stop:∀i H,c5 G H-> ⇑l<=i->qa.stop i H
def y8(M:Y Res)(U:Y En)(f:TI){α:Type}(e:Enc α)(l:Y α):Prop:=
 ∀(G H:Hp) (b:L2.St),c5 G H->Own M G H->Sl G b U->∀R:It->Hp->Prop,(∀a c d,To M G H M c d->YY a c e l->R a d)->f b H R
def r9(g:TG){α:Type}(e:Enc α)(a:α)(U c:Y En)(f:LN0):Prop:=
 ∀(G H:Hp) (d:L2.St) (v:V),c5 G H->Sl G d U->e.rep G v a->∀Q:L2.St->Hp->Prop,(∀b,Sl G b c->L2.wipe b f=L2.wipe d f->Q b H)->g v d H Q
inductive Out:Type 1
 | nx (M:Y Res) (U:Y En)
 | rt (M:Y Res) {β:Type} (e:Enc β) (b:β)
 | bk (M:Y Res) (U:Y En)
 | ct (M:Y Res) (U:Y En)
/---/def Good(M:Y Res)(G H:Hp)(D:Ends):Out->Prop
 | .nx c d=>∀f g a,To M G H c f g->Sl f a d->D.nx a g
 | .rt c e b=>∀v f g,To M G H c f g->e.rep f v b->D.rt v g
 | .bk c d=>∀f g a,To M G H c f g->Sl f a d->D.bk a g
 | .ct c d=>∀f g a,To M G H c f g->Sl f a d->D.ct a g
def b9(M:Y Res)(U:Y En)(t:TS)(Φ:Out->Prop):Prop:=
 ∀(G H:Hp) (a:L2.St),c5 G H->Own M G H->Sl G a U->∀D:Ends,(∀o,Φ o->Good M G H D o)->t D a H
def Good.from(x:To M G H d e f):∀{o:Out},Good M G H D o->Good d e f D o
 | .nx _ _,h=>λb c a t s=>h b c a (x.trans t) s
 | .rt _ _ _,h=>λv b c t r=>h v b c (x.trans t) r
 | .bk _ _,h=>λb c a t s=>h b c a (x.trans t) s
 | .ct _ _,h=>λb c a t s=>h b c a (x.trans t) s
section
def O(h:U[i]? =J (.im e b):=by rfl):N M U (p3 i) e b:=λG H d s w l Q k=>by let⟨v,a,c⟩:=l.get h;show⟨v,a,k v G H (To.refl s w) c⟩
def tU{e:Enc β}(h:∀G,e.rep G v b):N M U (j8 v) e b:=λG H a s w l Q k=>k v G H (To.refl s w) (h G)
def aw{i:Int}:N M U (j8 (.int i)) b5 i:=tU λ_=>B
def dD{i:Int}{n:Nat}(h:i=(n:Int)):N M U (j8 (.int i)) b0 n:=tU λ_=>by rw[h];show B
def oZ{b:Bool}:N M U (j8 (.bl b)) e7 b:=tU λ_=>B
def N.to{e:Enc β}{a:Enc γ}(h:N M U t e b)(q:∀G v,e.rep G v b->a.rep G v c):N M U t a c:=
 λG H d s w l Q k=>h G H d s w l Q λv f g x r=>k v f g x (q _ _ r)
def aq(h:N M U t b0 n):N M U t b5 (n:Int):=h
def N.nat{i:Int}{n:Nat}(h:N M U t b5 i)(e:i=(n:Int)):N M U t b0 n:=by subst e;show h
def N.eq(h:N M U t e b)(q:b=a):N M U t e a:=∅
def N.ints{l:LN0}(h:N M U t (eList b0) l):N M U t (eList b5) (l.map λ(n:Nat)=>(n:Int)):=
 h.to λG v ⟨p,a,b,c,d⟩=>⟨p,a,b,c,by rw[L2.paired_ints,<-vD];show lN.1 d⟩
def b4.eq(h:b4 M U t b)(q:b=a):b4 M U t a:=∅
def f_{r:R2}{g tb:TE}{f:Enc α}{h:Enc β}{i:Enc γ}{a:α}{b:β}{c:γ}(o:N M U g f a)(p:N M U tb h b)(q:∀(G H:Hp) (x y:V) (Q:VK),c5 G H->Own M G H->f.rep G x a->h.rep G y b->(∀v j m,To M G H M j m->i.rep j v c->Q v m)->r x y H Q):N M U (d9 r g tb) i c:=λG H n s w l Q k=>
 o G H n s w l _ λx t u d z=>p t u n d.s d.w (l.mono d.g) _ λy A C e D=>
  q A C x y Q e.s e.w (f.mono e.g z) D λv E I L T=>k v E I ((d.trans e).trans L) T
def nS{g:Int->Int->V}{d tb:TE}{a b:Int}{e:Enc γ}{c:γ}(f:N M U d b5 a)(i:N M U tb b5 b)(h:∀G,e.rep G (g a b) c):N M U (d9 (i5 g) d tb) e c:=
 f_ f i λG H x y Q s w j l k=>⟨a,b,j,l,k _ G H (To.refl s w) (h G)⟩
def CT{C:Int->Int->Prop}{g:Int->Int->V}{d tb:TE}{a b:Int}{e:Enc γ}{c:γ}(f:N M U d b5 a)(i:N M U tb b5 b)(j:C a b)(h:∀G,e.rep G (g a b) c):N M U (d9 (K8 C g) d tb) e c:=
 f_ f i λG H x y Q s w l m k=>⟨a,b,l,m,j,k _ G H (To.refl s w) (h G)⟩
section
variable {ta tb tc:TE} {a b c:Int}
def fj(d:N M U ta b5 a)(e:N M U tb b5 b):N M U (d9 (i5 λi j=> .int (i+j)) ta tb) b5 (a+b):=nS d e λ_=>B
def jb(d:N M U ta b5 a)(e:N M U tb b5 b):N M U (d9 (i5 λi j=> .int (i-j)) ta tb) b5 (a-b):=nS d e λ_=>B
def o_(d:N M U ta b5 a)(e:N M U tb b5 b):N M U (d9 (i5 λi j=> .int (kR i j)) ta tb) b5 (kR a b):=nS d e λ_=>B
def Nc(d:N M U ta b5 a)(e:N M U tb b5 b):N M U (d9 (i5 λi j=> .int (qx i j)) ta tb) b5 (qx a b):=nS d e λ_=>B
def sY(d:N M U ta b5 a)(e:N M U tb b5 b):N M U (d9 (i5 λi j=> .int (mU i j)) ta tb) b5 (mU a b):=nS d e λ_=>B
def fz(d:N M U ta b5 a)(e:N M U tb b5 b):N M U (d9 (i5 λi j=> .bl (decide (i<j))) ta tb) e7 (decide (a<b)):=nS d e λ_=>B
def jg(d:N M U ta b5 a)(e:N M U tb b5 b):N M U (d9 (i5 λi j=> .bl (decide (j<i))) ta tb) e7 (decide (b<a)):=nS d e λ_=>B
def km(d:N M U ta b5 a)(e:N M U tb b5 b):N M U (d9 (i5 λi j=> .bl (decide (j<=i))) ta tb) e7 (decide (b<=a)):=nS d e λ_=>B
def xb(d:N M U ta b5 a)(e:N M U tb b5 b)(f:0<b):N M U (d9 (K8 (λ_ j=>0<j) λi j=> .int (i % j)) ta tb) b5 (a % b):=CT d e f λ_=>B
def pz(d:N M U ta b5 a)(e:N M U tb b5 b)(f:W0 a b):N M U (d9 (K8 W0 λi j=> .int (i*2^j.toNat)) ta tb) b5 (a*2^b.toNat):=CT d e f λ_=>B
def tD(d:N M U ta b5 a)(e:N M U tb b5 b)(f:0<=b):N M U (d9 (K8 (λ_ j=>0<=j) λi j=> .int (i/2^j.toNat)) ta tb) b5 (a/2^b.toNat):=CT d e f λ_=>B
def dP(d:N M U ta b5 a)(e:N M U tb b5 b):N M U (d9 W4 ta tb) e7 (decide (a=b)):=
 f_ d e λG H x y Q s w f g k=>by cases(show x=_ from f);cases(show y=_ from g);rw[aaB];show k _ G H (To.refl s w) B
def fK(d:N M U ta b5 a)(e:N M U tb b5 b):N M U (d9 W3 ta tb) e7 (!decide (a=b)):=
 f_ d e λG H x y Q s w f g k=>by cases(show x=_ from f);cases(show y=_ from g);rw[aaA];show k _ G H (To.refl s w) B
def ND(e:N M U ta b5 a)(h:∀G,f.rep G (g a) c):N M U (M9 (G9 g) ta) f c:=λG H i s w l Q k=>
 e G H i s w l _ λx d j m n=>⟨a,n,k _ d j m (h d)⟩
def fX(d:N M U ta b5 a):N M U (M9 (G9 λi=> .int (-i)) ta) b5 (-a):=ND d λ_=>B
def abn(d:N M U ta b5 a):N M U (M9 (G9 λi=> .int (mV i)) ta) b5 (mV a):=ND d λ_=>B
def Bn{p q:Int->Int->Bool}(n:N M U ta b5 a)(o:N M U tb b5 b)(r:p a b=aa->N M U tc b5 c):N M U (P9 (i5 λi j=> .bl (p i j)) (i5 λi j=> .bl (q i j)) ta tb tc) e7 (p a b && q b c):=λG H f s w l Q k=>
 n G H f s w l _ λx t u d v=>o t u f d.s d.w (l.mono d.g) _ λy g m e A=>by
  cases(show x=_ from v);cases(show y=_ from A);show⟨a,b,B,B,p a b,B,?_⟩;cases h:p a b with
  | false=>show k _ g m (d.trans e) (by rw[h];rfl)
  | true=>show r h g m f e.s e.w ((l.mono d.g).mono e.g) _ λz C D E I=> ?_;cases(show z=_ from I);show⟨b,c,B,B,k _ C D ((d.trans e).trans E) (by rw[h];rfl)⟩
end
section
variable {ta tb:TE} {t u:TT} {a b c d:Bool}
def bh(h:N M U ta e7 c):b4 M U (T8 ta) c:=λG H e s w l Q k=>h G H e s w l _ λv f g x r=>⟨c,r,k f g x⟩
def gK(h:N M U ta e7 c):b4 M U (X3 ta) c:=λG H e s w l Q k=>h G H e s w l _ λv f g x r=>⟨c,r,k f g x⟩
def fi(h:b4 M U t c):b4 M U (af5 t) (!c):=λG H e s w l Q k=>h G H e s w l _ λf g x=>k f g x
def BY:b4 M U Q8 true:=λG H e s w l Q k=>k G H (To.refl s w)
def jE(h:b4 M U t c)(q:c=aa->b4 M U u d):b4 M U (S2 t u) (c && d):=λG H f s w l Q k=>h G H f s w l _ λg i x=>by
 cases e:c with
 | false=>rw[aj ∅];show ⋯
 | true=>rw[ar B];show q e g i f x.s x.w (l.mono x.g) Q λj m n=>by rw[e] at k;show k j m (x.trans n)
def hJ(h:b4 M U t c)(q:c=ak->b4 M U u d):b4 M U (ag8 t u) (c|| d):=λG H f s w l Q k=>h G H f s w l _ λg i x=>by
 cases e:c with
 | true=>rw[ar B];show ⋯
 | false=>rw[aj ∅];show q e g i f x.s x.w (l.mono x.g) Q λj m n=>by rw[e] at k;show k j m (x.trans n)
def nQ(h:N M U ta e7 c)(q:c=aa->N M U tb e7 d):N M U (ae1 ta tb) e7 (c && d):=λG H f s w l Q k=>h G H f s w l _ λv g i x r=>by
 show⟨c,r,?_⟩;cases e:c with
 | false=>rw[aj ∅];show(by rw[e] at k;show k _ g i x B)
 | true=>rw[ar B];show q e g i f x.s x.w (l.mono x.g) Q λj m n o p=>by rw[e] at k;show k j m n (x.trans o) p
def NF(h:N M U ta e7 c)(q:c=ak->N M U tb e7 d):N M U (af4 ta tb) e7 (c|| d):=λG H f s w l Q k=>h G H f s w l _ λv g i x r=>by
 show⟨c,r,?_⟩;cases e:c with
 | true=>rw[ar B];show(by rw[e] at k;show k _ g i x B)
 | false=>rw[aj ∅];show q e g i f x.s x.w (l.mono x.g) Q λj m n o p=>by rw[e] at k;show k j m n (x.trans o) p
def gs(h:b4 M U t c)(r:c=aa->N M U ta e x)(v:c=ak->N M U tb e y):N M U (ag9 t ta tb) e (if c=aa then x else y):=λG H g s w l Q k=>h G H g s w l _ λo p f=>by
 cases q:c with
 | true=>rw[ar B];show r q o p g f.s f.w (l.mono f.g) Q λi j m n z=>k i j m (f.trans n) ∅
 | false=>rw[aj ∅];show v q o p g f.s f.w (l.mono f.g) Q λi j m n z=>k i j m (f.trans n) ∅
def zf(h:aU F e l):e.isEmpty=l.isEmpty:=by cases h<;>rfl
def bT(h:N M U ta (eList e) l):b4 M U (O1 K ta) (!l.isEmpty):=λG H f s w q Q k=>h G H f s w q _ λv g i x ⟨p,j,m,n,o⟩=>by subst m;show⟨!l.isEmpty, .inl ⟨j,SqL.of (x.s _ _ n),by rw[zf o]⟩,k g i x⟩
def lj(h:N M U ta (eList e) l)(q:l= []->N M U tb (eList e) m):N M U (Z3 K ta tb) (eList e) (if l= [] then m else l):=λG H f s w z Q k=>h G H f s w z _ λv g i x r=>by
 let⟨p,j,n,o,y⟩:=id r;subst n;show⟨!j.isEmpty, .inl ⟨j,SqL.of (x.s _ _ o),B⟩,?_⟩;rw[zf y];cases l with
 | nil=>rw[aj ⋯];show q B g i f x.s x.w (z.mono x.g) Q λA C D E I=>k A C D (x.trans E) ∅
 | cons a l=>rw[ar ∅];show k _ g i x ∅
end
section
variable {ta tb tc:TE} {tr:TA}
def dn:l7 M U c7 []:=λG H a s w l Q k=>k [] G H (To.refl s w) .nil
def df(h:N M U ta e b)(q:l7 M U tr f):l7 M U (b8 ta tr) (.im e b::f):=λG H c s w l Q k=>
 h G H c s w l _ λv g i a j=>q g i c a.s a.w (l.mono a.g) _ λm n o d p=>k (v::m) n o (a.trans d) (.cons (e.mono d.g j) p)
def R4(M:Y Res)(U:Y En)(t:TA)(e:Enc β)(l:Y β):Prop:=∀(G H:Hp) (a:L2.St),c5 G H->Own M G H->Sl G a U->∀Q:Y V->Hp->Prop,(∀b c d,To M G H M c d->aU (e.rep c) b l->Q b d)->t a H Q
def bN:R4 M U c7 e []:=λG H a s w l Q k=>k [] G H (To.refl s w) .nil
def bj(h:N M U ta e b)(q:R4 M U tr e f):R4 M U (b8 ta tr) e (b::f):=λG H c s w l Q k=>
 h G H c s w l _ λv g i a j=>q g i c a.s a.w (l.mono a.g) _ λm n o d p=>k (v::m) n o (a.trans d) (.cons (e.mono d.g j) p)
def cv(h:R4 M U tr e l)(d: ⇑l<=aV:=by show el B):N M U (M3 tr) (eList e) l:=λG H f s w z Q k=>h G H f s w z _ λg i j a b=>
 ⟨by rw[dU b];show d,λp c=>k _ _ _ (a.trans (To.new a.s a.w c _)) ⟨p,g,B,bg,fG (λ_ _=>e.mono (To.new a.s a.w c _).g) b⟩⟩
def LP(h:R4 M U tr e l)(d: ⇑l<=aV):N M U (U9 tr) (l9 e) l:=λG H f s w z Q k=>h G H f s w z _ λg i j a b=>
 ⟨by rw[dU b];show d,λp c=>k _ _ _ (a.trans (To.new a.s a.w c _)) ⟨p,g,B,bg,fG (λ_ _=>e.mono (To.new a.s a.w c _).g) b⟩⟩
def g_(h:N M U ta e a)(i:N M U tb f b):N M U (U9 (b8 ta (b8 tb c7))) (h8 e f) (a,b):=λG H g s w l Q k=>
 h G H g s w l _ λx j m c o=>i j m g c.s c.w (l.mono c.g) _ λy t u d q=>⟨by change 2<=aV;decide,λp r=>by let n:=To.new d.s d.w r (.tup [x,y]);show k _ _ _ ((c.trans d).trans n) ⟨p,x,y,B,bg,e.mono (d.g.trans n.g) o,f.mono n.g q⟩⟩
def wJ(m:N M U ta e a)(o:N M U tb f b)(q:N M U tc g c):N M U (U9 (b8 ta (b8 tb (b8 tc c7)))) (Q5 e f g) (a,b,c):=λG H j s w l Q k=>
 m G H j s w l _ λx r t d u=>o r t j d.s d.w (l.mono d.g) _ λy v A h C=>q v A j h.s h.w ((l.mono d.g).mono h.g) _ λz I L i D=>⟨by change 3<=aV;decide,λp E=>by let n:=To.new i.s i.w E (.tup [x,y,z]);show k _ _ _ (((d.trans h).trans i).trans n) ⟨p,x,y,z,B,bg,e.mono ((h.g.trans i.g).trans n.g) u,f.mono (i.g.trans n.g) C,g.mono n.g D⟩⟩
end
section
variable {ta ti:TE}
def AK(h:aU F a l)(e:n4 l i=J b):∃v,n4 a i=J v/\F v b:=by
 delta n4 at e⊢;rw[dU h];cases q:G5 ⇑l i with
 | none=>rw[q] at e;cases e
 | some j=>rw[q] at e;let⟨v,c,d⟩:=qW h e;show⟨v,c,d⟩
def cw{e:Enc α}{l:Y α}{i:Int}{b:α}(a:N M U ta (eList e) l)(c:N M U ti b5 i)(h:n4 l i=J b):N M U (d9 (E4 K) ta ti) e b:=
 f_ a c λG H x y Q s w ⟨p,d,f,g,j⟩ m k=>by let⟨v,n,o⟩:=AK j h;show⟨p,d,i,v,f,m,SqL.of (s _ _ g),n,k v G H (To.refl s w) o⟩
def pA{e:Enc α}{l:Y α}{i:Int}{b:α}(a:N M U ta (l9 e) l)(c:N M U ti b5 i)(h:n4 l i=J b):N M U (d9 (C7 K) ta ti) e b:=
 f_ a c λG H x y Q s w ⟨p,d,f,g,j⟩ m k=>by let⟨v,n,o⟩:=AK j h;show⟨p,d,i,v,f,m,d7.of (s _ _ g),n,k v G H (To.refl s w) o⟩
def jH{a:α×β}(b:N M U ta (h8 e f) a):N M U (d9 (C7 K) ta (j8 (.int 0))) e a.1:=
 f_ b (aw) λG H x y Q s w ⟨p,u,v,c,d,g,i⟩ h k=>⟨p,_,0,u,c,h,d7.of (s _ _ d),B,k u G H (To.refl s w) g⟩
def mh{a:α×β}(b:N M U ta (h8 e f) a):N M U (d9 (C7 K) ta (j8 (.int 1))) f a.2:=
 f_ b (aw) λG H x y Q s w ⟨p,u,v,c,d,i,g⟩ h k=>⟨p,_,1,v,c,h,d7.of (s _ _ d),B,k v G H (To.refl s w) g⟩
def I0(M:Y Res)(U:Y En)(t:TO)(o:az Int):Prop:=∀(G H:Hp) (a:L2.St),c5 G H->Own M G H->Sl G a U->∀Q:az Int->Hp->Prop,(∀c b,To M G H M c b->Q o b)->t a H Q
def ma:I0 M U ac0 none:=λG H a s w l Q k=>k G H (To.refl s w)
def iq(h:N M U t b5 i):I0 M U (ad6 t) (J i):=λG H a s w l Q k=>h G H a s w l _ λv b c x r=>⟨i,r,k b c x⟩
/---/def cut(a:Y α)(lo b:az Int):Y α:=(a.drop (HT.d3 ⇑a 0 lo)).take (HT.d3 ⇑a ⇑a b-HT.d3 ⇑a 0 lo)
def Ly:∀{a:Y V} {l:Y α} (n:Nat),aU F a l->aU F (a.drop n) (l.drop n)
 | _,_,0,h=>h
 | _,_,n+1, .nil=> .nil
 | _,_,n+1, .cons _ t=>Ly n t
def BC:∀{a:Y V} {l:Y α} (n:Nat),aU F a l->aU F (a.take n) (l.take n)
 | _,_,0,h=> .nil
 | _,_,n+1, .nil=> .nil
 | _,_,n+1, .cons r t=> .cons r (BC n t)
def wY{a b:Y V}{l m:Y α}(h:aU F a l)(k:aU F b m):aU F (a++b) (l++m):=h.rec k λr _ t=> .cons r t
def ME{F:V->α->Prop}{a:Y V}{l:Y α}{lo b:az Int}(h:aU F a l):aU F (C9 a lo b) (cut l lo b):=by delta C9 cut;rw[dU h];show BC _ (Ly _ h)
def nP{tl g:TO}{e:Enc α}{l:Y α}{lo d:az Int}(i:N M U ta (eList e) l)(j:I0 M U tl lo)(m:I0 M U g d):N M U (S8 (S4 K) ta tl g) (eList e) (cut l lo d):=λG H f s w z Q k=>
 i G H f s w z _ λv o r a t=>j o r f a.s a.w (z.mono a.g) _ λu x b=>m u x f b.s b.w ((z.mono a.g).mono b.g) _ λE I c=>by let⟨p,h,y,A,C⟩:=(eList e).mono (b.g.trans c.g) t;show⟨p,h,y,SqL.of (c.s _ _ A),λq D=> ?_⟩;let n:=To.new c.s c.w D (.lst (C9 h lo d));show k _ _ _ (((a.trans b).trans c).trans n) ⟨q,_,B,bg,ME (fG (λ_ _=>e.mono n.g) C)⟩
def MY{tl g:TO}{e:Enc α}{l:Y α}{lo d:az Int}(j:N M U ta (l9 e) l)(m:I0 M U tl lo)(o:I0 M U g d)(r:¬(HT.d3 ⇑l 0 lo=0/\HT.d3 ⇑l ⇑l d=⇑l)):N M U (S8 (Z7 K) ta tl g) (l9 e) (cut l lo d):=λG H f s w z Q k=>
 j G H f s w z _ λv t u a x=>m t u f a.s a.w (z.mono a.g) _ λy A b=>o y A f b.s b.w ((z.mono a.g).mono b.g) _ λI L c=>by let⟨p,h,C,D,i⟩:=(l9 e).mono (b.g.trans c.g) x;show⟨p,h,C,d7.of (c.s _ _ D),by rw[dU i];show r,λq E=> ?_⟩;let n:=To.new c.s c.w E (.tup (C9 h lo d));show k _ _ _ (((a.trans b).trans c).trans n) ⟨q,_,B,bg,ME (fG (λ_ _=>e.mono n.g) i)⟩
end
section
variable {ta tb:TE}
def fY{l m:Y α}(f:N M U ta (eList e) l)(g:N M U tb (eList e) m)(h: ⇑l+⇑m<=aV):N M U (d9 ag0 ta tb) (eList e) (l++m):=
 f_ f g λG H x y Q s w ⟨p,a,i,j,b⟩ ⟨q,c,o,r,d⟩ k=>⟨p,q,a,c,i,o,s _ _ j,s _ _ r,by rw[dU b,dU d];show h,λz t=>by let n:=To.new s w t (.lst (a++c));show k _ _ _ n ⟨z,_,B,bg,wY (fG (λ_ _=>e.mono n.g) b) (fG (λ_ _=>e.mono n.g) d)⟩⟩
def MD{F:V->α->Prop}{a:Y V}{l:Y α}(h:aU F a l):∀n,aU F (de n a).flatten (de n l).flatten
 | 0=> .nil
 | n+1=>by rw[rM,rM,qj,qj];show wY h (MD h n)
def tK{l:LN0}(a:N M U ta b0 x)(b:N M U tb (eList b0) l):N M U (d9 (N2 K ak) ta tb) e7 (l.contains x):=
 f_ a b λG H u y Q s w c ⟨p,g,d,e,f⟩ k=>by cases(show u=_ from c);rw[d];show Zx (s _ _ (by rw[e,lN.1 f])) (k _ G H (To.refl s w) B)
def KH{l:LN0}(a:N M U ta b0 x)(b:N M U tb (eList b0) l):N M U (d9 (N2 K aa) ta tb) e7 (!l.contains x):=
 f_ a b λG H u y Q s w c ⟨p,g,d,e,f⟩ k=>by cases(show u=_ from c);rw[d];show SF (s _ _ (by rw[e,lN.1 f])) (k _ G H (To.refl s w) B)
end
section
variable {tl:TE} {tr:TA}
def bX(h:N M U tl (eList e) l):y8 M U (U6 K tl) e l:=λG H m s w z R k=>h G H m s w z _ λv n o x ⟨p,a,q,c,d⟩=>by let E:=dU d;show⟨p,q,⟨a,SqL.of (x.s _ _ c)⟩,k _ n o x ⟨λi H s f=>⟨a,a[i],SqL.of (s _ _ c),⋯⟩,λt i A I u L f g j C y=> ?_,λi H s f=>⟨a,SqL.of (s _ _ c),∅⟩⟩⟩;let⟨rfl,y⟩:=y;let⟨b,D,r⟩:=nA d (y a (SqL.of (j _ _ (g _ _ c))));show⟨b,A,D,To.refl j C,e.mono g r⟩
def abg(h:N M U tl (l9 e) l):y8 M U (aa5 K tl) e l:=λG H m s w z R k=>h G H m s w z _ λv n o x ⟨p,a,q,c,d⟩=>by let E:=dU d;show⟨p,q,⟨a,d7.of (x.s _ _ c)⟩,k _ n o x ⟨λi H s f=>⟨a,a[i],d7.of (s _ _ c),⋯⟩,λt i A I u L f g j C y=> ?_,λi H s f=>⟨a,d7.of (s _ _ c),∅⟩⟩⟩;let⟨rfl,y⟩:=y;let⟨b,D,r⟩:=nA d (y a (d7.of (j _ _ (g _ _ c))));show⟨b,A,D,To.refl j C,e.mono g r⟩
def sV{n:Nat}(h:N M U tl b5 (n:Int))(l:n<2^62):y8 M U (af2 (b8 tl c7)) b0 (bR n):=λG H b s w z R k=>
 h G H b s w z _ λv c d x r=>⟨n,by cases(show v=_ from r);rfl,∅,⋯,k _ c d x ⟨λi H s a=>by rw[fm] at a;show a,λe i f m u o a p g j y=>by let⟨rfl,y⟩:=y;rw[fm] at a;show⟨i,f,∅,To.refl g j,by rw[y,Int.zero_add];rfl⟩,λi H s a=>by rw[fm] at a;show a⟩⟩
def Zs{i j:Nat}(h:N M U tl b5 (i:Int))(c:N M U tb b5 (j:Int))(A:i<2^62)(C:j<2^62):y8 M U (af1 (b8 tl (b8 tb c7))) b0 (vJ i (j-i)):=λG H b s w z R k=>
 h G H b s w z _ λv d e x r=>c d e b x.s x.w (z.mono x.g) _ λu f g l m=>⟨i,j,by cases(show v=_ from r);cases(show u=_ from m);rfl,⟨∅,⋯,∅,⋯⟩,k _ f g (x.trans l) ⟨λq H s a=>by
  rw[yN] at a;change q<((j:Int)-(i:Int)).toNat
  cbv,λn q o D u E a I p t y=>by
  let⟨rfl,y⟩:=y;rw[yN] at a;show⟨i+q,o,by simp[List.getElem?_range',a],To.refl p t,y⟩,λq H s a=>by
  rw[yN] at a;change((j:Int)-(i:Int)).toNat<=q
  cbv⟩⟩
def acb(lo c:Int)(n:Nat)(G:Hp):YY (ab6 lo c n) G b5 ((bR n).map λ(i:Nat)=>lo+(i:Int)*c):=
 ⟨λi H s a=>by rw[aF,fm] at a;show a,λb i d g u h a j e f y=>by let⟨rfl,y⟩:=y;rw[aF,fm] at a;show⟨lo+i*c,d,∅,To.refl e f,y⟩,λi H s a=>by rw[aF,fm] at a;show a⟩
def wF(h:N M U tl b5 i)(e:N M U tb b5 j)(f:N M U g b5 c)(l:K7 i j c n):y8 M U (af0 (b8 tl (b8 tb (b8 g c7)))) b5 ((bR n).map λ(k:Nat)=>i+(k:Int)*c):=λG H b s w z R k=>
 h G H b s w z _ λv m o x r=>e m o b x.s x.w (z.mono x.g) _ λu p t a y=>f p t b a.s a.w ((z.mono x.g).mono a.g) _ λq d A C D=>⟨i,j,c,n,by cases(show v=_ from r);cases(show u=_ from y);cases(show q=_ from D);rfl,l,k _ d A ((x.trans a).trans C) (acb i c n d)⟩
def Zz{l:Y α}{i:Nat}{b:α}(h:l[i]? =J b):(l.zipIdx.map λx=>(x.2,x.1))[i]? =J (i,b):=∅
def kf{e:Enc α}{l:Y α}(h:N M U tl (eList e) l):y8 M U (U7 K (b8 tl c7)) (h8 b0 e) (l.zipIdx.map λx=>(x.2,x.1)):=λG H m s w z R k=>h G H m s w z _ λv o q x ⟨p,a,t,c,f⟩=>by let I:=dU f;subst t;show⟨p,a,B,SqL.of (x.s _ _ c),k _ o q x ⟨λi H s d=>⟨a,a[i]'(by simp at d;cbv),SqL.of (s _ _ c),⋯⟩,λA i L Q u H' d g j C y=> ?_,λi H s d=>⟨a,SqL.of (s _ _ c),by simp at d;cbv⟩⟩⟩;let⟨T,z,rfl,D,rfl,y⟩:=y;let⟨b,E,r⟩:=nA f (y a (SqL.of (j _ _ (g _ _ c))));let n:=To.new j C D (.tup [.int i,z]);show⟨(i,b),_,Zz E,n,T, .int i,z,B,bg,B,e.mono (g.trans n.g) r⟩
def Q9:Enc Str:=⟨λ_ v x=>v= .str x,λ_ h=>h⟩
def abh(h:N M U tl Q9 x):y8 M U (ag1 tl) Q9 (x.cps.toList.map λc=>(⟨#[c]⟩:Str)):=λG H b s w z R k=>h G H b s w z _ λv d e t r=>by
 show⟨x,r,k _ d e t ⟨λi H s a=> ?_,λf i g m u n a o j l y=> ?_,λi H s a=> ?_⟩⟩
 ·rw[aF,fR] at a;show a
 ·let⟨rfl,c,y,rfl⟩:=y;show⟨⟨#[c]⟩,g,?_,To.refl j l,B⟩;rw[cP,rH,y];rfl
 ·rw[aF,fR] at a;show a
end
def AV:∀{a:LN0},i∈a->L2.wipe (b.set i v) a=L2.wipe b a
 | j::a,h=>by
   change(L2.wipe (b.set i v) a).set j ah=(L2.wipe b a).set j ah;cases q:i∈a
   ·rw[AV q]
   ·have e:i=j:=by simpa[q] using h
    subst e;have:∀a:LN0,i∉a->L2.wipe (b.set i v) a=(L2.wipe b a).set i v:=by
     ext a;induction a with
     | nil=>ext _;rfl
     | cons k a d=>ext c;erw[cp,not_or] at c;change(L2.wipe (b.set i v) a).set k ah=((L2.wipe b a).set k ah).set i v;rw[d c.2,List.set_comm _ _ c.1]
    rw[this a q,List.set_set]
def Ii(a:LN0):L2.wipe (L2.wipe c a) a=L2.wipe c a:=by
 have:∀b:LN0,(∀x∈b,x∈a)->L2.wipe (L2.wipe c b) a=L2.wipe c a:=by
  ext b;induction b with
  | nil=>ext _;rfl
  | cons k b d=>ext h;change L2.wipe ((L2.wipe c b).set k ah) a=_;rw[AV (h k ∅),d λx e=>h x ∅]
 show this a λ_ h=>h
def aJ(h:i∈b:=by simp):r9 (p9 i) e a U (U.set i (.im e a)) b:=λG H c v s l r Q k=>k _ (l.set r i) (AV h)
def ef(i:r9 j e a.1 U b h)(m:r9 n f a.2 b c h):r9 (S5 K 2 (Q4 j (Q4 n aa7))) (h8 e f) a U c h:=λG H o v s l ⟨p,x,y,q,r,t,u⟩ Q k=>
 ⟨p, [x,y],q,d7.of (s _ _ r),B,x, [y],B,i G H o x s l t _ λd w z=>⟨y, [],B,m G H d y s w u _ λg A C=>⟨B,k g A (C.trans z)⟩⟩⟩
def qS(n:r9 o e a.1 U b c)(q:r9 r f a.2.1 b d c)(t:r9 u g a.2.2 d h c):r9 (S5 K 3 (Q4 o (Q4 r (Q4 u aa7)))) (Q5 e f g) a U h c:=λG H w v s l ⟨p,x,y,z,A,C,D,E,I⟩ Q k=>
 ⟨p, [x,y,z],A,d7.of (s _ _ C),B,x, [y,z],B,n G H w x s l D _ λi L T=>⟨y, [z],B,q G H i y s L E _ λj l2 e2=>⟨z, [],B,t G H j z s l2 I _ λm l3 e3=>⟨B,k m l3 (e3.trans (e2.trans T))⟩⟩⟩⟩
def c8(p:ab)(e:Enc α)(l:Y α):Res:=⟨λb=>b=p,λG H=>∃a,H p=J (.lst a)/\aU (e.rep G) a l,λg k ⟨a,c,d⟩=>⟨a,k p _ B c,fG (λ_ _=>e.mono g) d⟩⟩
def b6:Enc ab:=⟨λ_ v p=>v= .ref p,λ_ h=>h⟩
def r8(M:Y Res)(U:Y En)(t:TE)(r:ab->Res):Prop:=
 ∀(G H:Hp) (a:L2.St),c5 G H->Own M G H->Sl G a U->∀Q:VK,(∀p c b,To M G H (M++ [r p]) c b->Q (.ref p) b)->t a H Q
def HG(M:Y α)(x:α):(M++ [x]).eraseIdx ⇑M=M:=⋯
def Xg(M:Y α)(x:α):(M++ [x])[⇑M]? =J x:=⋯
def To.Lu(s:c5 G H)(w:Own M G H)(h:M[j]? =J (c8 p e l)):∃a,To M G H (M.eraseIdx j) a H/\(eList e).rep a (.ref p) l:=by
 let⟨⟨c,k,m⟩,q⟩:=cu w h;let d:=(q p B).1;show⟨upd G p (.lst c),To.xJ s w h (c5.sF d) (λb u e=>by
  cases i:b=p
  ·subst i;rw[bg] at e;cases e;show k
  ·rw[aS i] at e;show s b u e) (λb n=>aS n),p,c,B,bg,fG (λ_ _=>e.mono (c5.sF d)) m⟩
def r8.ev(h:r8 M U t λp=>c8 p e l):N M U t (eList e) l:=λG H b s w z Q k=>h G H b s w z Q λp f c x=>by let⟨d,a,r⟩:=To.Lu x.s x.w (Xg M (c8 p e l));rw[HG] at a;show k _ d c (x.trans a) r
def To.newList(s:c5 G H)(w:Own M G H)(c:H p=ah)(h:aU (e.rep G) a l):To M G H (M++ [c8 p e l]) G (upd H p (.lst a)):=
 To.own s w c (c8 p e l) (λb=>pB) ⟨a,bg,h⟩
def iu(h:R4 M U c e l)(d: ⇑l<=aV):r8 M U (M3 c) λp=>c8 p e l:=λG H f s w z Q k=>h G H f s w z _ λi j m a b=>
 ⟨by rw[dU b];show d,λp g=>k p _ _ (a.trans (To.newList a.s a.w g b))⟩
def ML(g:N M U ta (eList e) l)(h:N M U tb b5 i)(c: -(2^63)<=i/\i<2^63)(j: ⇑l*i.toNat<=aV):r8 M U (d9 af8 ta tb) λp=>c8 p e (de i.toNat l).flatten:=λG H d s w z Q k=>
 g G H d s w z _ λx m n b o=>h m n d b.s b.w (z.mono b.g) _ λy C D a r=>by let⟨p,t,u,v,f⟩:=(eList e).mono a.g o;show⟨p,i,t,u,r,a.s _ _ v,c.1,c.2,by rw[dU f];show j,λq A=>k q _ _ ((b.trans a).trans (To.newList a.s a.w A (MD f _)))⟩
def Nz(hi:y8 M U wi e l)(p:α->Bool)(f:α->β)(step:∀a,a∈l->∃s,r9 g e a (L6 U vs) s vs/\b4 M s tt (p a)/\(p a=aa->N M s te L (f a)))(hz: ⇑l<aV):r8 M U (E7 wi g tt te vs) λq=>c8 q L ((l.filter p).map f):=λG0 H0 σ s0 w0 z Q k=>
 hi G0 H0 σ s0 w0 z _ λd G1 H1 I j D T=>by
  let gD:=rW I.s T;let nD:=wA I.w T;show⟨λi m H=>m=⇑l-i/\i<= ⇑l/\∃G o,To M G1 H1 M G H/\G D=ah/\H D=J (.lst o)/\ ⇑o<=i/\aU (L.rep G) o (((l.take i).filter p).map f),⟨⇑l,∅,eT _,G1, [],To.ug I.s I.w T _,gD,bg,br _,by rw[kS];show .nil⟩,?_⟩;ext i m H ⟨rfl,hi,G,o,x,gd,hd,hl,pr⟩;cases t:i<⇑l
  ·refine .inr ⟨j.go i H (x.g.trans x.s) t,λC=>i+1<= ⇑l/\∃G o,To M G1 H1 M G C/\G D=ah/\C D=J (.lst o)/\ ⇑o<=i+1/\aU (L.rep G) o (((l.take (i+1)).filter p).map f),
    λC h'=>⟨⇑l-(i+1),⋯,B,h'.1,h'.2⟩,λu C y=> ?_⟩
   let⟨a,G',ha,v,r⟩:=j.n_ M i G H u C t x.g x.s x.w y;let⟨kA,DL,_⟩:=v.rg nD hd gd;let⟨s,hg,ht,he⟩:=step a (cD ha);let e1:l.take (i+1)=l.take i++ [a]:=take_snoc ha;show hg G' C _ u v.s ((((z.mono I.g).mono x.g).mono v.g).wipe vs) r _ λjL l2 e2=>⟨by rw[e2,Ii],ht G' C jL v.s v.w l2 _ λG3 H3 A=> ?_⟩;let⟨Oh,Ou,_⟩:=A.rg nD kA DL;cases q:p a with
   | true=>
     rw[ar B];show he q G3 H3 jL A.s A.w (l2.mono A.g) _ λy4 G4 H4 x4 r4=> ?_;let⟨DJ,um,_⟩:=x4.rg nD Oh Ou;let E:=((x.trans v).trans A).trans x4;show⟨o,DJ,⋯,t,G4,o++ [y4],⟨λb u n e=> ?_,E.g,λb u e=> ?_,E.o,E.f,E.w.keep (λ_ _ e=>e) (λb u w e=> ?_) λb w=>(E.w.un w).1⟩,um,bg,∅,?_⟩
     ·rw[aS (eE e T)];show E.h b u n e
     ·rw[aS (eE e um)];show E.s b u e
     ·rw[aS (show b≠D from λc=>nD ∅)];show e
     ·rw[e1,lH,fB,fA,ar q];show wy (fG (λ_ _=>L.mono ((v.g.trans A.g).trans x4.g)) pr) r4
   | false=>rw[aj ∅];show⟨t,G3,o,(x.trans v).trans A,Ou,Oh,∅,?_⟩;rw[e1,lH,fB,fA,aj ∅,Ic,nc,eS];show fG (λ_ _=>L.mono (v.g.trans A.g)) pr
  ·have e1:i=⇑l:=by lk
   subst e1;rw[fe] at pr;show .inl ⟨j.stop _ H (x.g.trans x.s) (br _),k D G H (I.trans ⟨x.h,x.g,x.s,x.o,λb w=> ?_,fD.2 ⟨x.w,⟨⟨o,hd,pr⟩,λb w=> ?_,cM⟩,λb w z=> ?_⟩⟩)⟩
   ·obtain c| c:=fq.1 w
    ·show .inl c
    ·obtain c| c:=fg.1 c
     ·rw[show b=D from c];show .inr T
     ·show(gA c).elim
   ·rw[show b=D from w];show⟨gd,⟨_,hd,by ext _ h;cases h⟩,gA⟩
   ·obtain c| c:=fg.1 z
    ·rw[show b=D from c] at w;show nD w
    ·show gA c
def eJ(d:y8 M U h e l)(p:α->Bool)(f:α->β)(step:∀a,a∈l->∃b,r9 g e a (L6 U c) b c/\b4 M b i (p a)/\(p a=aa->N M b j er (f a)))(k: ⇑l<aV):N M U (E7 h g i j c) (eList er) ((l.filter p).map f):=(Nz d p f step k).ev
def ei(d:y8 M U h e l)(f:α->β)(step:∀a,a∈l->∃b,r9 g e a (L6 U c) b c/\N M b i er (f a))(j: ⇑l<aV):N M U (E7 h g Q8 i c) (eList er) (l.map f):=by have:=eJ d (λ_=>aa) f (λa k=>let⟨b,m,n⟩:=step a k;⟨b,m,BY,λ_=>n⟩) j;rw[yJ.2 λ_ _=>B] at this;show this
def aaT(d:y8 M U h e l)(f:α->β)(step:∀a,a∈l->∃b,r9 g e a (L6 U c) b c/\N M b i er (f a))(j: ⇑l<aV):r8 M U (E7 h g Q8 i c) λq=>c8 q er (l.map f):=by have:=Nz d (λ_=>aa) f (λa k=>let⟨b,m,n⟩:=step a k;⟨b,m,BY,λ_=>n⟩) j;rw[yJ.2 λ_ _=>B] at this;show this
end
def V7(u:TS)(Φ:Out->Prop):Out->Prop
 | .nx M U=>b9 M U u Φ
 | .rt M e b=>Φ (.rt M e b)
 | .bk M U=>Φ (.bk M U)
 | .ct M U=>Φ (.ct M U)
def aE(h:b9 M U t (V7 u Φ)):b9 M U (E1 t u) Φ:=λG H g s w l D k=>h G H g s w l _ λo d=>by
 cases o with
 | nx a c=>show λi j f x m=>(show b9 a c u Φ from d) i j f x.s x.w m D λo d=>(k o d).from x
 | rt a e b=>show k (.rt a e b) d
 | bk a c=>show k (.bk a c) d
 | ct a c=>show k (.ct a c) d
def cA(h:Φ (.nx M U)):b9 M U Q1 Φ:=λG H a s w l D k=>k _ h G H a (To.refl s w) l
def AZ(h:Φ (.bk M U)):b9 M U ad0 Φ:=λG H a s w l D k=>k _ h G H a (To.refl s w) l
def aA(h:N M U t e b)(q:Φ (.rt M e b):=by show⟨(),B,λ_ _ r=>r⟩):b9 M U (E3 t) Φ:=λG H a s w l D k=>h G H a s w l _ λv c d x r=>k _ q v c d x r
def iQ(h:N M U t e b)(q:Φ (.nx M (U.set i (.im e b)))):b9 M U (w8 t (p9 i)) Φ:=λG H a s w l D k=>h G H a s w l _ λv c d x r=>k _ q c d _ x ((l.mono x.g).set r i)
def eh(h:r8 M U t r)(q:∀p,Φ (.nx (M++ [r p]) (U.set i (.im b6 p)))):b9 M U (w8 t (p9 i)) Φ:=λG H a s w l D k=>h G H a s w l _ λp b c x=>k _ (q p) b c _ x ((l.mono x.g).set B i)
def wm{i:Nat}{g:Int->Int->Int}{a b c:Nat}(d:U[i]? =J (.im b0 a))(h:N M U t b5 (b:Int))(e:g a b=(c:Int))(q:Φ (.nx M (U.set i (.im b0 c)))):b9 M U (V2 i t (i5 λi j=> .int (g i j))) Φ:=λG H f s w l D k=>by let⟨v,m,n⟩:=l.get d;show⟨v,m,h G H f s w l _ λy o p x r=>⟨a,b,n,r,k _ q o p _ x ((l.mono x.g).set (by change V.int (g a b)=_;rw[e]) i)⟩⟩
def bZ(h:b4 M U c b)(i:b=aa->b9 M U t Φ)(j:b=ak->b9 M U u Φ):b9 M U (O7 c t u) Φ:=λG H a s w l D k=>h G H a s w l _ λf g x=>by
 cases e:b with
 | true=>rw[ar B];show i e f g a x.s x.w (l.mono x.g) D λo d=>(k o d).from x
 | false=>rw[aj ∅];show j e f g a x.s x.w (l.mono x.g) D λo d=>(k o d).from x
def b9.mono(h:b9 M U t Φ)(q:∀o,Φ o->a o):b9 M U t a:=λG H b s w l D k=>h G H b s w l D λo c=>k o (q o c)
def cZ(h:b4 M U c aa)(q:b9 M U t (V7 r Φ)):b9 M U (E1 (O7 c t u) r) Φ:=aE (bZ h (λ_=>q) λh=>nomatch h)
def bo{t:TE}{u:TS}{i:Nat}{e:Enc β}{b:β}(h:N M U t e b)(q:b9 M (U.set i (.im e b)) u Φ):b9 M U (E1 (w8 t (p9 i)) u) Φ:=aE (iQ h q)
def dF(h:b4 M U c ak)(q:b9 M U r Φ):b9 M U (E1 (O7 c t Q1) r) Φ:=aE (bZ h (λh=>nomatch h) λ_=>cA q)
def gr(h:M[j]? =J (c8 p e l))(c:U[i]? =J (.im b6 p))(q:b9 (M.eraseIdx j) (U.set i (.im (eList e) l)) t Φ):b9 M U t Φ:=λG H a s w z D k=>by let⟨d,x,r⟩:=To.Lu s w h;let⟨v,f,g⟩:=z.get c;cases(show v=_ from g);let b:=(z.mono x.g).set r i;let m:a.set i (J (.ref p))=a:=set_same f;rw[m] at b;show q d H a x.s x.w b D λo n=>(k o n).from x
def Q7(Φ:Out->Prop)(a:Y Res->Y En->Prop):Out->Prop
 | .nx M U=>a M U
 | .rt M e b=>Φ (.rt M e b)
 | .bk M U=>Φ (.nx M U)
 | .ct M U=>a M U
def vP(W:Nat->Y Res->Y En->Prop)(Q:∃m,W m M U)(hs:∀m h i,W m h i->∃b,b4 h i c b/\(b=aa->b9 h i tb (Q7 Φ λT mu=>∃p f,p<m/\Le f mu/\W p T f))/\(b=ak->Φ (.nx h i))):b9 M U (Y2 c tb) Φ:=λG H σ s w l D k=>by
 let⟨m0,Q⟩:=Q;show⟨λm q H1=>∃h i E,W m h i/\To M G H h E H1/\Sl E q i,⟨m0,M,U,G,Q,To.refl s w,l⟩,?_⟩;ext m q H1 ⟨h,i,E,hw,x,l1⟩;let⟨b,ht,hb,he⟩:=hs m h i hw;show ht E H1 q x.s x.w l1 _ λG2 H2 A=> ?_;cases e:b with
 | false=>rw[aj ∅];show k _ (he e) G2 H2 q (x.trans A) (l1.mono A.g)
 | true=>
   rw[ar B];show⟨λj r=>∃p g f n,p<m/\W p g f/\To M G H g n r/\Sl n j f,λj r ⟨p,g,f,n,a,b,c,d⟩=>⟨p,a,g,f,n,b,c,d⟩,?_⟩;show hb e G2 H2 q A.s A.w (l1.mono A.g) _ λo I=> ?_;let L:=x.trans A;cases o with
   | nx g f=>let⟨p,t,hm,u,y⟩:=I;show λn r j z C=>⟨p,g,t,n,hm,y,L.trans z,u.sl C⟩
   | ct g f=>let⟨p,t,hm,u,y⟩:=I;show λn r j z C=>⟨p,g,t,n,hm,y,L.trans z,u.sl C⟩
   | bk g f=>show λn r j z C=>k _ I n r j (L.trans z) C
   | rt g e b=>show λv n r z r3=>k _ I v n r (L.trans z) r3
def k_(W:Nat->Y Res->Y En->Prop)(hi:y8 M U wi e l)(h0:∃NN,Le NN U/\W 0 M NN)(hs:∀i a f h,l[i]? =J a->W i f h->∃L vs,r9 g e a h L vs/\b9 f L tb (Q7 Φ λpS mu=>∃j,Le j mu/\W (i+1) pS j))(he:∀f h,W ⇑l f h->Φ (.nx f h)):b9 M U (M4 wi g tb) Φ:=λG H σ s w z D k=>by
 show hi G H σ s w z _ λc G0 H0 x0 d=> ?_;show⟨λi m t H1=>m=⇑l-i/\i<= ⇑l/\∃f h G1,W i f h/\c5 G0 G1/\To M G H f G1 H1/\Sl G1 t h,⟨⇑l,∅,eT _,M,h0.choose,G0,h0.choose_spec.2,λ_ _ e=>e,x0,h0.choose_spec.1.sl (z.mono x0.g)⟩,?_⟩;ext i m t H1 ⟨rfl,A,f,h,G1,hw,g1,x,l1⟩;cases C:i<⇑l
 ·show .inr ⟨d.go i H1 (g1.trans x.s) C,λp I=>i+1<= ⇑l/\∃n j q,W (i+1) n j/\c5 G0 q/\To M G H n q I/\Sl q p j,λp I h3=>⟨⇑l-(i+1),⋯,B,h3⟩,λu H2 y=> ?_⟩;let⟨a,G2,ha,Q,r⟩:=d.n_ f i G1 H1 u H2 C g1 x.s x.w y;let⟨L,vs,hg,hb⟩:=hs i a f h ha hw;show hg G2 H2 t u Q.s (l1.mono Q.g) r _ λjL l2 _=> ?_;show hb G2 H2 jL Q.s Q.w l2 _ λo ho=> ?_;let xx:=x.trans Q;cases o with
  | nx n j=>let⟨T,A,pW⟩:=ho;show λq I p E l3=>⟨C,n,T,q,pW,(g1.trans Q.g).trans E.g,xx.trans E,A.sl l3⟩
  | ct n j=>let⟨T,A,pW⟩:=ho;show λq I p E l3=>⟨C,n,T,q,pW,(g1.trans Q.g).trans E.g,xx.trans E,A.sl l3⟩
  | bk n j=>show λq I p E l3=>k _ ho q I p (xx.trans E) l3
  | rt n e b=>show λv q I E r3=>k _ ho v q I (xx.trans E) r3
 ·let e1:i=⇑l:=by lk
  subst e1;show .inl ⟨d.stop _ H1 (g1.trans x.s) (br _),k _ (he f h hw) G1 H1 t x l1⟩
def hB(R:Nat->Y Res)(S:Nat->Y En)(s:y8 M U t e l)(u:M=R 0)(v:Le (S 0) U)(w:∀i a,l[i]? =J a->∃c m,r9 g e a (S i) c m/\b9 (R i) c tb (Q7 Φ λn p=>n=R (i+1)/\Le (S (i+1)) p))(A:Φ (.nx (R ⇑l) (S ⇑l))):b9 M U (M4 t g tb) Φ:=by
 subst u;show k_ (λi d f=>d=R i/\f=S i) s ⟨S 0,v,B,B⟩ (λi a d f x ⟨q,r⟩=> ?_) (λd f ⟨q,r⟩=>∅);subst q r;let⟨c,m,y,z⟩:=w i a x;show⟨c,m,y,z.mono λo j=> ?_⟩;cases o with
 | nx h k=>show⟨S (i+1),j.2,j.1,B⟩
 | ct h k=>show⟨S (i+1),j.2,j.1,B⟩
 | bk h k=>show j
 | rt h e b=>show j
def ZA{a:L2.St}{i:Nat}(z:Sl G a U)(h:U[i]? =J (.im b6 p)):a[i]? =J (J (.ref p)):=by let⟨v,b,c⟩:=z.get h;rw[b,show v=_ from c]
def To.sR(s:c5 G H)(w:Own M G H)(h:M[j]? =J (c8 p e l))(a:aU (e.rep G) vs l'):To M G H (M.set j (c8 p e l')) G (upd H p (.lst vs)):=
 To.put s w h (λ_ h=>h) (λb u n e=>by rw[aS n];show e) (λb c=>⟨.lst vs,by rw[show b=p from c];show bg,by ext _ h;cases h⟩) ⟨vs,bg,a⟩
def lT(o:N M U r b6 p)(h:M[j]? =J (c8 p e l))(t:N M U x e b)(y: ⇑l<aV)(q:Φ (.nx (M.set j (c8 p e (l++ [b]))) U)):b9 M U (L7 (N0 K "list" R8 r (b8 x c7))) Φ:=λG H d s w z D k=>
 o G H d s w z _ λv A C a E=>by cases(show v=_ from E);let⟨⟨f,g,i⟩,_⟩:=cu a.w h;show⟨.inl ⟨B,f,SqL.of g⟩,t A C d a.s a.w (z.mono a.g) _ λu I Q c L=> ?_⟩;let⟨⟨f,g,i⟩,_⟩:=cu c.w h;let m:=a.trans c;let n:=To.sR c.s c.w h (wy i L);show⟨p,f,u,B,B,g,by rw[dU i];show y,k _ q I _ d (m.trans n) ((z.mono m.g).mono n.g)⟩
def lS(x:N M U y b6 p)(h:M[j]? =J (c8 p e l))(A:N M U C (eList e) m)(E: ⇑l+⇑m<=aV)(q:Φ (.nx (M.set j (c8 p e (l++m))) U)):b9 M U (L7 (N0 K "list" ac3 y (b8 C c7))) Φ:=λG H d s w z D k=>
 x G H d s w z _ λv I L a n=>by cases(show v=_ from n);let⟨⟨f,g,i⟩,_⟩:=cu a.w h;show⟨.inl ⟨B,f,SqL.of g⟩,A I L d a.s a.w (z.mono a.g) _ λu Q H2 b ⟨c,T,n,r2,o⟩=> ?_⟩;let⟨⟨f,g,i⟩,_⟩:=cu b.w h;let r:=a.trans b;let t:=To.sR b.s b.w h (wY i o);show⟨p,c,f,T,B,∅,g,b.s _ _ r2,by rw[dU i,dU o];show E,k _ q Q _ d (r.trans t) ((z.mono r.g).mono t.g)⟩
def wX(r:F v b):∀{a:Y V} {l:Y α} (i:Nat),aU F a l->aU F (a.set i v) (l.set i b)
 | _,_,_, .nil=> .nil
 | _,_,0, .cons _ t=> .cons r t
 | _,_,i+1, .cons q t=> .cons q (wX r i t)
def wD(h:i<n):G5 n (i:Int)=J i:=by delta G5;rw[ar (by cbv),ar (by cbv)];simp
def Ll{j:Nat}{e:Enc α}{l:Y α}{i:Nat}{b:α}(o:N M U r e b)(t:N M U x b6 p)(h:M[j]? =J (c8 p e l))(A:N M U C b5 (i:Int))(E:i<⇑l)(q:Φ (.nx (M.set j (c8 p e (l.set i b))) U)):b9 M U (w8 r (aa6 x C U1)) Φ:=λG H f s w z D k=>
 o G H f s w z _ λu I L a Q=>t I L f a.s a.w (z.mono a.g) _ λv T H2 c r2=>A T H2 f c.s c.w ((z.mono a.g).mono c.g) _ λy G3 H3 d r3=>by let⟨⟨vs,h1,g⟩,_⟩:=cu d.w h;let m:=(a.trans c).trans d;let n:=To.sR d.s d.w h (wX (e.mono (c.g.trans d.g) Q) i g);show⟨p,vs,i,i,r2,r3,h1,wD (by rw[dU g];show E),k _ q G3 _ f (m.trans n) ((z.mono m.g).mono n.g)⟩
def A_{j:Nat}{l:LN0}{i:Nat}{g:Int->Int->Int}{b c:Nat}(C:N M U E b6 p)(h:M[j]? =J (c8 p b0 l))(I:N M U L b5 (i:Int))(Q:N M U T b5 (b:Int))(hl:i<⇑l)(hc:g (l.getD i 0:Nat) b=(c:Int))(q:Φ (.nx (M.set j (c8 p b0 (l.set i c))) U)):
 b9 M U (ae0 E L T (Z0 K) (i5 λi j=> .int (g i j)) U1) Φ:=λG H m s w z D k=>
 C G H m s w z _ λv G1 H1 a r1=>I G1 H1 m a.s a.w (z.mono a.g) _ λy G2 H2 d r2=>by cases(show v=_ from r1);cases(show y=_ from r2);let⟨⟨r,h1,h2⟩,_⟩:=cu d.w h;let e2:=lN.1 h2;let hv:r[i]? =J (.int (l.getD i 0:Nat)):=∅;show⟨p,r,i,_,B,B,SqL.of h1,hv,Q G2 H2 m d.s d.w ((z.mono a.g).mono d.g) _ λu t H3 n r3=> ?_⟩;cases(show u=_ from r3);let⟨⟨e,o,f⟩,_⟩:=cu n.w h;let x:=(a.trans d).trans n;let A:=To.sR (vs:=e.set i (.int (g (l.getD i 0:Nat) b))) (l':=l.set i c) n.s n.w h (wX (F:=b0.rep t) (by rw[hc];rfl) i f);show⟨_,_,B,B,p,e,i,i,B,B,o,wD (by rw[dU f];show hl),k _ q t _ m (x.trans A) ((z.mono x.g).mono A.g)⟩
def Ry{a:Y V}{l:Y α}(h:aU F a l):aU F a.dropLast l.dropLast:=by rw[yq,yq,dU h];show BC _ h
def MB(m:N M U n b6 p)(h:M[j]? =J (c8 p e l))(o:l[⇑l-1]? =J b)(q:Φ (.nx (M.set j (c8 p e l.dropLast)) (U.set i (.im e b)))):b9 M U (w8 (V1 K "list" af9 n) (p9 i)) Φ:=λG H r s w z D k=>
 m G H r s w z _ λv t C a x=>by cases(show v=_ from x);let⟨⟨f,g,c⟩,_⟩:=cu a.w h;let⟨u,y,A⟩:=qW c o;let d:=To.sR a.s a.w h (Ry c);show⟨.inl ⟨B,f,SqL.of g⟩,p,f,u,B,B,g,by rw[dU c];show y,k _ q t _ _ (a.trans d) (((z.mono a.g).mono d.g).set (e.mono d.g A) i)⟩
def xc{j:Nat}{e:Enc α}{l:Y α}{i:Int}{b:α}(h:M[j]? =J (c8 p e l))(a:N M U c b6 p)(d:N M U f b5 i)(g:n4 l i=J b):N M U (d9 (E4 K) c f) e b:=
 f_ a d λG H x y Q s w m n k=>by let⟨⟨o,q,r⟩,_⟩:=cu w h;let⟨v,t,u⟩:=AK r g;show⟨p,o,i,v,m,n,SqL.of q,t,k v G H (To.refl s w) u⟩
def VQ{j:Nat}{e:Enc α}{l:Y α}(h:M[j]? =J (c8 p e l))(a:N M U b b6 p):b4 M U (O1 K b) (!l.isEmpty):=λG H c s w z Q k=>a G H c s w z _ λv d f x r=>by cases(show v=_ from r);let⟨⟨g,i,m⟩,_⟩:=cu x.w h;show⟨_, .inl ⟨g,SqL.of i,by rw[zf m]⟩,k d f x⟩
section
structure Ct:Type 1 where
 M:Y Res:= []
 U:Y En
 pre:Prop:=True
 ga0:Type:=Unit
 kq0:ga0->Y Res:=λ_=> []
 be0:Type
 e:Enc be0
 b:ga0->be0
def b7{a:Type}(C:a->Ct):Sp:=λe H Q _=>∃(i:a) (G:Hp),(C i).pre/\c5 G H/\Own (C i).M G H/\Sl G (e.map J) (C i).U/\∀c v b d,To (C i).M G H ((C i).kq0 c) b d->(C i).e.rep b v ((C i).b c)->Q v d
/---/def Done(C:Ct):Out->Prop
 | .nx M _=>∃c,M=C.kq0 c/\∀G,C.e.rep G .bO (C.b c)
 | .rt M e b=>∃c,M=C.kq0 c/\∀G v,e.rep G v b->C.e.rep G v (C.b c)
 | _=>False
def Cz{C:ι->Ct}{I:Str->az ae}{x g:Str}{st:eY}{L:gz}{a n:Y Str}{k:Nat}(F:kC K x g st f L)(S:md a n (k8 st))(T:∀i,⇑(C i).U=⇑n)(hb:∀(i:ι) (j:ae) (A:bY) (d:Y Env) (s:au) (H:Hp) (E:XK),(C i).pre->cS k (A.deeper (jd g (k8 st) ↥s f j))->
  ∃t,p4 (E5 CX0 P w K I p a g (k8 st) f j A d s H E).mw (y9 st) t/\b9 (C i).M ((C i).U++de (⇑a- ⇑n) .no) t (Done (C i))):dY P w K I p CX0 (k+1) f L n (b7 C):=by
 show F.ok S (λvs H Q E h=> ?_) (λj A d s H vs Q E hr h=> ?_)
 ·let⟨i,G,_,_,_,l,_⟩:=h;have:=l.len;rw[aF,T i] at this;show this
 ·let⟨i,G,hp,s0,w0,l,k⟩:=h;let⟨t,ht,hs⟩:=hb i j A d s H E hp hr;let e0: ⇑vs=⇑n:=by have:=l.len;rw[aF,T i] at this;show this
  show⟨t,ht,hs G H _ s0 w0 (by delta L2.start;rw[e0];show l.append (Sl.NI _)) _ λo y=> ?_⟩;cases o with
  | nx m q=>let⟨c,rfl,z⟩:=y;show λu D σ1 x l1=>k c .bO u D x (z u)
  | rt m e b=>let⟨c,rfl,z⟩:=y;show λv u D x r=>k c v u D x (z u v r)
  | bk m q=>show y.elim
  | ct m q=>show y.elim
def wL(i:u)(c:(C i).ga0)(g:l7 M U h (C i).U)(j:(C i).pre)(e:M=(C i).M++m)(a:∀d,(C i).kq0 d=(C i).M:=by show λ_=>B)(x:∀d,(C i).b d=(C i).b c:=by show λ_=>B):N M U (v9 (b7 C) [] E0 h) (C i).e ((C i).b c):=λG H n s w l Q k=>
 g G H n s w l _ λy o z b p=>by rw[eS];subst e;show⟨i,o,j,b.s,(fD.1 b.w).1,p,λd v q r t A=> ?_⟩;let f:=t.frame b.w;rw[a] at f;show k v q r (b.trans f) ∅
def Ck(i:x)(j:l7 M U m (C i).U)(n:(C i).pre)(b:M=(C i).M++e)(s:c5 G H)(w:Own M G H)(l:Sl G f U)(k:∀c v g h,To M G H ((C i).kq0 c++e) g h->(C i).e.rep g v ((C i).b c)->Q v h):v9 (b7 C) [] E0 m f H Q:=
 j G H f s w l _ λy o z a p=>by rw[eS];subst b;show⟨i,o,n,a.s,(fD.1 a.w).1,p,λd v q r t u=>k d v q r (a.trans (t.frame a.w)) u⟩
def G_(i:h)(b:l7 M U d (C i).U)(e:(C i).pre)(a:M=(C i).M++κf)(q:∀c,Φ (.nx ((C i).kq0 c++κf) (U.set j (.im (C i).e ((C i).b c))))):b9 M U (w8 (v9 (b7 C) [] E0 d) (p9 j)) Φ:=λG H m s w l D k=>
 Ck i b e a s w l λc v f g x r=>k _ (q c) f g _ x ((l.mono x.g).set r j)
def Ro(i:j)(d:l7 M U e (C i).U)(f:(C i).pre)(a:M=(C i).M++b)(q:∀c,Φ (.nx ((C i).kq0 c++b) U)):b9 M U (L7 (v9 (b7 C) [] E0 e)) Φ:=λG H m s w l D k=>
 Ck i d f a s w l λc v g h x r=>k _ (q c) g h _ x (l.mono x.g)
def So(i:h)(b:l7 M U d (C i).U)(e:(C i).pre)(a:M=(C i).M++κf)(q:∀c,Φ (.rt ((C i).kq0 c++κf) (C i).e ((C i).b c))):b9 M U (E3 (v9 (b7 C) [] E0 d)) Φ:=λG H j s w l D k=>
 Ck i b e a s w l λc v f g x r=>k _ (q c) v f g x r
def u9(G:Hp)(a:Y (Str×V))(F:Y (Str×En)):Prop:=a.map (·.1)=F.map (·.1)/\Sl G (a.map λq=>J q.2) (F.map (·.2))
def u9.mono(s:c5 G a)(h:u9 G b F):u9 a b F:=⟨h.1,h.2.mono s⟩
def u9.get:∀{b:Y (Str×V)} {F:Y (Str×En)},u9 G b F->F.lookup f=J (.im e a)->∃v,b.lookup f=J v/\e.rep G v a
 | [], [],_,h=>∅
 | [],_::_,⟨h,_⟩,_=>∅
 | _::_, [],⟨h,_⟩,_=>∅
 | (g,v)::b,(d,x)::F,⟨c,j⟩,h=>by
   rw[bp,bp] at c;let⟨l,m⟩:=kU c;cases(show g=d from l);cases j with
   | cons k t=>
     rw[kM] at h⊢;cases q:f==g with
     | true=>rw[q] at h;cases bu h;show⟨v,B,k⟩
     | false=>rw[q] at h;show u9.get ⟨m,t⟩ h
def u9.none:∀{a:Y (Str×V)} {F:Y (Str×En)},u9 G a F->F.lookup f=ah->a.lookup f=ah
 | [],_,_,_=>rfl
 | _::_, [],⟨h,_⟩,_=>∅
 | (g,v)::a,(c,x)::F,⟨b,d⟩,h=>by
   rw[bp,bp] at b;let⟨e,i⟩:=kU b;cases(show g=c from e);cases d with
   | cons k t=>
     rw[kM] at h⊢;cases q:f==g with
     | true=>rw[q] at h;cases h
     | false=>rw[q] at h;show u9.none ⟨i,t⟩ h
def K1(f:Str)(x:En):Y (Str×En)->Y (Str×En)
 | []=> [(f,x)]
 | (g,y)::r=>if f=g then(g,x)::r else(g,y)::K1 f x r
def u9.put(r:e.rep G v a):∀{b:Y (Str×V)} {F:Y (Str×En)},u9 G b F->u9 G (n3 f v b) (K1 f (.im e a) F)
 | [], [],_=>⟨B, .cons r .nil⟩
 | [],_::_,⟨h,_⟩=>∅
 | _::_, [],⟨h,_⟩=>∅
 | (g,w)::b,(d,x)::F,⟨c,i⟩=>by
   rw[bp,bp] at c;let⟨l,m⟩:=kU c;cases(show g=d from l);cases i with
   | cons k t=>
     delta n3 K1;cases q:f=g
     ·subst q;rw[ar B,ar B];show⟨∅, .cons r t⟩
     ·rw[aj q,aj ⋯];obtain⟨o,n⟩:=u9.put r ⟨m,t⟩;show⟨∅, .cons k n⟩
def u9.len(h:u9 G a F):a.length=F.length:=by have:=congrArg kY h.1;rw[aF,aF] at this;show this
/---/def rObj(p C:ab)(F:Y (Str×En)):Res:=⟨λb=>b=p,λG H=>∃c a,H p=J (.ins C c a)/\u9 G a F,λg k ⟨c,a,d,e⟩=>⟨c,a,k p _ B d,e.mono g⟩⟩
def o6(C:ab)(F:Y (Str×En)):Enc Unit:=⟨λG v _=>∃p b a,v= .ref p/\G p=J (.ins C b a)/\u9 G a F,λs ⟨p,b,a,c,d,e⟩=>⟨p,b,a,c,s _ _ d,e.mono s⟩⟩
section
variable {ta tv:TE} {tr:TA} {C:ab} {F:Y (Str×En)} {f:Str} {e:Enc α} {a:α} {p:ab} {j:Nat}
class fO (K:aG) (C:ab) (f:Str):Prop where
 cl:jm K C
 na:O4 K C f
def bJ(h:N M U ta (o6 C F) ()) [b:fO K C f](c:F.lookup f=J (.im e a):=by rfl):N M U (M5 K ta f) e a:=λG H d s w l Q k=>h G H d s w l _ λv g i x ⟨p,m,n,o,q,r⟩=>by let⟨u,t,y⟩:=r.get c;show⟨p,C,m,n,u,o,x.s _ _ q,b.cl,b.na,t,k u g i x y⟩
def cF(c:M[j]? =J (rObj p C F))(h:N M U ta b6 p) [b:fO K C f](d:F.lookup f=J (.im e a):=by rfl):N M U (M5 K ta f) e a:=λG H g s w l Q k=>h G H g s w l _ λv i m x r=>by let⟨⟨n,o,q,t⟩,_⟩:=cu x.w c;let⟨u,y,z⟩:=t.get d;show⟨p,C,n,o,u,r,q,b.cl,b.na,y,k u i m x z⟩
def eW(A:N M U tv e a)(r:M[j]? =J (rObj p C F))(h:N M U ta b6 p) [t:fO K C f](E: ⇑F<1000)(q:Φ (.nx (M.set j (rObj p C (K1 f (.im e a) F))) U)):b9 M U (V3 K ta tv f) Φ:=λG H i s w l D k=>
 A G H i s w l _ λu I L d Q=>h I L i d.s d.w (l.mono d.g) _ λv m x c T=>by
  let⟨⟨g,o,h1,y⟩,_⟩:=cu c.w r;let z:To M m x (M.set j (rObj p C (K1 f (.im e a) F))) m (upd x p (.ins C g (n3 f u o))):=
   To.put c.s c.w r (λ_ h=>h) (λb u n e=>by rw[aS n];show e) (λb hb=>⟨.ins C g (n3 f u o),by rw[show b=p from hb];show bg,by ext _ h;cases h⟩) ⟨g,_,bg,y.put (e.mono c.g Q)⟩
  show⟨p,C,g,o,T,h1,t.cl,t.na,by rw[y.len];show E,k _ q m _ i ((d.trans c).trans z) ((l.mono (d.trans c).g).mono z.g)⟩
def ZF(i:ι)(c:(b i).ga0)(u:N M U ta (o6 C F) ())(x:F.lookup m=ah)(y:l7 M U tr z)(A:(b i).U= .im (o6 C F) ()::z)(D:(b i).pre)(o:M=(b i).M++E)(g:∀d,(b i).kq0 d=(b i).M:=by show λ_=>B)(hb:∀d,(b i).b d=(b i).b c:=by show λ_=>B):
 N M U (u5 C m (b7 b) [] E0 ta tr) (b i).e ((b i).b c):=λG H q s w l Q k=>u G H q s w l _ λv I L h r=>by
 let⟨p,T,fs,rfl,h2,h3⟩:=id r;show⟨p,T,fs,B,h.s _ _ h2,h3.none x,y I L q h.s h.w (l.mono h.g) _ λvs G2 H2 n l2=> ?_⟩;rw[eS];subst o;show⟨i,G2,D,n.s,(fD.1 n.w).1,by rw[A];show .cons ((o6 C F).mono n.g r) l2,λd v G3 H3 x3 r3=> ?_⟩;let t:=x3.frame n.w;rw[g] at t;show k v G3 H3 ((h.trans n).trans t) ∅
def MQ(i:ι)(u:M[j]? =J (rObj p C F))(x:N M U ta b6 p)(y:F.lookup m=ah)(z:l7 M U tr A)(D:(b i).U= .im b6 p::A)(E:(b i).pre)(n:M=(b i).M++o)(s:c5 G H)(w:Own M G H)(l:Sl G q U)(k:∀c v r t,To M G H ((b i).kq0 c++o) r t->(b i).e.rep r v ((b i).b c)->Q v t):u5 C m (b7 b) [] E0 ta tr q H Q:=x G H q s w l _ λv I L g T=>by cases(show v=_ from T);let⟨⟨dx,fs,h1,h2⟩,_⟩:=cu g.w u;show⟨p,dx,fs,B,h1,h2.none y,z I L q g.s g.w (l.mono g.g) _ λvs G2 H2 h l2=> ?_⟩;rw[eS];subst n;show⟨i,G2,E,h.s,(fD.1 h.w).1,by rw[D];show .cons B l2,λd v G3 H3 x3 r3=>k d v G3 H3 ((g.trans h).trans (x3.frame h.w)) r3⟩
def KI(i:E)(c:(Ci i).ga0)(h:M[j]? =J (rObj p C F))(n:N M U ta b6 p)(o:F.lookup m=ah)(q:l7 M U tr t)(u:(Ci i).U= .im b6 p::t)(y:(Ci i).pre)(b:M=(Ci i).M++z)(g:∀d,(Ci i).kq0 d=(Ci i).M:=by show λ_=>B)(I:∀d,(Ci i).b d=(Ci i).b c:=by show λ_=>B):
 N M U (u5 C m (b7 Ci) [] E0 ta tr) (Ci i).e ((Ci i).b c):=λG H L s w l Q k=>MQ i h n o q u y b s w l λd v A D x r=>by
 rw[g,<-b] at x;show k v A D x ∅
def To.Nu(x:To M G H c i k)(l:∀b,d8 d b->d8 c b)(m:Own c i k->Own d i k):To M G H d i k:=⟨x.h,x.g,x.s,x.o,λb h=>x.f b (l b h),m x.w⟩
def WJ(h:Own ((c++d)++ [r]) G H):Own ((c++ [r])++d) G H:=by
 let⟨k,l,i⟩:=fD.1 h;let⟨m,n,o⟩:=fD.1 k;show fD.2 ⟨fD.2 ⟨m,l,λb g=>i b (fq.2 (.inl g))⟩,n,λb g z=> ?_⟩;obtain q| q:=fq.1 g
 ·show o b q z
 ·show i b (fq.2 (.inr z)) q
def Xi(h:d8 ((c++ [r])++d) b):d8 ((c++d)++ [r]) b:=by
 obtain q| q:=fq.1 h
 ·obtain q| q:=fq.1 q
  ·show fq.2 (.inl (fq.2 (.inl q)))
  ·show fq.2 (.inr q)
 ·show fq.2 (.inl (fq.2 (.inr q)))
def To.aaw(s:c5 G H)(w:Own M G H)(h:M[j]? =J (rObj p C F)):∃c,To M G H (M.eraseIdx j) c H/\(o6 C F).rep c (.ref p) ():=by
 let⟨⟨d,i,m,q⟩,r⟩:=cu w h;let k:=(r p B).1;show⟨upd G p (.ins C d i),To.xJ s w h (c5.sF k) (λb u e=>by
  cases l:b=p
  ·subst l;rw[bg] at e;cases e;show m
  ·rw[aS l] at e;show s b u e) (λb n=>aS n),p,d,i,B,bg,q.mono (c5.sF k)⟩
def MR(i:ab->ι)(D:l7 M U tr E)(I:∀x,(d (i x)).U= .im b6 x::E)(L:∀x,(d (i x)).pre)(g:M=h++m)(r:∀x,(d (i x)).M=h++ [rObj x C []])(T:∀x G v b,(d (i x)).e.rep G v b->v= .bO)(s:c5 G H)(w:Own M G H)(l:Sl G t U)(k:∀x c G' u,To M G H ((d (i x)).kq0 c++m) G' u->Q (.ref x) u):B9 C (b7 d) [] E0 tr t H Q:=D G H t s w l _ λvs G1 H1 n l1 x y nx o ne=>by
 rw[eS];subst g;let a1:=To.ug n.s n.w o (.own x);let q:(upd H1 y (.own x)) x=none:=by rw[aS (λz=>ne z.symm)];show nx
 let a2:=To.own a1.s a1.w q (rObj x C []) (λb=>pB) ⟨y, [],bg,B, .nil⟩;let a3:=(a1.trans a2).Nu (λb=>Xi) WJ;show⟨i x,G1,L x,a3.s,by rw[r];show(fD.1 a3.w).1,by rw[I];show .cons B (l1.mono a3.g),λc v G2 H2 A r2=>⟨T _ _ _ _ r2,?_⟩⟩;rw[r] at A;show k x c G2 H2 ((n.trans a3).trans (A.frame a3.w))
def wK(i:ab->L)(m:l7 M U tr n)(o:∀x,(Ci (i x)).U= .im b6 x::n)(q:∀x,(Ci (i x)).pre)(g:M=κs++d)(u:∀x,(Ci (i x)).M=κs++ [rObj x C []])(y:∀x c,(Ci (i x)).kq0 c=κs++ [rObj x C F])(z:∀x G v b,(Ci (i x)).e.rep G v b->v= .bO):N M U (B9 C (b7 Ci) [] E0 tr) (o6 C F) ():=λG H T s w l Q k=>MR i m o q g u z s w l λx c G1 A t=>by rw[y] at t;let D:((κs++ [rObj x C F])++d)[⇑κs]? =J (rObj x C F):=⋯;let⟨E,h,r⟩:=To.aaw t.s t.w D;let I:((κs++ [rObj x C F])++d).eraseIdx ⇑κs=M:=⋯;rw[I] at h;show k _ E A (t.trans h) r
end
def Bj(h:M.Perm a):d8 M b↔d8 a b:=⟨λ⟨r,m,e⟩=>⟨r,h.mem_iff.1 m,e⟩,λ⟨r,m,e⟩=>⟨r,h.mem_iff.2 m,e⟩⟩
def Kg(h:M.Perm e):Own M G H->Own e G H:=by
 induction h with
 | nil=>show λh=>h
 | cons x p j=>show λ⟨f,d,g⟩=>⟨f,λb c=>⟨(d b c).1,(d b c).2.1,λz=>(d b c).2.2 ((Bj p).2 z)⟩,j g⟩
 | swap x y l=>
   ext⟨f,d,g,i,k⟩;show⟨g,λb c=>⟨(i b c).1,(i b c).2.1,λz=> ?_⟩,f,λb c=>⟨(d b c).1,(d b c).2.1,λz=>(d b c).2.2 (fg.2 (.inr z))⟩,k⟩;obtain z| z:=fg.1 z
   ·show(d b z).2.2 (fg.2 (.inl c))
   ·show(i b c).2.2 z
 | trans _ _ a b=>show λh=>b (a h)
def To.perm(s:c5 G H)(w:Own M G H)(h:M.Perm a):To M G H a G H:=⟨λ_ _ _ e=>e,λ_ _ e=>e,s,λ_ _ _ _ _=>B,λb c=> .inl ((Bj h).2 c),Kg h w⟩
def Bx(h:M.Perm κ1)(q:b9 κ1 U t Φ):b9 M U t Φ:=λG H a s w l D k=>by let x:=To.perm s w h;show q G H a x.s x.w l D λo b=>(k o b).from x
def Vb{e:Enc β}(g:∀G H a,c5 G H->Own M G H->Sl G a U->∃c,c5 G c/\c5 c H/\Sl c a d)(i:∀G c v,e.rep G v b->e.rep c v b)(h:N [] d t e b):N M U t e b:=λG H a s w l Q k=>by let⟨j,p,m,n⟩:=g G H a s w l;show h j H a m cM n Q λv q o x r=>k v G o ⟨λb u _ e=>x.h b u gA e,λ_ _ e=>e,λb u e=>x.h b u gA (s b u e),λ_ _ _ _ _=>B,λb f=> .inl f,w.keep (λ_ _ e=>e) (λb u _ e=>x.h b u gA e) λb f=>(w.un f).1⟩ (i _ _ _ r)
end
section
def fL{r:Y V->Hp->VK->Prop}{d:TE}{e:Enc α}{a:α}{f:Enc γ}{c:γ}(i:N M U d e a)(j:∀(G H:Hp) (x:V) (Q:VK),c5 G H->Own M G H->e.rep G x a->(∀v g h,To M G H M g h->f.rep g v c->Q v h)->r [x] H Q):N M U (j5 r (b8 d c7)) f c:=λG H m s w l Q k=>
 i G H m s w l _ λx n o b p=>j n o x Q b.s b.w p λv q t u y=>k v q t (b.trans u) y
section
variable {ta tb:TE} {e:Enc α} {l:Y α}
def bU(a:N M U ta (eList e) l):N M U (j5 (R7 K) (b8 ta c7)) b0 ⇑l:=
 fL a λG H x Q s w ⟨p,b,f,c,d⟩ k=>⟨p,b,∅, .inl (SqL.of (s _ _ c)),k _ G H (To.refl s w) (by rw[dU d];rfl)⟩
def ZI{j:Nat}(h:M[j]? =J (c8 p e l))(a:N M U ta b6 p):N M U (j5 (R7 K) (b8 ta c7)) b0 ⇑l:=
 fL a λG H x Q s w r k=>by let⟨⟨b,c,d⟩,_⟩:=cu w h;show⟨p,b,by rw[show x=_ from r], .inl (SqL.of c),k _ G H (To.refl s w) (by rw[dU d];rfl)⟩
def sv(c:N M U ta (eList e) l):N M U (j5 (X7 K) (b8 ta c7)) (eList e) l:=
 fL c λG H x Q s w ⟨p,a,g,d,f⟩ k=>⟨p,a,∅, .inl (SqL.of (s _ _ d)),λq b=>k _ _ _ (To.new s w b _) ⟨q,a,B,bg,fG (λ_ _=>e.mono (To.new s w b _).g) f⟩⟩
def UC(a:N M U ta (eList e) l):r8 M U (j5 (X7 K) (b8 ta c7)) λq=>c8 q e l:=λG H b s w z Q k=>a G H b s w z _ λv h i x ⟨p,c,j,d,f⟩=>
 ⟨p,c,∅, .inl (SqL.of (x.s _ _ d)),λq g=>k q _ _ (x.trans (To.newList x.s x.w g f))⟩
def sW(s:c5 G H)(h:(eList b5).rep G v a):∃p,v= .ref p/\SqL K H p (a.map V.int):=by let⟨p,b,c⟩:=IZ.1 h;show⟨p,b,SqL.of (s _ _ c)⟩
def Ce{a:Y Int}(b:N M U ta (eList b5) a):N M U (j5 (Z6 K) (b8 ta c7)) b5 a.sum:=
 fL b λG H x Q s w r k=>by obtain⟨p,d,c⟩:=sW s r;show⟨p,a,∅,c,k _ G H (To.refl s w) B⟩
def Cf{a:Y Int}{m:Int}(c:N M U ta (eList b5) a)(b:m∈a)(d:∀y∈a,y<=m):N M U (j5 (aa1 K) (b8 ta c7)) b5 m:=
 fL c λG H x Q s w r k=>by obtain⟨p,i,f⟩:=sW s r;show⟨p,a,∅,f,EG b,λz g h=>k _ G H (To.refl s w) (by change V.int z=V.int m;rw[zK (d z g) (h m b)])⟩
def abm{a:Y Int}{m:Int}(c:N M U ta (eList b5) a)(b:m∈a)(d:∀y∈a,m<=y):N M U (j5 (aa0 K) (b8 ta c7)) b5 m:=
 fL c λG H x Q s w r k=>by obtain⟨p,i,f⟩:=sW s r;show⟨p,a,∅,f,EG b,λz g h=>k _ G H (To.refl s w) (by change V.int z=V.int m;rw[zK (h m b) (d z g)])⟩
def BO(i:N M U ta (eList b5) a)(j:N M U tb b5 d)(E:a= []->m=d)(n:a≠ []->m∈a/\∀y∈a,m<=y):N M U (ad7 K ta tb) b5 m:=λG H f s w l Q k=>
 i G H f s w l _ λx o q b r=>j o q f b.s b.w (l.mono b.g) _ λy g h c I=>by let⟨p,t,u⟩:=sW (K:=K) c.s ((eList b5).mono c.g r);show⟨p,a,t,u,λe=>k _ g h (b.trans c) ∅,λz v A=>k _ g h (b.trans c) ?_⟩;let⟨C,D⟩:=n (λe=>∅);change V.int z=V.int m;rw[zK (A m C) (D z v)]
def aca{a:Y V}{b:Y Bool}(c:aU (e7.rep G) a b):a=b.map V.bl:=by
 induction c with
 | nil=>show rfl
 | cons r t d=>rw[bp,d,show _=_ from r]
def KQ(s:c5 G H)(h:(eList e7).rep G v a):∃p,v= .ref p/\SqL K H p (a.map V.bl):=by let⟨p,d,b,f,c⟩:=h;let e:=aca c;show⟨p,b,SqL.of (s _ _ ∅)⟩
def tF{a:Y Bool}(b:N M U ta (eList e7) a):N M U (j5 (aa2 K) (b8 ta c7)) e7 (a.any id):=
 fL b λG H x Q s w r k=>by obtain⟨p,d,c⟩:=KQ s r;show⟨p,a,∅,c,k _ G H (To.refl s w) B⟩
def xf{a:Y Bool}(b:N M U ta (eList e7) a):N M U (j5 (aa3 K) (b8 ta c7)) e7 (a.all id):=
 fL b λG H x Q s w r k=>by obtain⟨p,d,c⟩:=KQ s r;show⟨p,a,∅,c,k _ G H (To.refl s w) B⟩
def xg{i:Int}(a:N M U ta b5 i):N M U (j5 (λb H Q=>∃i,b= [V.int i]/\Q (.int (if i<0 then-i else i)) H) (b8 ta c7)) b5 (if i<0 then-i else i):=
 fL a λG H x Q s w r k=>⟨i,by rw[show x=_ from r],k _ G H (To.refl s w) B⟩
def mi{x:Str}(a:N M U ta Q9 x)(b:x.length=1)(c:x.cps.getD 0 0=n):N M U (j5 (λd H Q=>∃x,d= [V.str x]/\x.length=1/\Q (.int (x.cps.getD 0 0:Nat)) H) (b8 ta c7)) b0 n:=
 fL a λG H u Q s w r k=>⟨x,by rw[show u=_ from r],b,k _ G H (To.refl s w) (by rw[c];rfl)⟩
def jc:N M U (j8 (.str x)) Q9 x:=tU λ_=>B
def ag2:Enc LN0:=⟨λG v a=>∃p,v= .ref p/\G p=J (.set (λb=>(me (λi=>(a.map λ(n:Nat)=>(n:Int)).getD i 0) ⇑a).any (·==b)) (me (λi=>(a.map λ(n:Nat)=>(n:Int)).getD i 0) ⇑a).length),λs ⟨p,c,d⟩=>⟨p,c,s _ _ d⟩⟩
def MZ{a:LN0}(b:N M U ta (eList b0) a)(f: ⇑a+1<4096):N M U (j5 (Z8 K) (b8 ta c7)) ag2 a:=
 fL b λG H x Q s w r k=>by let⟨p,g,c⟩:=oU.1 r;show⟨p,a.map λ(n:Nat)=>(n:Int),∅,SqL.of (by rw[<-vD];show s _ _ c),∅,λq d=> ?_⟩;rw[aF];show k _ _ _ (To.new s w d _) ⟨q,B,bg⟩
def LS{a:LN0}(b:N M U ta ag2 a):N M U (j5 (λc H Q=>∃p S n,c= [V.ref p]/\H p=J (.set S n)/\Q (.int n) H) (b8 ta c7)) b0 (me (λi=>(a.map λ(n:Nat)=>(n:Int)).getD i 0) ⇑a).length:=
 fL b λG H x Q s w ⟨p,f,d⟩ k=>⟨p,_,_,∅,s _ _ d,k _ G H (To.refl s w) B⟩
def LV(a:N M U ta b5 i):N M U (V1 K "int" (λx b H Q=>∃i,x=V.int i/\b= []/\Q (.int (qf i:Nat)) H) ta) b0 (qf i):=λG H c s w l Q k=>a G H c s w l _ λx d f g h=>by cases(show x=_ from h);show⟨B,i,B,B,k _ d f g B⟩
def Jc{l:LN0}:∀m z,m<l.idxOf x->l[m]? =J z->z≠x:=by
 induction l with
 | nil=>ext m z h;simp at h
 | cons a l b=>lk
def sO{l:LN0}(h:N M U ta (eList b0) l)(i:N M U tb b0 x)(j:x∈l):N M U (N0 K "list" (Y7 K) ta (b8 tb c7)) b0 (l.idxOf x):=λG H f s w z Q k=>
 h G H f s w z _ λv n o a r=>by
  let⟨p,t,g⟩:=oU.1 r;subst t;show⟨.inl ⟨B,_,SqL.of (a.s _ _ g)⟩,i n o f a.s a.w (z.mono a.g) _ λu A C c d=> ?_⟩;let E:l.idxOf x<⇑l:=qc j;show⟨p,_,u,l.idxOf x, .int x,B,B,SqL.of (c.s _ _ (c.g _ _ g)),by rw[show u=_ from d];rfl,AF l,?_,by rw[show u=_ from d];change((x:Int)==(x:Int))=aa;simp,λm I D b=> ?_,k _ A C (a.trans c) B⟩
  ·cbv
  ·rw[show u=_ from d];rw[cP] at b;cases q:l[m]? with
   | none=>rw[q] at b;cases b
   | some y=>rw[q] at b;cases bu b;change((y:Int)==(x:Int))=ak;have:=Jc m y D q;rw[kI];lk
end
def m8(n:Nat):nX:= .int (n:Int)
def abo(a b:Nat):Mj (m8 a) (m8 b)=decide (a=b):=by change((a:Int)==(b:Int))=_;rw[cE,eU,cj];lk
def v_:∀(l m:LN0),qy (l.map m8) (m.map m8)=decide (l=m)
 | [], []=>rfl
 | [],_::_=>by simp[qy]
 | _::_, []=>by simp[qy]
 | a::l,b::m=>by rw[bp,bp,qy,abo,v_ l m,cE];simp
def pa:∀(l:LN0),pF K H (l.map λ(n:Nat)=>V.int (n:Int)) (l.map m8)
 | []=> .nil
 | a::l=> .cons (.int _) (pa l)
def sM:∀(l:LN0),PyData.canLayAll0 (l.map m8)=aa/\GR (l.map m8)<=1
 | []=>⟨B,∅⟩
 | a::l=>by
   let⟨b,c⟩:=sM l;show⟨?_,?_⟩
   ·cbv
   ·cbv
def Gg(l:LN0):oN (.list (l.map m8))=true:=by delta oN;rw[cn,cj];show⟨(sM l).1,?_⟩;have:=(sM l).2;change GR (l.map m8)+1<=64;lk
def vf(l:LN0):oN (.tuple (l.map m8))=true:=by delta oN;rw[cn,cj];show⟨(sM l).1,?_⟩;have:=(sM l).2;change GR (l.map m8)+1<=64;lk
section
variable {ta tb:TE}
def tE(a:N M U ta (eList b0) l)(b:N M U tb (eList b0) m):N M U (d9 (V4 K) ta tb) e7 (decide (l=m)):=
 f_ a b λG H x y Q s w c d k=>by let⟨p,e,f⟩:=oU.1 c;let⟨q,g,h⟩:=oU.1 d;rw[e,g];show⟨.list (l.map m8), .list (m.map m8), .lst (SqL.of (s _ _ f)) (pa l), .lst (SqL.of (s _ _ h)) (pa m),Gg l,Gg m,k _ G H (To.refl s w) (by change V.bl (qy (l.map m8) (m.map m8))=_;rw[v_])⟩
def sG(h:(l9 b0).rep G v l):∃p,v= .ref p/\G p=J (.tup (l.map λ(n:Nat)=>V.int (n:Int))):=by let⟨p,d,a,b,c⟩:=h;show⟨p,a,by rw[b,lN.1 c]⟩
def abl(a:N M U ta (l9 b0) l)(b:N M U tb (l9 b0) m):N M U (d9 (Z9 K) ta tb) e7 (!decide (l=m)):=
 f_ a b λG H x y Q s w c d k=>by let⟨p,e,f⟩:=sG c;let⟨q,g,h⟩:=sG d;rw[e,g];show⟨.tuple (l.map m8), .tuple (m.map m8), .tup (d7.of (s _ _ f)) (pa l), .tup (d7.of (s _ _ h)) (pa m),vf l,vf m,k _ G H (To.refl s w) (by change V.bl (!qy (l.map m8) (m.map m8))=_;rw[v_])⟩
def Au(h:(h8 b0 b0).rep G v a):(l9 b0).rep G v [a.1,a.2]:=by let⟨p,x,y,b,c,d,e⟩:=h;show⟨p, [x,y],b,c, .cons d (.cons e .nil)⟩
def TZ(h:(Q5 b0 b0 b0).rep G v a):(l9 b0).rep G v [a.1,a.2.1,a.2.2]:=by let⟨p,x,y,z,b,c,d,e,f⟩:=h;show⟨p, [x,y,z],b,c, .cons d (.cons e (.cons f .nil))⟩
def N.rk(h:N M U ta (Q5 b0 b0 b0) a):N M U ta (l9 b0) [a.1,a.2.1,a.2.2]:=h.to λ_ _=>TZ
def Nb(c:N M U ta (h8 b0 b0) a)(d:N M U tb (h8 b0 b0) b):N M U (d9 (V4 K) ta tb) e7 (decide (a=b)):=
 f_ c d λG H x y Q s w e f k=>by
  let⟨p,g,i⟩:=sG (Au e);let⟨q,j,l⟩:=sG (Au f);rw[g,j];show⟨.tuple ([a.1,a.2].map m8), .tuple ([b.1,b.2].map m8), .tup (d7.of (s _ _ i)) (pa _), .tup (d7.of (s _ _ l)) (pa _),vf _,vf _,k _ G H (To.refl s w) ?_⟩;change V.bl (qy ([a.1,a.2].map m8) ([b.1,b.2].map m8))=_;rw[v_];congr 1;rw[cE,cj,cj];walk
  ·grind
  ·ext h;rw[h]
end
def W8:Enc (Y (Key×V)):=⟨λG v a=>∃p,v= .ref p/\G p=J (.dK a),λs ⟨p,b,c⟩=>⟨p,b,s _ _ c⟩⟩
def W7:Enc (Y (Y Key×V)):=⟨λG v a=>∃p,v= .ref p/\G p=J (.dT a),λs ⟨p,b,c⟩=>⟨p,b,s _ _ c⟩⟩
def j1(p:ab)(a:Y (Key×V)):Res:=⟨λb=>b=p,λ_ H=>H p=J (.dK a),λ_ k h=>k p _ B h⟩
def m4(p:ab)(a:Y (Y Key×V)):Res:=⟨λb=>b=p,λ_ H=>H p=J (.dT a),λ_ k h=>k p _ B h⟩
def K9(M:Y Res)(U:Y En)(t:TE)(a:Y (Key×V)):Prop:=∀(G H:Hp) (c:L2.St),c5 G H->Own M G H->Sl G c U->∀Q:VK,(∀p d b,To M G H M d b->(∀f e,To M d b M f e->e p=J (.dK a))->Q (.ref p) b)->t c H Q
def J0(M:Y Res)(U:Y En)(t:TE)(a:Y (Y Key×V)):Prop:=∀(G H:Hp) (c:L2.St),c5 G H->Own M G H->Sl G c U->∀Q:VK,(∀p d b,To M G H M d b->(∀f e,To M d b M f e->e p=J (.dT a))->Q (.ref p) b)->t c H Q
section
variable {ta tb tc:TE} {ck:Y (Key×V)} {gf:Y (Y Key×V)} {p:ab} {j:Nat}
def N.dk(h:N M U ta W8 ck):K9 M U ta ck:=λG H b s w l Q k=>h G H b s w l _ λv c d x ⟨p,e,f⟩=>by rw[e];show k p c d x λg i a=>a.s _ _ (a.g _ _ f)
def N.xV(h:N M U ta b6 p)(a:M[j]? =J (j1 p ck)):K9 M U ta ck:=λG H b s w l Q k=>h G H b s w l _ λv c d x r=>by rw[show v=_ from r];show k p c d x λf g e=>(cu e.w a).1
def N.dt(h:N M U ta W7 gf):J0 M U ta gf:=λG H b s w l Q k=>h G H b s w l _ λv c d x ⟨p,e,f⟩=>by rw[e];show k p c d x λg i a=>a.s _ _ (a.g _ _ f)
def N.Ox(h:N M U ta b6 p)(a:M[j]? =J (m4 p gf)):J0 M U ta gf:=λG H b s w l Q k=>h G H b s w l _ λv c d x r=>by rw[show v=_ from r];show k p c d x λf g e=>(cu e.w a).1
def LU{e:Enc γ}(h:K9 M U ta ck)(m:N M U tb b5 i)(n:d2 ck (.inl i)=J v)(o:∀G,e.rep G v c):N M U (Q3 ta tb) e c:=λG H d s w l Q k=>
 h G H d s w l _ λp q r a t=>m q r d a.s a.w (l.mono a.g) _ λy b f g u=>by cases(show y=_ from u);show⟨p,v,B,by rw[<-n];show o7.k (k:= .inl i) (t b f g),k v b f (a.trans g) (o b)⟩
def Xo(u:K9 M U ta ck)(x:N M U tb b5 i)(A:N M U tc e b)(h:∀G v,(d2 ck (.inl i)=J v->e.rep G v c)/\(d2 ck (.inl i)=ah->e.rep G v b->e.rep G v c)):N M U (P8 ta tb tc) e c:=λG H g s w l Q k=>
 u G H g s w l _ λp m n a o=>⟨p,B, .inl ⟨ck, .inl (o m n (To.refl a.s a.w))⟩,x m n g a.s a.w (l.mono a.g) _ λy C D d E=>A C D g d.s d.w ((l.mono a.g).mono d.g) _ λz f r t I=>by
  cases(show y=_ from E);show⟨_,o7.k (k:= .inl i) (o f r (d.trans t)),k _ f r ((a.trans d).trans t) ?_⟩;cases q:d2 ck (.inl i)with
  | none=>show(h f z).2 q I
  | some v=>show(h f v).1 q⟩
def AG(f:N M U tb b5 i)(g:K9 M U ta ck):N M U (ac1 tb ta) e7 (!(d2 ck (.inl i)).isSome):=λG H c s w l Q k=>
 f G H c s w l _ λy h m a n=>g h m c a.s a.w (l.mono a.g) _ λp d e b o=>by cases(show y=_ from n);show⟨p,_,B,o7.k (k:= .inl i) (o d e (To.refl b.s b.w)),k _ d e (a.trans b) B⟩
def ZJ(e:K9 M U ta ck):N M U (j5 (λf H Q=>∃a ck,f= [V.ref a]/\H a=J (.dK ck)/\Q (.int ⇑ck) H) (b8 ta c7)) b0 ⇑ck:=λG H g s w l Q k=>
 e G H g s w l _ λp c d b h=>⟨p,ck,B,h c d (To.refl b.s b.w),k _ c d b B⟩
def abH(d:K9 M U ta ck):b4 M U (O1 K ta) (!ck.isEmpty):=λG H e s w l Q k=>d G H e s w l _ λp b c a f=>⟨_, .inr (.inr ⟨ck,f b c (To.refl a.s a.w),B⟩),k b c a⟩
def k3(a:NN0):Y Key:= [.inl (a.1:Int), .inl (a.2:Int)]
def qJ(h:(h8 b0 b0).rep G v a):∃b,v= .ref b/\G b=J (.tup ((k3 a).map c9)):=by let⟨p,c,d⟩:=sG (Au h);show⟨p,c,d⟩
def LQ{e:Enc γ}(m:J0 M U ta gf)(n:N M U tb (h8 b0 b0) i)(o:d2 gf (k3 i)=J v)(q:∀G,e.rep G v c):N M U (Q3 ta tb) e c:=λG H g s w l Q k=>
 m G H g s w l _ λp r t a u=>n r t g a.s a.w (l.mono a.g) _ λy d h f x=>by let⟨b,rfl,z⟩:=qJ x;show⟨p,v,B,by rw[<-o];show o7.t (u d h f) (f.s _ _ z),k v d h (a.trans f) (q d)⟩
def KG(u:J0 M U ta gf)(x:N M U tb (h8 b0 b0) i)(A:N M U tc e b)(m:∀G v,(d2 gf (k3 i)=J v->e.rep G v c)/\(d2 gf (k3 i)=ah->e.rep G v b->e.rep G v c)):N M U (P8 ta tb tc) e c:=λG H h s w l Q k=>
 u G H h s w l _ λp n o a r=>⟨p,B, .inr ⟨gf, .inl (r n o (To.refl a.s a.w))⟩,x n o h a.s a.w (l.mono a.g) _ λy C D d E=>A C D h d.s d.w ((l.mono a.g).mono d.g) _ λz f t g I=>by
  let⟨T,rfl,L⟩:=qJ E;show⟨_,o7.t (r f t (d.trans g)) (g.s _ _ (g.g _ _ L)),k _ f t ((a.trans d).trans g) ?_⟩;cases q:d2 gf (k3 i)with
  | none=>show(m f z).2 q I
  | some v=>show(m f v).1 q⟩
def abj(g:N M U tb (h8 b0 b0) i)(h:J0 M U ta gf):N M U (Z4 tb ta) e7 (d2 gf (k3 i)).isSome:=λG H d s w l Q k=>
 g G H d s w l _ λy m n c o=>h m n d c.s c.w (l.mono c.g) _ λp e f a q=>by let⟨b,rfl,r⟩:=qJ o;show⟨p,_,B,o7.t (q e f (To.refl a.s a.w)) (a.s _ _ (a.g _ _ r)),k _ e f (c.trans a) B⟩
def NB:r8 M U Y4 λp=>j1 p []:=λG H c s w l Q k p a=>k p _ _ (To.own s w a (j1 p []) (λb=>pB) bg)
def NA:r8 M U ac9 λp=>m4 p []:=λG H c s w l Q k p a=>k p _ _ (To.own s w a (m4 p []) (λb=>pB) bg)
def Bz(C:N M U tc e c)(E:N M U ta b6 p)(o:M[j]? =J (j1 p ck))(I:N M U tb b5 i)(L:∀G u,e.rep G u c->u=v)(Q: ⇑ck<aV)(q:Φ (.nx (M.set j (j1 p (putK ck (.inl i) v))) U)):b9 M U (U0 ta tb tc) Φ:=λG H d s w l D k=>
 C G H d s w l _ λu r T a r1=>E r T d a.s a.w (l.mono a.g) _ λy G2 H2 f r2=>I G2 H2 d f.s f.w ((l.mono a.g).mono f.g) _ λz m t g r3=>by cases(show y=_ from r2);cases(show z=_ from r3);let eu:=L r u r1;subst eu;let x:To M m t (M.set j (j1 p (putK ck (.inl i) u))) m (upd t p (.dK (putK ck (.inl i) u))):=To.put g.s g.w o (λ_ h=>h) (λb u n e=>by rw[aS n];show e) (λb hb=>⟨.dK (putK ck (.inl i) u),by rw[show b=p from hb];show bg,by ext _ h;cases h⟩) bg;let A:=(a.trans f).trans g;show⟨p,_,B,K4.k (k:= .inl i) (cu g.w o).1 Q,k _ q m _ d (A.trans x) ((l.mono A.g).mono x.g)⟩
def Lk(E:N M U tc e c)(I:N M U ta b6 p)(r:M[j]? =J (m4 p gf))(L:N M U tb (h8 b0 b0) i)(Q:∀G u,e.rep G u c->u=v)(T: ⇑gf<aV)(q:Φ (.nx (M.set j (m4 p (putK gf (k3 i) v))) U)):b9 M U (U0 ta tb tc) Φ:=λG H f s w l D k=>
 E G H f s w l _ λu t H1 a r1=>I t H1 f a.s a.w (l.mono a.g) _ λy G2 H2 g r2=>L G2 H2 f g.s g.w ((l.mono a.g).mono g.g) _ λz m x d r3=>by cases(show y=_ from r2);let eu:=Q t u r1;subst eu;let⟨b,rfl,o⟩:=qJ r3;let A:To M m x (M.set j (m4 p (putK gf (k3 i) u))) m (upd x p (.dT (putK gf (k3 i) u))):=To.put d.s d.w r (λ_ h=>h) (λb u n e=>by rw[aS n];show e) (λb o=>⟨.dT (putK gf (k3 i) u),by rw[show b=p from o];show bg,by ext _ h;cases h⟩) bg;let C:=(a.trans g).trans d;show⟨p,_,B,K4.t (cu d.w r).1 (d.s _ _ o) T,k _ q m _ f (C.trans A) ((l.mono C.g).mono A.g)⟩
end
def o9(p:ab)(o:Obj)(u:HO):Res:=⟨λb=>b=p,λ_ H=>H p=J (.cx o u),λ_ k h=>k p _ B h⟩
def c0(l:Y NN0):Y (Key×V):=l.map λq=>(gB (q.1:Int),V.int (q.2:Int))
def AY(l:Y NN0)(hj:M[j]? =J (j1 p (c0 l)))(hd:∀o,N (M.set j (o9 p o (.dK (c0 l)))) U td b6 p)(W:Obj->Nat->Y Res->Y En->Prop)(h0:∃r,Le r U/\∀o,W o 0 (M.set j (o9 p o (.dK (c0 l)))) r)(hk:∀o i c d,W o i c d->c[j]? =J (o9 p o (.dK (c0 l))))(hs:∀o i a c d,l[i]? =J a->W o i c d->∃E vs,r9 g (h8 b0 b0) a d E vs/\b9 c E tb (Q7 (λ_=>False) λpS mu=>∃f,Le f mu/\W o (i+1) pS f))(he:∀o c d,W o ⇑l c d->Φ (.nx (c.set j (j1 p (c0 l))) d)):b9 M U (Y9 (M4 (Y8 td) g tb)) Φ:=λG H σ s w z D k=>by
 let hp:H p=J (.dK (c0 l)):=(cu w hj).1;show⟨p, .dK (c0 l),hp,cM,λo=> ?_⟩;let ll: ⇑(c0 l)=⇑l:=by delta c0;rw[aF]
 let xl:To M G H (M.set j (o9 p o (.dK (c0 l)))) G (upd H p (.cx o (.dK (c0 l)))):=To.put s w hj (λ_ h=>h) (λb u n e=>by rw[aS n];show e) (λb hb=>⟨.cx o (.dK (c0 l)),by rw[show b=p from hb];show bg,by ext _ h;cases h⟩) bg;let⟨r,ua,w0⟩:=h0;show hd o G _ σ xl.s xl.w z _ λv G0 H0 x0 r0=> ?_;let rq:=xl.trans x0;show⟨p,o,c0 l,r0,(cu x0.w (hk o 0 _ _ (w0 o))).1,λi m t H1=>m=⇑l-i/\i<= ⇑l/\∃c d G1,W o i c d/\To M G H c G1 H1/\Sl G1 t d,⟨⇑l,∅,eT _,_,r,G0,w0 o,rq,ua.sl (z.mono x0.g)⟩,?_⟩;ext i m t H1 ⟨rfl,A,c,d,G1,hw,x,l1⟩;let hz:H1 p=J (.cx o (.dK (c0 l))):=(cu x.w (hk o i _ _ hw)).1;cases I:i<⇑l
 ·show .inr ⟨⟨hz,∅⟩,λC H3=>i+1<= ⇑l/\∃q f G3,W o (i+1) q f/\To M G H q G3 H3/\Sl G3 C f,λC H3 h3=>⟨⇑l-(i+1),⋯,B,h3⟩,λu H2 y=> ?_⟩;let⟨T,kk,W,hq,rfl,hT,rfl⟩:=y;let ha:l[i]? =J l[i]:=cW I;let x2:=To.new x.s x.w hT (.tup [c9 kk,W]);let ly:kk= .inl ((l[i].1:Nat):Int)/\W= .int ((l[i].2:Nat):Int):=by delta c0 at hq;rw[cP,ha] at hq;let e1:=cq (bu hq);show⟨e1.1.symm,e1.2.symm⟩
  let⟨E,vs,hg,hb⟩:=hs o i l[i] c d ha hw;show hg _ _ t (.ref T) x2.s (l1.mono x2.g) ⟨T,_,_,B,bg,by rw[ly.1];rfl,ly.2⟩ _ λjL l2 _=> ?_;show hb _ _ jL x2.s x2.w l2 _ λot ho=> ?_;let xx:=x.trans x2;cases ot with
  | nx q f=>let⟨L,A,Q⟩:=ho;show λG3 H3 C x3 l3=>⟨I,q,L,G3,Q,xx.trans x3,A.sl l3⟩
  | ct q f=>let⟨L,A,Q⟩:=ho;show λG3 H3 C x3 l3=>⟨I,q,L,G3,Q,xx.trans x3,A.sl l3⟩
  | bk q f=>show ho.elim
  | rt q e b=>show ho.elim
 ·let e1:i=⇑l:=by lk
  subst e1;show .inl ⟨⟨hz,∅⟩,hz,?_⟩;let x5:To c G1 H1 (c.set j (j1 p (c0 l))) G1 (upd H1 p (.dK (c0 l))):=To.put x.s x.w (hk o _ _ _ hw) (λ_ h=>h) (λb u n e=>by rw[aS n];show e) (λb hb=>⟨.dK (c0 l),by rw[show b=p from hb];show bg,by ext _ h;cases h⟩) bg;show k _ (he o c d hw) G1 _ t (x.trans x5) l1
def k7(l:Y (NN0×Nat)):Y (Y Key×V):=l.map λq=>(k3 q.1,V.int (q.2:Int))
def Ua(l:Y (NN0×Nat))(hj:M[j]? =J (m4 p (k7 l)))(hd:∀o,N (M.set j (o9 p o (.dT (k7 l)))) U td b6 p)(W:Obj->Nat->Y Res->Y En->Prop)(h0:∃t,Le t U/\∀o,W o 0 (M.set j (o9 p o (.dT (k7 l)))) t)(hk:∀o i c d,W o i c d->c[j]? =J (o9 p o (.dT (k7 l))))(hs:∀o i a c d,l[i]? =J a->W o i c d->∃L vs,r9 g (h8 (h8 b0 b0) b0) a d L vs/\b9 c L tb (Q7 (λ_=>False) λpS mu=>∃f,Le f mu/\W o (i+1) pS f))(he:∀o c d,W o ⇑l c d->Φ (.nx (c.set j (m4 p (k7 l))) d)):b9 M U (Y9 (M4 (ac4 td) g tb)) Φ:=λG H σ s w z D k=>by
 let hp:H p=J (.dT (k7 l)):=(cu w hj).1;show⟨p, .dT (k7 l),hp,cM,λo=> ?_⟩;let ll: ⇑(k7 l)=⇑l:=by delta k7;rw[aF]
 let xl:To M G H (M.set j (o9 p o (.dT (k7 l)))) G (upd H p (.cx o (.dT (k7 l)))):=To.put s w hj (λ_ h=>h) (λb u n e=>by rw[aS n];show e) (λb hb=>⟨.cx o (.dT (k7 l)),by rw[show b=p from hb];show bg,by ext _ h;cases h⟩) bg;let⟨t,ua,w0⟩:=h0;show hd o G _ σ xl.s xl.w z _ λv G0 H0 x0 r0=> ?_;let rq:=xl.trans x0;show⟨p,o,k7 l,r0,(cu x0.w (hk o 0 _ _ (w0 o))).1,λi m A H1=>m=⇑l-i/\i<= ⇑l/\∃c d G1,W o i c d/\To M G H c G1 H1/\Sl G1 A d,⟨⇑l,∅,eT _,_,t,G0,w0 o,rq,ua.sl (z.mono x0.g)⟩,?_⟩;ext i m A H1 ⟨rfl,C,c,d,G1,hw,x,l1⟩;let hz:H1 p=J (.cx o (.dT (k7 l))):=(cu x.w (hk o i _ _ hw)).1;cases Q:i<⇑l
 ·show .inr ⟨⟨hz,∅⟩,λE H3=>i+1<= ⇑l/\∃r f G3,W o (i+1) r f/\To M G H r G3 H3/\Sl G3 E f,λE H3 h3=>⟨⇑l-(i+1),⋯,B,h3⟩,λu H2 y=> ?_⟩;let⟨T,q,kk,W,hq,rfl,hT,hkq,rfl⟩:=y;let ha:l[i]? =J l[i]:=cW Q;let x1:=To.tup x.s x.w hkq;let x2:=To.new x1.s x1.w hT (.tup [.ref q,W]);let ly:kk=k3 l[i].1/\W= .int ((l[i].2:Nat):Int):=by delta k7 at hq;rw[cP,ha] at hq;let e1:=cq (bu hq);show⟨e1.1.symm,e1.2.symm⟩
  let⟨L,vs,hg,hb⟩:=hs o i l[i] c d ha hw;let I:=x1.trans x2;show hg _ _ A (.ref T) x2.s (l1.mono I.g) ⟨T,_,_,B,bg,⟨q,_,_,B,x2.g _ _ (by rw[bg,ly.1];rfl),B,B⟩,ly.2⟩ _ λjL l2 _=> ?_;show hb _ _ jL x2.s x2.w l2 _ λot ho=> ?_;let xx:=x.trans I;cases ot with
  | nx r f=>let⟨CZ,C,pW⟩:=ho;show λG3 H3 E x3 l3=>⟨Q,r,CZ,G3,pW,xx.trans x3,C.sl l3⟩
  | ct r f=>let⟨CZ,C,pW⟩:=ho;show λG3 H3 E x3 l3=>⟨Q,r,CZ,G3,pW,xx.trans x3,C.sl l3⟩
  | bk r f=>show ho.elim
  | rt r e b=>show ho.elim
 ·let e1:i=⇑l:=by lk
  subst e1;show .inl ⟨⟨hz,∅⟩,hz,?_⟩;let x5:To c G1 H1 (c.set j (m4 p (k7 l))) G1 (upd H1 p (.dT (k7 l))):=To.put x.s x.w (hk o _ _ _ hw) (λ_ h=>h) (λb u n e=>by rw[aS n];show e) (λb hb=>⟨.dT (k7 l),by rw[show b=p from hb];show bg,by ext _ h;cases h⟩) bg;show k _ (he o c d hw) G1 _ A (x.trans x5) l1
end
abbrev aB:Enc LN0:=eList b0
abbrev bL:Enc (Y Int):=eList b5
abbrev cV:Enc NN0:=h8 b0 b0
abbrev fb:Enc (Nat×NN0):=Q5 b0 b0 b0
abbrev ej:Enc LL0:=eList (eList b0)
abbrev CU:Enc (Y (Y Int)):=eList (eList b5)
def fM{l:Y α}{i:Nat}{b:α}(h:l[i]? =J b):n4 l (i:Int)=J b:=by delta n4;rw[wD (dZ.1 h).1];show h
def at_getD{l:Y α}(h:i<⇑l):n4 l (i:Int)=J (l.getD i d):=fM (getD_at h)
def fV{l:Y α}{b:α}(h:l[0]? =J b):n4 l 0=J b:=fM h
def kg(h:l.getLast? =J b):n4 l (-1)=J b:=by rw[Eg] at h;let a:=(dZ.1 h).1;delta n4 G5;rw[aj ∅,ar ⋯];rw[show((-1:Int)+(⇑l:Int)).toNat=⇑l-1 by grind];show h
def cN(h:n<=m)(a:m<16777216:=by decide):n<aV:=by rw[bM];lk
def aaV(l:Y α)(k:Nat)(p:Nat×α->Bool):((l.zipIdx.map λx=>(x.2,x.1)).filter p)=((l.zipIdx.filter λx=>p (x.2,x.1)).map λx=>(x.2,x.1)):=by rw[gx];rfl
def wj(l:Y α): ⇑(l.zipIdx.map λx=>(x.2,x.1))=⇑l:=⋯
def Zg{l:Y α}{x:Nat×α}(h:x∈l.zipIdx.map λx=>(x.2,x.1)):l[x.1]? =J x.2:=by let⟨y,a,rfl⟩:=a_.1 h;have:=jO.1 a;show this
def Gm:∀(l:Y α) (k:Nat) (p:α->Bool),(((l.zipIdx k).filter λx=>p x.1).map λx=>x.2)=((vJ k ⇑l).filter λi=>(l[i-k]?).any p)
 | [],k,p=>rfl
 | a::l,k,p=>by
   rw[mQ,fA,cX,List.range'_succ,fA];let e:((l.zipIdx (k+1)).filter λx=>p x.1).map (λx=>x.2)=(vJ (k+1) ⇑l).filter λi=>((a::l)[i-k]?).any p:=by rw[Gm l (k+1) p];apply jt;ext i b;have:=List.mem_range'.1 b;let⟨j,c,rfl⟩:=this;rw[show k+1+1*j-k=(k+1+1*j-(k+1))+1 by lk,EA]
   rw[AQ,RX,Option.any_some];cases p a<;>simp[e]
def D9(b:Y En):Enc Unit:=⟨λG v _=>∃p a,v= .ref p/\G p=J (.lst a)/\Sl G (a.map J) b,λs ⟨p,a,c,d,e⟩=>⟨p,a,c,s _ _ d,e.mono s⟩⟩
def bE{K:aG}{M:Y Res}{U d:Y En}{f:TE}{α:Type}{e:Enc α}{b:α}{i:Nat}(g:N M U f (D9 d) ())(h:d[i]? =J (.im e b):=by rfl):N M U (d9 (E4 K) f (j8 (.int (i:Int)))) e b:=
 f_ g (aw) λG H x y Q s w ⟨p,c,j,l,m⟩ n k=>by
  let⟨v,a,o⟩:=m.get h;let r:c[i]? =J v:=by
   rw[cP] at a;cases q:c[i]? with
   | none=>rw[q] at a;cases a
   | some u=>rw[q] at a;cases bu (bu a);rfl
  show⟨p,c,i,v,j,n,SqL.of (s _ _ l),fM r,k v G H (To.refl s w) o⟩
def A8:Enc Unit:=⟨λ_ v _=>v= .bO,λ_ h=>h⟩
def nE:N M U (j8 .bO) A8 ():=tU λ_=>B
def mj(h:N M U d e b)(f:∀G v,e.rep G v b->decide (v= .bO)=c):N M U (V0 d) e7 c:=λG H g s w l Q k=>h G H g s w l _ λv a i x r=>k _ a i x (by rw[f a v r];rfl)
end R3
end
section
namespace L2
open PySem PySem.Spec PyProof.Rows
section
section
variable {prog:bD} {w:bf}
def Wl(d:ab)(e:(d==fu)=ak):
 MeetsIn prog w (fw.«dict.__len__» ⟨[.ref d], []⟩) (λ_ R s=>∃o b c,s.heap.get? d=J o/\o.data= .dict b c/\R (.ok (.ret (.int b.size s.toks))) {s with toks:=s.toks+1}):=
 .of_wp λA R s ⟨o,b,c,f,a,h⟩=>by change ao _ _ (dictSize d>>=_) _ _ s;delta dictSize;show ag (ag (lI f a (ax ?_)));change ao _ _ (Builtin.Dict.pendingCount d>>=_) _ _ s;show ag (wpAny_pendingCount_other e (wpAny_ret_mkInt ?_));rw[Lf];show h
end
section
variable {X:Cx} {K:aG}
def ae5:Y V->Hp->VK->Prop:=λc H Q=>∃(a:ab) (b:Y (Y Key×V)),c= [V.ref a]/\H a=J (.dT b)/\Q (.int ⇑b) H
def Ji:i3 X (.builtin "len") ae5:=by ext c s p H t v Q I r h;let⟨a,b,rfl,e,q⟩:=h;let⟨u,rfl,i⟩:=vals1 r;cases i;let⟨j,o,k,l,f,m,d,n,_⟩:=CC I e;let z: ⇑b<=aV:=(CA I.aQ e).1;rw[bM] at z;let g:s.TypeIs (.ref a) "dict":=⟨o,f,m.1⟩;show call_len_slot g F.slot_dict_len (λw x=>Nm F.slot_dict_len g F.entry_dict_len (F.args_dict_len_1 _) (Wl a j) ⟨o,k,l,f,d,∅⟩) ∅ ⋯ ⟨.int ⇑b,H,I.tok _,⟨_,B⟩,q⟩
end
end
section
section
variable {prog:bD} {w:bf} {A:bY} {R:tW->au->Prop} {I:ab} {fp wr:Y ab} {n:Nat} {P:Nat->ae->Prop} {Zt:Nat->bA->Prop}
def UI(kw:Y (Str×ae))(W:rp prog w A.in1 I fp wr n P Zt)(C:Nat->Nat->Bool)(D:bA->Prop)(S:ab)(H:S∉fp)(L:∀h l,D h->(∀b o,b∉wr->b≠S->h.get? b=J o->l.get? b=J o)->D l)(T:∀i j vi vj (s:au) (Q:ae->au->Prop) (E:ae->au->Prop),D s.heap->P i vi->P j vj->Q (.bool (C i j)) s->ao (aD prog w) A.in1 (sE .Gt vi vj) Q E s):
 ∀(k j:Nat) (s:au) (g:ae) (c:Nat),n-(j+1)=k->j+1<=n->Zt (j+1) s.heap->D s.heap->P (gC C j) g->s.heap.get? S=J {cls:= .type "list",dict:=ah,data:= .seq #[g,g] c,slots:= #[]}->
 (∀v l tk,P (gC C (n-1)) v->(∀b o,b∉wr->b≠S->s.heap.get? b=J o->l.get? b=J o)->R (.ok (.ret v)) {s with heap:=l,toks:=tk})->iP (aD prog w) A (.builtin "max.loop" ⟨[.ref I, .none, .ref S],kw⟩) R s:=by
 let mz:S∉wr:=λh=>H (W.sub _ h);let nm:(toString "max"++toString ".loop":String)="max.loop":=∅;ext k;induction k with
 | zero=>ext j s g c hk hj p hg q hS hR;let uf:j+1=n:=⋯;show gW F.entry_max_loop ?_;rw[ic F.plain_max_loop _];change ao _ A.in1 (qU (.ref S)>>=_) _ _ s;show ag (mY hS B ?_);change ao _ A.in1 (tryCatch (dE (.ref I)) _>>=_) _ _ s;show ag (jx (W.done s _ _ (uf▸p) λl tk r=> ?_));let f:=r S _ mz hS;change ao _ A.in1 (xp S (λ_=> #[])>>=_) _ _ _;show ag ?_;show qv f B (ag (nk (ax ?_)));show hR g _ tk ⋯ λb o a d e=>(gO _ _ (eF d)).trans (r b o a e)
 | succ k ih=>
   ext j s g c hk hj p hg q hS hR;let t:j+1<n:=⋯;show gW F.entry_max_loop ?_;rw[ic F.plain_max_loop _];change ao _ A.in1 (qU (.ref S)>>=_) _ _ s;show ag (mY hS B ?_);change ao _ A.in1 (tryCatch (dE (.ref I)) _>>=_) _ _ s;show ag (jx (W.item (j+1) s _ _ t p λv l tk hP m r=> ?_));let f:=r S _ mz hS;let u:D l:=L _ _ hg λb o a _ e=>r b o a e;change ao _ A.in1 (tryCatch (fW [v,v] (sE .Gt v g>>=_)) _>>=_) _ _ _;show ag (jx (gm (ag (T (j+1) (gC C j) v g _ _ _ u hP q ?_))));show ag (gm (kL ?_));show ag (nk (ax ?_));cases hb:C (j+1) (gC C j)with
   | true=>
     erw[gq];show ag ?_;show qv f B (ag (nk ?_));rw[nm];show ax ⟨gn F.plain_max_loop _,ih (j+1) _ v _ ⋯ t (W.frame _ _ _ m λb xS o e=> ?_) (L _ _ u λb o a d e=>(gO _ _ (eF d)).trans e) (by erw[gC,hb,gq];show hP) (kH _ f B) λv' h2 x y k2=> ?_⟩
     ·show(gO _ _ (λz:S=b=>H ∅)).trans e
     ·show hR v' h2 x y λb o a d e=>k2 b o a d ((gO _ _ (eF d)).trans (r b o a e))
   | false=>erw[kJ,fF];show ag (nk ?_);rw[nm];show ax ⟨gn F.plain_max_loop _,ih (j+1) _ g c ⋯ t m u (by erw[gC,hb,kJ,fF];show q) f λv' h2 x y k2=> ?_⟩;show hR v' h2 x y λb o a d e=>k2 b o a d (r b o a e)
end
section
variable {prog:bD} {w:bf} {A:bY} {E:ae->au->Prop} {s:au}
def Vs(a d:ae):nW "max" ⟨[a], [("default",d)]⟩:=by delta nW;kernel_rfl
def Vn(d:ae):rB "max" ["key","default"] 0 ⟨[], [("default",d)]⟩=pure [ah,J d]:=B
def WU(hh:A.handled=ah)(D:s.heap.IsList l f.toArray)(hi:eG f g)(h0:g= []->∀h q,(∀b o,s.heap.get? b=J o->h.get? b=J o)->Q d {s with heap:=h,toks:=q})
 (h1:∀h q c H,(∀b o,s.heap.get? b=J o->h.get? b=J o)->c∈g->(∀a,a∈g->a<=c)->Q (.int c H) {s with heap:=h,toks:=q}):ao (aD prog w) A (call (.builtin "max") [.ref l] [("default",d)]) Q E s:=by
 let nm:(toString "max"++toString ".loop":String)="max.loop":=∅;let I:l<↥s:=by let⟨_,e,_⟩:=D;show bF e
 have k: ⇑f=⇑g:=hi.length;show Lj F.kind_max F.plain_max F.entry_max (Vs _ _) ?_;change ao _ A.in1 (rB "max" ["key","default"] 0 ⟨[], [("default",d)]⟩>>=_) _ _ s;show ag (nj (Vn d) ?_);show ag (ax ?_);show ag (oA D ?_);let W:=sC (prog:=prog) (w:=w) (A:=A.in1) hh ↥s l (cK I) f.toArray;show ag (fc ?_);rw[nm];let L:((s.heap.push {cls:= .type "list_iterator",data:= .fields #[.ref l, .int 0 0]}).IsListIter ↥s l 0/\(s.heap.push {cls:= .type "list_iterator",data:= .fields #[.ref l, .int 0 0]}).IsList l f.toArray):=⟨⟨_,cg _ B,B,B⟩,D.push _⟩;let T:=W.frame 0 _ ((s.heap.push {cls:= .type "list_iterator",data:= .fields #[.ref l, .int 0 0]}).push {cls:= .type "list",data:= .seq #[]}) L λb _ o e=>bQ _ e;let zS:(s.heap.push {cls:= .type "list_iterator",data:= .fields #[.ref l, .int 0 0]}).objs.size=↥s+1:=fC ..;let p:(s.heap.push {cls:= .type "list_iterator",data:= .fields #[.ref l, .int 0 0]}).objs.size∉ [↥s,l]:=⋯;let mz:(s.heap.push {cls:= .type "list_iterator",data:= .fields #[.ref l, .int 0 0]}).objs.size∉ [↥s]:=λz=>p (W.sub _ z);let r:∀b o,s.heap.get? b=J o->b∉ [↥s]/\b≠(s.heap.push {cls:= .type "list_iterator",data:= .fields #[.ref l, .int 0 0]}).objs.size:=by
  ext b o e;let hb:=bF e;show⟨λz=> ?_,λz=> ?_⟩
  ·cbv
  ·lk
 show ax ⟨gn F.plain_max_loop _,?_⟩;show gW F.entry_max_loop ?_;rw[ic F.plain_max_loop _];change ao _ A.in1 (qU (.ref _)>>=_) _ _ _;show ag (mY (cg _ B) B ?_);change ao _ A.in1 (tryCatch (dE (.ref ↥s)) _>>=_) _ _ _;cases hn:g= []
 ·let hz:f.toArray.size=0:=by rw[jR,k,hn];rfl
  show ag (jx (W.done _ _ _ ∅ λh q C=> ?_));show ag (sP (ax ?_));show h0 hn h q λb o e=>C b o (r b o e).1 (bQ _ (bQ _ e))
 ·have m:0<f.toArray.size:=by rw[jR,k];show mK.2 hn
  show ag (jx (W.item 0 _ _ _ m T λv h q hP x C=> ?_));let n:∀(i:Nat) (u:ae),f.toArray[i]? =J u->∃t,u= .int (g.getD i 0) t:=λi u e=>HY hi i u ∅;let y:=C _ _ mz (cg _ B);change ao _ A.in1 (xp _ (λ_=> #[v,v])>>=_) _ _ _;show ag ?_;show qv y B ?_;rw[nm];show ax ⟨gn F.plain_max_loop _,UI [("default",d)] W (λi j=>decide (g.getD i 0>g.getD j 0)) (λ_=>True) _ p (λ_ _ _ _=>trivial) (λi j vi vj s2 Q2 E2 _ uh DG q2=>CmpOf.ints_gt (λi=>g.getD i 0) n i j vi vj s2 Q2 E2 uh DG q2) _ 0 _ v _ B m (W.frame _ _ _ x λb xS o e=> ?_) trivial hP (kH _ y B) λv' h2 tZ uk k2=> ?_⟩
  ·show(gO _ _ (λz=>p ⋯)).trans e
  ·let⟨H,rfl⟩:=n _ _ uk;let⟨b1,b2⟩:=argBest_gt (λi=>g.getD i 0) (f.toArray.size-1);let hsz:f.toArray.size=⇑g:=⋯;show h1 h2 tZ _ H (λb o e=> ?_) ?_ λa ha=> ?_
   ·let⟨o1,o2⟩:=r b o e;show k2 b o o1 o2 ((gO _ _ (eF o2)).trans (C b o o1 (bQ _ (bQ _ e))))
   ·lk
   ·let⟨j,hj,rfl⟩:=ZZ ha;show b2 j ⋯
end
section
variable {X:Cx} {K:aG} {p pos:Pos} {e:aZ}
def ad8(K:aG)(f g:TE):TE:=λd H Q=>f d H λx h=>g d h λy c=>∃(a:ab) (b:Y Int),x=V.ref a/\SqL K c a (b.map V.int)/\(b= []->Q y c)/\∀m,m∈b->(∀z,z∈b->z<=m)->Q (.int m) c
def YF(C:X.K=K)(D:X.calm=aa)(E:k4 X "max")(L:X.mg "max"=ah)(T:b3 X e te)(hd:b3 X d w)(k:aH [e] X.env=(ak,eval e X.env)::aH [] X.env:=by rfl)(h1:dh pos (aH [e] X.env)=(ak,eval e X.env)::dh pos (aH [] X.env):=by rfl)(h2:(dh pos (aH [e] X.env)).any (·.1)=false:=by rfl):b3 X (.Call (.Name "max" p) [e] [⟨J "default",d,A⟩] pos) (ad8 K te w):=by
 subst C;ext c s l H Q I h;show ow (mf (u:= .builtin "max") I E L (by decide+kernel) ?_);show Pa (aM (dM T cQ k pos c s l H (λn o=>match n with
  | [x]=>w l o λy g=>∃(a:ab) (i:Y Int),x=V.ref a/\SqL X.K g a (i.map V.int)/\(i= []->Q y g)/\∀m,m∈i->(∀z,z∈i->z<=m)->Q (.int m) g
  | _=>False) I h) λus s1 ⟨n,o,I1,q,f⟩=> ?_) h1 h2 B B
 match n,q,f with
 | [x],q,f=>let⟨u,rfl,rx⟩:=vals1 q;show PM (aM (hd c s1 l o _ I1 f) λdv s2 h9=> ?_);let⟨y,g,j,ry,a,i,ex,hs,q0,q2⟩:=h9;show PQ ?_;subst ex;cases(show u=bK a from rx);let⟨gL,rv,hl,_⟩:=j.list hs;change ao _ _ (call (.builtin "max") [.ref a] [("default",dv)]) _ _ s2;show WU (j.ok.hd D) hl.isList rv.ints (λe0 h' r t=>⟨y,g,j.kept (t':=r) t,ry,q0 e0⟩) λh' r b t' t hM v=>⟨.int b,g,j.kept (t':=r) t,⟨t',B⟩,q2 b hM v⟩
 | [],_,f=>show f.elim
 | _::_::_,_,f=>show f.elim
end
end
section
section
variable {prog:bD} {w:bf} {A:bY} {E:ae->au->Prop} {s:au}
def UO(hh:A.handled=ah)(I d:ab)(ek:d≠I)(og:od.data= .dict es ep):
 rp prog w A I [I,d] [I] es.size (λi v=>∃en,es[i]? =J en/\v=en.key) (λi h=>h.IsKeyIter I d i es.size ep/\h.get? d=J od)where
 sub:=λb hb=>∅
 frame:=λ_ _ _ st hk=>⟨st.1.at λo e=>hk I ∅ o e,hk d ∅ _ st.2⟩
 item:=λi s Q E hi st hQ=>Qb st.1 st.2 og B (ib hi) λg pM oa=>
  hQ _ g s.toks ⟨_,ib hi,B⟩ ⟨pM,oa.extBut d _ ek st.2⟩ λb o hb e=>oa.extBut b o (λh=>hb ∅) e
 done:=λs Q E st hQ=>QE hh st.1 st.2 og B (br _) λg lz=>hQ g s.toks λb o hb e=>lz b o (λh=>hb ∅) e
 self:=λ_ _ _ _ st hQ=>wpAny_pyIter_keyiter st.1 hQ
def Zm{d:ab}{od:Obj}{es:Array nv}{ep:Nat}(lo:(d==fu)=ak)(hx:od.ExactDict)(og:od.data= .dict es ep):XI prog w "dict" d d es.size (λi v=>∃en,es[i]? =J en/\v=en.key) (λh=>h.get? d=J od)where
 type:=λ_ hm=>⟨od,hm,hx.1⟩
 there:=λ_ hm=>⟨bF hm,bF hm⟩
 keep:=λ_ _ hm hk=>hk d (.inl B) _ hm
 notList:=∅
 notTuple:=∅
 hint:=λ_ _ _ _ hm hq=>PySem.W.kdl_hint_dict ⟨od,hm,hx.1⟩ hq
 iter:=λ_ _ hh hm=>⟨_,_,(λ_ _ hq=>UR lo hm hx og hq),UO hh _ d (cK (bF hm)) og,⟨⟨_,cg _ B,B,B⟩,bQ _ hm⟩⟩
end
section
variable {X:Cx} {K:aG}
def Y6:Y V->Hp->VK->Prop:=λc H Q=>∃(d:ab) (a:Y (Y Key×V)),c= [V.ref d]/\H d=J (.dT a)/\
 ∀(l:ab) (b:Y ab),H l=ah->aU (λ(q:ab) (e:Y Key×V)=>H q=J (.tup (e.1.map c9))) b a->Q (.ref l) (upd H l (.lst (b.map V.ref)))
def Zk{H:Hp}{a:Y (Y Key×V)}{b:Y (Y Key×ab×ae)}(h:aU (λ(p:Y Key×V) (q:Y Key×ab×ae)=>p.1=q.1/\H q.2.1=J (.tup (p.1.map c9))/\RelV p.2 q.2.2) a b):aU (λ(q:ab) (c:Y Key×V)=>H q=J (.tup (c.1.map c9))) (b.map λx=>x.2.1) a:=h.rec .nil λr _ t=> .cons r.2.1 t
def Il:∀l:Y ab,Vals (l.map V.ref) (l.map bK)
 | []=> .nil
 | a::l=> .cons B (Il l)
def SU(p:X.calm=aa):i3 X (.type "list") Y6:=by
 ext e s σ H b us Q I r h;let⟨d,f,rfl,t,q⟩:=h;let⟨u,rfl,v⟩:=vals1 r;cases v;let⟨z,w,b,k,od,y,ep,A,C,g,l,_⟩:=I.aQ d _ t;let m:y.size=⇑b:=KU l;let l2: ⇑f=⇑b:=iE k;show PySem.W.kdl_call (Zm w C g) (I.ok.hd p) A ∅ λh' tk a D E L c=> ?_;let T:a.toList=(b.map λx=>x.2.1).map bK:=by
  apply ox;ext i;rw[rH,bS,cP];cases j:i<⇑b
  ·let n:i<a.size:=by rw[c.1,m];show j
   rw[ib n];let⟨en,h2,h3⟩:=c.2 i _ (ib n);let o:=entry_at l i;rw[h2,cW j] at o;rw[cW j,h3];cases o;rfl
  ·rw[lD (by rw[c.1,m];cbv),rJ ∅];rfl
 show⟨.ref ↥s,upd H ↥s (.lst ((b.map λx=>x.2.1).map V.ref)),I.laid E (br _) ?_,B,q _ _ I.fresh (Zk k)⟩;show⟨∅,(b.map λx=>x.2.1).map bK,D,Il _,?_⟩;rw[<-T,TB];show L
end
end
section
abbrev lA:=Y (Y Key×ab×ae)
def X9(a b:lA):lA:=b.foldl (λa q=>storedH a q.1 q.2.1 q.2.2) a
def Ue{b:lA}{k:Y Key}:∀x∈storedH b k a v,(∃y∈b,y.1=x.1/\y.2.1=x.2.1)\/(x.1=k/\x.2.1=a):=by
 ext x c;delta storedH at c;split at c
 ·let⟨y,d,rfl⟩:=a_.1 c;show .inl ⟨y,d,?_⟩;delta putAt;split<;>show⟨B,B⟩
 ·lk
def Ud(b:lA)(k:Y Key)(a:ab)(v:ae): ⇑(storedH b k a v)<= ⇑b+1:=by
 delta storedH;split
 ·rw[aF];cbv
 ·cbv
section
variable {prog:bD} {w:bf} {A:bY} {E:ae->au->Prop}
def M8(P:bD)(w:bf)(h:bA)(S:ab)(a:lA):Prop:=∃o b c,h.get? S=J o/\o.ExactDict/\o.data= .dict b c/\b.toList=a.map (entryOfKey (iI (g8 P w)))/\(a.map (·.1)).Nodup
def M8.at(r:M8 prog w h S c)(k:∀o,h.get? S=J o->d.get? S=J o):M8 prog w d S c:=let⟨o,e,f,a,b⟩:=r;⟨o,e,f,k o a,b⟩
def MT(x:(iI (g8 prog w)).is h k a)(q:∀o,h.get? a=J o->c.get? a=J o):(iI (g8 prog w)).is c k a:=let⟨o,b,n,d,e⟩:=x;⟨o,b,n,q o d,e⟩
def Io{items:Array ae}{h₀:bA}(hh:A.handled=ah)(hu:A.units+1<ey)(v:l≠I)(f:S≠I)(C:S≠l)(h0:∀b o,h₀.get? b=J o->b≠S/\b≠I):
 ∀(a:lA) (i:Nat) (d:lA) (ix:Int) (t:Tok) (s:au),items.size=i+⇑a-> ⇑d+⇑a<=aV->
  (∀(j:Nat) (q:Y Key×ab×ae),a[j]? =J q->(∃b:ab,items[i+j]? =J (.ref b)/\gJ h₀ b #[.ref q.2.1,q.2.2])/\(iI (g8 prog w)).is h₀ q.1 q.2.1)->
  (∀x∈d,(iI (g8 prog w)).is h₀ x.1 x.2.1)->(∀b o,h₀.get? b=J o->s.heap.get? b=J o)->
  s.heap.IsListIter I l i->s.heap.IsList l items->M8 prog w s.heap S d->
  (∀p tk,M8 prog w p S (X9 d a)->(∀b o,b≠S->b≠I->s.heap.get? b=J o->p.get? b=J o)->R (.ok (.ret res)) {s with heap:=p,toks:=tk})->
  iP (aD prog w) A (.builtin "dict.update.loop" ⟨[.ref S, .ref I, .int ix t,res], []⟩) R s
 | [],i,d,ix,t,s,g,D,ht,ha,H,r,hl,hm,hR=>by show gW vO ?_;rw[ic kZ _];change ao _ A.in1 (dE (.ref I)>>=_) _ _ s;show ag (FO hh r hl (by first| show lD (sj g)| (simp at g;simp;lk)) λp he=> ?_);change ao _ A.in1 (Pc S []>>=_) _ _ _;show ag (ax (ax (hR p s.toks (hm.at λo e=>he S o f e) λb o _ hb e=>he b o hb e)))
 | q::a,i,d,ix,t,s,g,D,ht,ha,H,r,hl,hm,hR=>by
   let⟨⟨b,hb,L⟩,hk⟩:=ht 0 q B;rw[cX] at g D;show gW vO ?_;rw[ic kZ _];change ao _ A.in1 (dE (.ref I)>>=_) _ _ s;show ag (Ft r hl ⋯ λQ T h=> ?_);let k1:∀c o,h₀.get? c=J o->Q.get? c=J o:=λc o e=>h.extBut c o (h0 c o e).2 (H c o e);let Ds:gJ Q b #[.ref q.2.1,q.2.2]:=L.keeps λc o e=>k1 c o e;let DE:Q.IsList l items:=hl.extBut h.extBut v;let xP:M8 prog w Q S d:=hm.at λo e=>h.extBut S o f e;let⟨o,ho,hc,n,hd⟩:=id Ds;change ao _ A.in1 (fW [bK b] _>>=_) _ _ _;show ag (gm ?_);show ag (jx ?_);delta Po;show ag (sy ⟨o,ho,hc⟩ ?_);rw[ar ∅];show ag (mY ho hd (ax ?_));change ao _ A.in1 (fW [.ref q.2.1,q.2.2] (dictSet S (.ref q.2.1) q.2.2)) _ _ _;let⟨od,es,ep,g1,g2,g3,g4,g5⟩:=xP;let hD:Q.DictOfH (iI (g8 prog w)) S d:=⟨od,es,ep,g1,g2,g3,g4,λx hx=>MT (ha x hx) λo e=>k1 _ o e,g5⟩;show gm (wpAny_dictSet_heap hu (MT hk λo e=>k1 _ o e) hD (λh2 rA m=> ?_) ⋯);let k2:∀c o,h₀.get? c=J o->h2.get? c=J o:=λc o e=>m.extBut c o (h0 c o e).1 (k1 c o e);let⟨od',uq,ur,g1',g2',g3',g4',_,g5'⟩:=rA;show ax ⟨gn kZ _,Io hh hu v f C h0 a (i+1) (storedH d q.1 q.2.1 q.2.2) (ix+1) 0 _ (show items.size=i+1+⇑a by lk) ?_ (λj q' e=> ?_) (λx hx=> ?_) k2 ?_ ?_ ⟨od',uq,ur,g1',g2',g3',g4',g5'⟩ λp tk kA k=> ?_⟩
   ·let z:=Ud d q.1 q.2.1 q.2.2;lk
   ·let⟨⟨b',jM,u⟩,oe⟩:=ht (j+1) q' ∅;show⟨⟨b',?_,u⟩,oe⟩;rw[show i+1+j=i+(j+1) by lk];show jM
   ·obtain⟨y,hy,e1,e2⟩| ⟨e1,e2⟩:=Ue x hx
    ·lk
    ·rw[e1,e2];show hk
   ·show T.at λo' e=>m.extBut I o' (eF f) e
   ·show DE.extBut m.extBut (eF C)
   ·show hR p tk kA λc oc h3 h4 e=>k c oc h3 h4 (m.extBut c oc h3 (h.extBut c oc h4 e))
def RM(hh:A.handled=ah)(hu:A.units+2<ey)(D:s.heap.get? l=J m)(I:m.cls= .type "list")(hd:m.dict=ah)(f:m.data= .seq a n)(hsz:a.size=⇑prs)(hln: ⇑prs<=aV)(ht:∀(j:Nat) (q:Y Key×ab×ae),prs[j]? =J q->(∃b:ab,a[j]? =J (.ref b)/\gJ s.heap b #[.ref q.2.1,q.2.2])/\(iI (g8 prog w)).is s.heap q.1 q.2.1)(h:∀p L,M8 prog w p ↥s (X9 [] prs)->(∀b o,s.heap.get? b=J o->p.get? b=J o)->Q (.ref ↥s) {s with heap:=p,toks:=L}):
 ao (aD prog w) A (call (.type "dict") [.ref l]) Q E s:=by
 refine callType_codes (Q₁:=λt g=>t= .ref ↥s/\g={s with heap:=s.heap.push {cls:= .type "dict",data:= .dict #[]}}) QU (PL _) Qq (kt_code_dict_new _ ⟨B,B⟩) ?_;ext t g ⟨rfl,rfl⟩;let u:M8 prog w (s.heap.push {cls:= .type "dict",data:= .dict #[]}) ↥s []:=⟨_, #[],0,cg _ B,⟨B,B,B⟩,B,B,zN⟩;let hT:(Shared.mk (s.heap.push {cls:= .type "dict",data:= .dict #[]}) s.gens s.drawn s.toks s.os).TypeIs (.ref ↥s) "dict":=⟨_,cg _ B,B⟩;let v:∀b o,s.heap.get? b=J o->(s.heap.push {cls:= .type "dict",data:= .dict #[]}).get? b=J o:=λb o e=>bQ _ e;show⟨hT,Qm _ _,?_⟩;delta fw.«dict.__init__»;show ag ?_;delta Pb;show ag (uC hT ?_);change ao _ _ (pure (↥s, [bK l])) _ _ _;show ax ?_;change ao _ _ (yf "dict.__init__" ↥s (.ref l) [] .none) _ _ _;delta yf;show ag (sy (T:="list") ⟨m,v _ _ D,I⟩ ?_);rw[ar ∅];show ag (IV (v _ _ D) I f hd hh λi T c=> ?_);rw[ar (show(ah:az ae).isNone=aa from B)];show ag (sP ?_);let x:i.IsList l a:=⟨m,c _ _ (v _ _ D),I,n,f⟩;let d: ↥s<i.objs.size:=bF (c _ {cls:= .type "dict",data:= .dict #[]} (cg _ B));show ag (oA x ?_);let H:∀b o,i.get? b=J o->(i.push {cls:= .type "list_iterator",data:= .fields #[.ref l, .int 0 0]}).get? b=J o:=λb o e=>bQ _ e;let y:l<↥s:=bF D;let z:=Io (prog:=prog) (w:=w) (A:=A.in1) (R:=wants (λr C=>r= .none/\Q (.ref ↥s) C) E) (S:=↥s) (I:=i.objs.size) (l:=l) (items:=a) (res:=ft) (h₀:=s.heap) hh hu
  (cK (lQ y d)) (cK d) (j_ y) (λb o e=>⟨cK (bF e),cK (lQ (bF e) d)⟩) prs 0 [] 0 0
  {s with heap:=i.push {cls:= .type "list_iterator",data:= .fields #[.ref l, .int 0 0]},toks:=T} ∅ ∅
  (λj q e=>⋯) (λ_ h=>nomatch h) (λb o e=>H _ _ (c _ _ (v _ _ e)))
  ⟨_,cg _ B,B,B⟩ (x.at λo e=>H _ _ e) ((u.at λo e=>c _ _ e).at λo e=>H _ _ e)
  (λp L kA k=>⟨B,h p L kA λb o e=>k b o (cK (bF e)) (cK (lQ (bF e) d)) (H _ _ (c _ _ (v _ _ e)))⟩)
 first
  | show ax ⟨gn kZ _,z⟩
  | show ag (ax (ax ⟨gn kZ _,z⟩))
end
section
variable {X:Cx} {K:aG}
def F4(b a:Y (Y Key×V)):Y (Y Key×V):=a.foldl (λc d=>putK c d.1 d.2) b
def ad3(K:aG):Y V->Hp->VK->Prop:=λe H Q=>∃(a:ab) (c:Y ab) (b:Y (Y Key×V)),e= [.ref a]/\SqL K H a (c.map V.ref)/\aU (λp d=>∃q,H p=J (.tup [.ref q,d.2])/\H q=J (.tup (d.1.map c9))) c b/\
 ∀p,H p=ah->Q (.ref p) (upd H p (.dT (F4 [] b)))
def Uy(I:Inv X g D H s){i:Y ab}{d:Y (Y Key×V)}(l:aU (λp c=>∃q,H p=J (.tup [.ref q,c.2])/\H q=J (.tup (c.1.map c9))) i d):∃a:lA,KT H d a/\ ⇑a=⇑i/\∀(j:Nat) (q:Y Key×ab×ae),a[j]? =J q->(∃b:ab,i[j]? =J b/\gJ s.heap b #[.ref q.2.1,q.2.2])/\(iI (g8 X.prog X.w)).is s.heap q.1 q.2.1:=by
 induction l with
 | nil=>show⟨[], .nil,B,λj q e=>∅⟩
 | @cons p c _ _ h t m=>
   let⟨a,r,E,L⟩:=m;let⟨f,n,k⟩:=h;let⟨_,o,v,w⟩:=(show f7 X.prog X.w H s.heap p (.tup [.ref f,c.2])from I.aQ p _ n);let⟨u,y,x,z,A⟩:=vals2 v;subst x;cases(show u=bK f from z);show⟨(c.1,f,y)::a, .cons ⟨B,k,A⟩ r,∅,λj q e=> ?_⟩;cases j with
   | zero=>let C:(c.1,f,y)=q:=bu e;subst C;show⟨⟨p,B,w⟩,nO I.aQ k⟩
   | succ j=>cbv
def KT.merge:∀{more:Y (Y Key×V)} {prs:lA} {a:Y (Y Key×V)} {b:lA},KT H more prs->KT H a b->KT H (F4 a more) (X9 b prs)
 | _,_,_,_, .nil,r=>r
 | _,_,a,b, .cons (a:=c) (b:=q) (l₁:=d) (l₂:=e) h t,r=>by
   let⟨f,g,i⟩:=h;let j:KT H (putK a c.1 c.2) (storedH b q.1 q.2.1 q.2.2):=by rw[<-f];show r.put c.1 g i
   show KT.merge (more:=d) (prs:=e) t j
def Qd(b:Y (Y Key×V)):∀a:Y (Y Key×V),⇑(F4 a b)<= ⇑a+⇑b:=by
 induction b with
 | nil=>ext a;show br _
 | cons q l c=>ext a;let d:=c (putK a q.1 q.2);let e:=va a q.1 q.2;rw[cX];change ⇑(F4 (putK a q.1 q.2) l)<=_;lk
def Ti(y:X.K=K)(b:X.calm=aa)(hu:X.A.units+64<ey):i3 X (.type "dict") (ad3 K):=by
 subst y;ext i s σ H xs us Q I r q;let⟨a,ps,d,rfl,z,A,q⟩:=q;let⟨u,rfl,C⟩:=vals1 r;cases C;let⟨D,E,L,v⟩:=I.list z;obtain B:=wu E;rw[aF] at v;let⟨l,f,T,Dy⟩:=Uy I A;let⟨o,n,ho,hc,hd,g⟩:=L;show RM (prs:=l) (I.ok.hd b) ⋯ ho hc hd g ∅ ∅ (λj q' e=> ?_) λh' tk m k=> ?_
 ·lk
 ·let hm:(↥s==fu)=false:=kI.mpr (j_ I.big);let h: ⇑(F4 [] d)<=aV:=by show da (Qd d []) ?_;rw[lK,jZ,iE f,T];show v
  let w:=I.aQ.fresh (br ↥s);let⟨o',p,t,g1,g2,g3,g4,g5⟩:=m;show⟨.ref ↥s,upd H ↥s (.dT (F4 [] d)),I.laid k (br _) ?_,rfl,q _ w⟩;show⟨h,hm,_,(KT.merge f .nil).keeps λc ys x=> ?_,o',p,t,g1,g2,g3,g4,g5⟩;rw[aS (eE x w)];show x
end
end
section
section
variable {prog:bD} {w:bf} {A:bY} {E:ae->au->Prop} {s:au}
def Xv{g:Y ae}(o:gJ s.heap t #[])(p:gJ s.heap b g.toArray)(h:Q (.ref b) s):ao (aD prog w) A (iM .Add (.ref t) (.ref b)) Q E s:=by let⟨⟨q,r,i,u⟩,j,k,n,l⟩:=id o;let⟨⟨m,e,data2,f⟩,a,c,v,d⟩:=id p;simp only at k l c d;subst k l c d;show Nl ⟨_,j,B⟩ ⟨_,a,B⟩ Jy Mo Es Em (Ed _ _) (tuple_addW0 t b #[] g.toArray n v r e u f B) ⟨j,a,h⟩
end
section
variable {X:Cx} {K:aG}
def ad5(K:aG):R2:=λx y H Q=>ae6 K x y H Q\/∃a b c,x= .ref a/\y= .ref b/\d7 K H a []/\d7 K H b c/\Q (.ref b) H
def UA(g:X.K=K):e9 X (iM .Add) (ad5 K):=by
 subst g;ext c s i H x y v u Q I d e h;obtain h| ⟨a,b,p,rfl,rfl,j,k,q⟩:=h
 ·show YP c s i H x y v u Q I d e h
 ·cases d;cases e;let⟨l,m,n,_⟩:=I.tuple j;let⟨f,r,o,_⟩:=I.tuple k;obtain rfl:=m.wB.mpr rfl;show Xv n o ⟨.ref b,H,I,rfl,q⟩
end
end
section
/---/def lexLe(a b:Int×Int):Prop:=a.1<b.1\/(a.1=b.1/\a.2<=b.2)
def ad1(K:aG):Y V->Hp->VK->Prop:=λe H Q=>∃(a:ab) (c:Y (ab×(Int×Int))),e= [V.ref a]/\SqL K H a (c.map λq=>V.ref q.1)/\(∀q∈c,H q.1=J (.tup [.int q.2.1, .int q.2.2]))/\
 ∀(l:ab) (d:Y (ab×(Int×Int))),H l=ah->d.Perm c->d.Pairwise (λa b=>lexLe a.2 b.2)->Q (.ref l) (upd H l (.lst (d.map λq=>V.ref q.1)))
def Kb:∀{l:Y o} {g:Y o},l.Perm g->∀m:Y p,g=m.map f->∃c:Y p,c.Perm m/\l=c.map f:=by
 ext l g h;induction h with
 | nil=>ext m e;cases m with| nil=>show⟨[], .nil,B⟩| cons _ _=>cases e
 | cons x _ q=>
   ext m e;cases m with
   | nil=>cases e
   | cons a m=>
     rw[bp] at e;injection e with r d
     let⟨c,i,n⟩:=q m d;show⟨a::c,i.cons a,∅⟩
 | swap x y l=>
   ext m e
   match m,e with
   | a::b::m,e=>
     rw[bp,bp] at e;injection e with r d
     injection d with d w;show⟨b::a::m, .swap a b m,∅⟩
 | trans _ _ j k=>ext m e;let⟨s,i,n⟩:=k m e;let⟨t,u,v⟩:=j s n;show⟨t,u.trans i,v⟩
section
variable {X:Cx} {K:aG}
def Li(I:Inv X b m H s)(h:H a=J (.tup [.int x, .int y])):∃o t u n,s.heap.get? a=J o/\o.cls= .type "tuple"/\o.data= .seq #[.int x t, .int y u] n:=by let⟨_,c,d,o,e,f,n,g⟩:=(show f7 X.prog X.w H s.heap a (.tup [.int x, .int y])from I.aQ a _ h);let⟨u,v,rfl,⟨i,j⟩,⟨k,l⟩⟩:=vals2 d;subst j l;show⟨o,i,k,n,e,f,g⟩
def Yf(b:h.get? a=J o)(c:o.cls= .type "tuple")(d:o.data= .seq #[.int x t, .int y u] n):yg h (λ_=>ak) (.ref a)=J [.inl x, .inl y]:=by delta yg PyProof.Rows.G.isTupObj tupKey;simp[b,c,d,tupItems]
def Ye(h:lexLt itemOrd [.inl c, .inl d] [.inl a, .inl b]=ak):lexLe (a,b) (c,d):=by let h:(decide (c<a)|| (!decide (a<c) && (decide (d<b)|| (!decide (b<d) && ak))))=false:=h;erw[Bool.or_eq_false_iff,EU,Jx,vd,Tz,Bool.not_eq_false',cj] at h;delta lexLe;simp only;lk
def JF:∀l:Y b,l.zip l=l.map λx=>(x,x)
 | []=>rfl
 | a::l=>by rw[FX,JF l,bp]
def Te(hK:X.K=K)(hc:X.calm=true)(hu:X.A.units+1<ey):i3 X (.builtin "sorted") (ad1 K):=by
 subst hK;ext E s σ H xs us Q I r h;let⟨a,g,rfl,C,hp,q⟩:=h;let⟨u,rfl,rx⟩:=vals1 r;cases rx;let⟨gL,rv,pl,hz⟩:=I.list C;let T:(g.map λq=>V.ref q.1)=(g.map λq=>q.1).map V.ref:=⋯;rw[T] at rv;obtain rfl:=wu rv;rw[aF] at hz;let hT:∀l:List (ab×(Int×Int)),(∀q∈l,H q.1=some (.tup [.int q.2.1, .int q.2.2]))->∃D,TupsOf s.heap (λ_=>false) ((l.map λq=>q.1).map bK) D:=by
  ext l hl;induction l with
  | nil=>show⟨[], .nil⟩
  | cons b l ih=>let⟨D,h1⟩:=ih λq C=>hl q ∅;let⟨o,t,u,n,g1,g2,g3⟩:=Li I (hl b ∅);show⟨.int b.2.1 t::D, .cons ⟨b.1,o,_,n,rfl,g1,g2,g3,rfl,λ_=>⟨_,_,rfl⟩,λz=>nomatch z⟩ h1⟩
 let p:∀q∈g,yg s.heap (λ_=>false) (.ref q.1)=some [.inl q.2.1, .inl q.2.2]:=λq C=>by let⟨o,t,u,n,g1,g2,g3⟩:=Li I (hp q C);show Yf g1 g2 g3
 let⟨D,hfs⟩:=hT g hp;show PyProof.Rows.G.sorted_tups pl.isList hfs (λv hv=> ?_) ∅ λhZ d e _=> ?_
 ·lk
 ·generalize hL:arrOf hZ=L at d e;let f:L.toList.Perm (g.map λq=>(bK q.1,bK q.1)):=by have:=d.toList;rw[pairsOf_toList,JF,bS,bS] at this;show this
  let⟨c,m,w⟩:=Kb f g rfl;let x:(L.map (·.2)).toList=(c.map λq=>q.1).map bK:=by rw[Array.toList_map,w,bS,bS];rfl
  let⟨ep,he⟩:=PyProof.Rows.sortedAll_at s.heap ((g.map λq=>q.1).map bK) (L.map (·.2));let y: ⇑c=⇑g:=m.length_eq;let hpw:c.Pairwise λa b=>lexLe a.2 b.2:=by
   rw[QW];ext i j hi hj hij;let A:∀k (hk:k<⇑c),KK (PyProof.Rows.G.tupKindC s.heap λ_=>false) L k= [.inl c[k].2.1, .inl c[k].2.2]:=λk hk=>by
    delta KK;let e1:L[k]? =some (bK c[k].1,bK c[k].1):=by rw[<-rH,w,cP,cW hk];rfl
    rw[e1];change(yg s.heap (λ_=>false) (.ref c[k].1)).getD []=_;rw[p _ (m.mem_iff.1 (rR hk))];rfl
   have:=e i j (nh hij) (by rw[pairsOf_size,aF,aF,<-y];show hj);rw[A i hi,A j hj] at this;show Ye this
  show⟨.ref (↥s+1),upd H (↥s+1) (.lst (c.map λq=>V.ref q.1)),I.laid (λ_ _=>PyProof.Rows.sortedAll_old) (vL _) ⟨∅,(c.map λq=>q.1).map bK,ep,?_,?_⟩,rfl,q _ c (I.aQ.fresh (vL _)) m hpw⟩
  ·have:(c.map λq=>V.ref q.1)=(c.map λq=>q.1).map V.ref:=by rw[bS];rfl
   rw[this];generalize c.map (λq=>q.1)=l;induction l with
   | nil=>show .nil
   | cons a l ih=>show .cons rfl ih
  ·rw[<-x,TB];show he
end
end
abbrev tb(a:Bool)(b:Array Nat):SetTable:=⟨7,b, #[],0,a,0,aa⟩
def ab3(k:Nat):Y (Array Nat):=match k with
 | 0=> [#[]]
 | 1=>(bR 8).map λa=> #[a]
 | 2=>(bR 8).flatMap λa=>((bR 8).filter λb=>decide (a<b)).map λb=> #[a,b]
 | _=>(bR 8).flatMap λa=>((bR 8).filter λb=>decide (a<b)).flatMap λb=>((bR 8).filter λc=>decide (b<c)).map λc=> #[a,b,c]
/---/def good(k:Nat)(d:Array Nat):Bool:=match d.toList with
 | []=>k==0
 | [a]=>k==1 && decide (a<8)
 | [a,b]=>k==2 && (decide (a<b) && decide (b<8))
 | [a,b,c]=>k==3 && (decide (a<b) && (decide (b<c) && decide (c<8)))
 | _=>ak
def lY(h:good k e=aa):k<=3/\e.size=k/\e∈ab3 k:=by
 let⟨l⟩:=e;delta good at h
 match l,h with
 | [],h=>have:k=0:=by simpa using h
         subst this;show⟨∅,B,∅⟩
 | [a],h=>erw[cn,eU,ju] at h;let⟨rfl,d⟩:=h;show⟨∅,B,a_.2 ⟨a,dR.2 d,B⟩⟩
 | [a,b],h=>erw[cn,eU,ju] at h;let⟨rfl,d,f⟩:=h;show⟨∅,B,fS.2 ⟨a,dR.2 ⋯,a_.2 ⟨b,cz.2 ⟨dR.2 f,gX d⟩,B⟩⟩⟩
 | [a,b,c],h=>erw[cn,eU,ju] at h;let⟨rfl,d,f,g⟩:=h;show⟨∅,B,fS.2 ⟨a,dR.2 ⋯,fS.2 ⟨b,cz.2 ⟨dR.2 ⋯,gX d⟩,a_.2 ⟨c,cz.2 ⟨dR.2 g,gX f⟩,B⟩⟩⟩⟩
/---/def stepOk(a:Bool)(k:Nat)(c:Array Nat)(v:Nat):Bool:=match(tb a c).freeSlot (v:Int)with
 | some (b,d)=> !d && good (k+1) ((tb a c).put b).1.place
 | none=>ak
def VW:((bR 3).all λk=>(ab3 k).all λa=>(bR 20).all λv=>stepOk aa k a v && stepOk ak k a v)=true:=by decide+kernel
def ac5(k:Nat)(a:Array Nat):Bool:=GQ a 0==0 && (bR k).all λi=>GQ a (a.getD i 0+1)==i+1
def VO:((bR 4).all λk=>(ab3 k).all λa=>ac5 k a)=true:=by decide+kernel
def SY:((bR 20).all λv=>xy (v:Int)==(v:Int))=true:=by decide+kernel
def MC(a:Bool)(b:Array Nat)(j:Nat):((tb a b).put j).1=tb a ((tb a b).put j).1.place:=B
def Zj{led:Bool}{k:Nat}{b:Array Nat}{v:Nat}(n:k<3)(o:good k b=aa)(p:v<20){c:Array (Int×ae)}(q:c.size=k)(x:ae):∃d,good (k+1) d=aa/\∃i e,layNew (tb led b) c (v:Int) x=(i,tb led d,ak,e):=by
 have h:=eQ.1 (eQ.1 (eQ.1 VW k (dR.2 n)) b (lY o).2.2) v (dR.2 p);let h:stepOk led k b v=true:=by
  rw[cn] at h;cases led with
  | true=>show h.1
  | false=>show h.2
 delta stepOk at h;cases g:(tb led b).freeSlot (v:Int)with
 | none=>rw[g] at h;cases h
 | some y=>
   let⟨a,s⟩:=y;rw[g] at h;erw[cn,yY] at h;let⟨r,m⟩:=h;show⟨_,m,yL c ((tb led b).put a).2 ((v:Int),x), !((tb led b).put a).1.fits (yL c ((tb led b).put a).2 ((v:Int),x)).size,?_⟩;delta layNew;rw[g];simp only;let j:(yL c ((tb led b).put a).2 ((v:Int),x)).size=k+1:=by have:=(layNew_perm (tb led b) c (v:Int) x).length_eq;delta layNew at this;rw[g] at this;erw[fR,Array.size_push] at this;rw[this,q]
   let l:=(lY m).2.1;let f:((tb led b).put a).1.fits (yL c ((tb led b).put a).2 ((v:Int),x)).size=true:=by rw[j,MC];delta XG H_;erw[cn,eU,ju];show⟨l,?_⟩;change((tb led b).put a).1.place.size+0<=7;lk
   rw[r];delta SetTable.orStandIn;rw[ar f,<-MC]
section
def ints_map{a:Y ae}{b:Y Int}(c:eG a b):∃l:Y (Int×Tok),a=l.map (λq=>jC q.1 q.2)/\b=l.map (·.1):=by
 induction c with
 | nil=>show⟨[],B,B⟩
 | cons n t r d=>let⟨l,e,f⟩:=d;show⟨(n,t)::l,∅,∅⟩
def Ko:∀l:Y (Int×Tok),eG (l.map λq=>jC q.1 q.2) (l.map (·.1))
 | []=> .nil
 | q::l=> .cons q.1 q.2 (Ko l)
def Jb(h:eG c d)(p:b.Perm c):∃a,a.Perm d/\eG b a:=by let⟨l,rfl,rfl⟩:=ints_map h;let⟨e,f,rfl⟩:=Kb p l B;show⟨_,f.map _,Ko e⟩
def ints_app(h:eG c d)(e:eG a b):eG (c++a) (d++b):=by
 induction h with
 | nil=>show e
 | cons n t _ f=>show .cons n t f
section
variable {prog:bD} {w:bf} {A:bY} {E:ae->au->Prop} {s:au}
def S3(P:bD)(w:bf)(h:bA)(a:ab)(c:Bool)(k:Nat)(f:Y Int):Prop:=∃b g e d,h.get? a=J {cls:= .type "set",dict:=ah,data:= .set b g (tb c e),slots:= #[]}/\good k e=aa/\b.size=k/\ElemsOf (mZ P w) b.toList/\eG (b.toList.map (·.2)) d/\d.Nodup/\∀i,i∈d↔i∈f
def S3.at(x:S3 prog w h a b k c)(q:∀o,h.get? a=J o->d.get? a=J o):S3 prog w d a b k c:=let⟨e,f,g,i,j,r⟩:=x;⟨e,f,g,i,q _ j,r⟩
def sr(h:good k a=aa):(tb b a).fits k=true:=by let⟨d,c,_⟩:=lY h;delta XG H_;erw[cn,eU,ju];show⟨c,⋯⟩
def Zy(a:0<=v)(b:v<20):xy v=v:=by have:=eQ.1 SY v.toNat (dR.2 ∅);rw[eU,show((v.toNat:Nat):Int)=v by lk] at this;show this
def acA(hS:S3 prog w s.heap a c k ms)(hk:k<3)(h0:0<=v)(h1:v<20)(h:∀h' b k',k'<=k+1->jz a s.heap h'->S3 prog w h' a c k' (ms++ [v])->Q b {s with heap:=h'}):ao (aD prog w) A (setAddHashed a (.int v t) ((mZ prog w).hash v)) Q E s:=by
 let⟨l,ep,y,p,C,hg,D,o,hi,DC,H⟩:=hS;let hf:(tb c y).fits l.size=true:=by rw[D];show sr hg
 let hb:l.size<scanBound:=by rw[D];delta scanBound;lk
 have q:=intKind_is prog w v t;delta setAddHashed setAddHashedIn;show gm (ag (zp C B hf ?_));dsimp only;rw[byScan_of B hb o];simp only[↓reduceIte];delta setAddByScan;show ag ?_;show ag (sP ?_);show ag (wpAny_setScan_of q C B hf o ?_);let uf:(∃e∈l.toList,(mZ prog w).is v e.2=aa)↔v∈p:=by
  have key:∀{vs:Y ae} {p:Y Int},eG vs p->((∃x∈vs,(mZ prog w).is v x=aa)↔v∈p):=by
   ext vs p h;induction h with
   | nil=>simp
   | cons n t r ih=>
     have e1:(mZ prog w).is v (.int n t)=aa↔v=n:=by
      walk
      ·ext z;let⟨t',e⟩:=VC (show qC v (.int n t)=aa from z);cases e;rfl
      ·ext rfl;show intKind_is prog w v t
     walk
     ·cbv
     ·cbv
  rw[<-key hi];walk
  ·lk
  ·lk
 cases hr:List.findIdx? (λe=>(mZ prog w).is v e.2) l.toList with
 | some j=>dsimp only;let⟨hj,hpj,_⟩:=O_.mp hr;let hv:v∈p:=uf.1 ⟨l.toList[j],rR hj,hpj⟩;show ax (ax ?_);show h s.heap ak k ∅ (Heap.SameBut.refl a s.heap) ⟨l,ep,y,p,C,hg,D,o,hi,DC,λi=> ?_⟩;rw[H i,dc,iW];show⟨.inl,λz=>z.elim id λe=>∅⟩
 | none=>
   dsimp only;let hv:v∉p:=λz=>⋯;let⟨g,I,f,afl,hL⟩:=Zj (led:=c) (v:=v.toNat) hk hg ∅ D (.int v t);rw[show((v.toNat:Nat):Int)=v by lk] at hL;let hh:(mZ prog w).hash v=v:=Zy h0 h1;let d:=layNew_perm (tb c y) l v (.int v t);rw[hL,VJ] at d;let d:f.toList.Perm (l.toList++ [(v, .int v t)]):=d;let L:f.size=k+1:=by have:=d.length_eq;rw[fR,dA,fR,D] at this;show this
   rw[hh,hL];dsimp only;let T:ElemsOf (mZ prog w) f.toList:=by have:=(o.push q (show(jC v t).scannable=aa from B)).perm (l':=f.toList) ∅;show this
   let⟨ns',Ob,uh⟩:=Jb (ints_app hi (.cons v t .nil)) (show(f.toList.map (·.2)).Perm (l.toList.map (·.2)++ [jC v t]) by have:=d.map (λe:Int×ae=>e.2);rw[fB] at this;show this);let hgw:∀(b:Bool) {m:au} {Q':Unit->au->Prop},Q' () m->ao (aD prog w) A (match b with| true=>rule "set.scan.the-table-gave-way"| false=>pure ()) Q' E m:=λb m Q' hq=>by cases b<;>first| show ax hq| show sP hq
   show ag (hgw _ ?_);rw[ar (show(tb c g).plain=aa from B)];show ag ?_;rw[hashByValue_scannable 8 (show(jC v t).scannable=aa from B)];show ax ?_;rw[ar (show plainKind (jC v t)=aa from B)];show ag (wpAny_storeSet_of C B ?_ (by rw[L,bM];lk));let htf:(!ak && (tb c g).tooFull)=false:=by have:=(lY I).2.1;delta SetTable.tooFull H_;erw[Jw,oI,EU];change¬(g.size+0)*5≥7*3;lk
   rw[htf,aj ∅];let u:=kH (Obj.putSet f (tb c g)) C (by rw[putSet_of f (tb c g) (show _=Data.set l ep (tb c y)from B)];rfl);rw[putSet_of f (tb c g) (show _=Data.set l ep (tb c y)from B)] at u;show ax (ax ?_);show h _ aa (k+1) (br _) (mJ s.heap a (Obj.putSet f (tb c g))) ⟨f,ep+1,g,ns',u,I,L,T,uh,?_,λi=> ?_⟩
   ·lk
   ·lk
end
end
section
section
variable {prog:bD} {w:bf} {A:bY} {R:tW->au->Prop} {I:ab} {fp wr:Y ab} {G:Array CH->Array CH->Prop} {n:Nat} {P:Nat->ae->Prop} {St:Nat->au->Prop}
def Ul(W:WalksS prog w A.in1 I fp wr G n P St)(S:ab)(p:S∉fp)(f:Bool)(a:Nat->Int)(q:∀i v,P i v->∃t,v= .int (a i) t)(hn:n<=3)(hr:∀i,i<n->0<=a i/\a i<20):
 ∀(k i:Nat) (s:au),n-i=k->i<=n->St i s->(∃c,c<=i/\S3 prog w s.heap S f c ((bR i).map a))->
  (∀d,Moved (S::wr) G s d->(∃c,c<=n/\S3 prog w d.heap S f c ((bR n).map a))->R (.ok (.ret .none)) d)->iP (aD prog w) A (.builtin "set.update.loop" ⟨[.ref S, .ref I], []⟩) R s:=by
 let r:S∉wr:=λh=>p (W.sub _ h);let j:∀b∈wr,b∈S::wr:=λb D=>iA _ D;ext k;induction k with
 | zero=>ext i s hk hi l m E;let H:i=n:=⋯;subst H;show gW OB ?_;rw[ic DP _];change ao _ A.in1 (dE (.ref I)>>=_) _ _ s;show ag (W.done s _ _ l λd u=> ?_);change ao _ A.in1 (ret ft) _ _ d;let⟨c,hc,m⟩:=m;show ax (E d (u.mono j) ⟨c,hc,m.at λo e=>u.heap S o r e⟩)
 | succ k ih=>
   ext i s hk hi l m E;let g:i<n:=⋯;let⟨c,hc,m⟩:=m;show gW OB ?_;rw[ic DP _];change ao _ A.in1 (dE (.ref I)>>=_) _ _ s;show ag (W.item i s _ _ g l λv d hP x u=> ?_);let⟨t,rfl⟩:=q i v hP;let L:S3 prog w d.heap S f c ((bR i).map a):=m.at λo e=>u.heap S o r e;change ao _ A.in1 (fW [jC (a i) t] (setAdd S (.int (a i) t))>>=_) _ _ d;show ag (gm ?_);delta setAdd;show gm ?_;show ag ((mZ prog w).pyHash (intKind_is _ _ _ _) ?_);show acA L ⋯ (hr i g).1 (hr i g).2 λh' b c' xR y Q=> ?_;let T:S3 prog w h' S f c' ((bR (i+1)).map a):=by rw[zH,fB];show Q
   show ax ⟨gn DP _,ih (i+1) _ ⋯ g (W.frame _ d _ _ x (vL _) λb D o e=> ?_) ⟨c',⋯,T⟩ λt_ z C=> ?_⟩
   ·rw[y.2 b (λh:b=S=>p ∅)];show e
   ·show E t_ (Moved.trans W.gtrans ((u.mono j).then_heap (vL _) λb o D e=> ?_) z) C;rw[y.2 b (λh:b=S=>D ∅)];show e
end
section
variable {prog:bD} {w:bf} {A:bY} {E:ae->au->Prop} {s:au}
def We(a:ae)(h:Q₁ (.ref ↥s) {s with heap:=s.heap.push {cls:= .type "set",dict:=ah,data:= .set #[] 0 (.fresh 0 0 (!w.params.followText "set-order"))}}):
 iP (aD prog w) A (.call (.builtin "set.__new__") ⟨[.type "set",a], []⟩) (wants Q₁ E) s:=by
 show codeAny_of_tree ?_;change ao _ A.in1 (do checkBuiltinCall "set.__new__" ⟨[.type "set",a], []⟩;again (.builtin "set.__new__" ⟨[.type "set",a], []⟩)) _ _ s;show ag (nj (F.newCall_set_1 a) (ax ⟨gn F.plain_set_new _,gW F.entry_set_new ?_⟩));rw[ic F.plain_set_new _];delta fw.«set.__new__» aeL;let b:=sub_set_self;let⟨c,g,d,e,os⟩:=s;dsimp only;wp_walk;show uW (ax ?_);dsimp only;erw[newObj];show ag (wpAny_alloc (ax ?_));show ax h
def Vj(hh:A.handled=ah)(hl:s.heap.IsList l a)(hi:eG a.toList k)(h3:a.size<=3)(hr:∀x∈k,0<=x/\x<20)(h:∀(j:bA) (tk c:Nat),S3 prog w j ↥s (!w.params.followText "set-order") c k->(∀b o,b<↥s->s.heap.get? b=J o->j.get? b=J o)->Q (.ref ↥s) {s with heap:=j,toks:=tk}):
 ao (aD prog w) A (call (.type "set") [.ref l]) Q E s:=by
 generalize afh:(!w.params.followText "set-order")=d at h;let⟨c,tl,aff⟩:=F.called_set.mro;let aeQ:=F.called_set.made;let aeX:=F.called_set.sub;show Cp (codeAny_of_tree ?_);change ao _ _ (callAny (.type "set") _) _ _ _;show ax ⟨Code.quiet_builtin _ (by decide+kernel),gW F.entry_type_call ?_⟩;rw[Around.under_plain (weight_type_call_type "set" [.ref l] []) B];let h1:=F.called_set.notType;let h2:=F.called_set.canCreate;let hct:=F.typeCall_set_1 (.ref l)
 repeat (any_goals (first| assumption| wp_step))
 show sA (We (.ref l) (E:=E) (Q₁:=λz n=>z= .ref ↥s/\n={s with heap:=s.heap.push {cls:= .type "set",dict:=ah,data:= .set #[] 0 (.fresh 0 0 d)}}) ∅) λr n q=> ?_;cases r with
 | error e=>show q
 | ok fl=>
   cases fl with
   | ret z=>
     let⟨rfl,rfl⟩:=q;let hS:(s.heap.push {cls:= .type "set",dict:=ah,data:= .set #[] 0 (.fresh 0 0 d)}).get? ↥s=J {cls:= .type "set",dict:=ah,data:= .set #[] 0 (.fresh 0 0 d)}:=cg _ B;let hT:Jt {s with heap:=s.heap.push {cls:= .type "set",dict:=ah,data:= .set #[] 0 (.fresh 0 0 d)}} (.ref ↥s) "set":=⟨_,hS,B⟩;let hli:=F.called_set.init.lookup;let hbi:=F.called_set.init.bind (.ref ↥s)
     repeat (any_goals (first| assumption| wp_step))
     show sA (ZY (R:=wants (λr p=>r= .none/\∃j tk c,p={s with heap:=j,toks:=tk}/\S3 prog w j ↥s d c k/\(∀b o,b<↥s->s.heap.get? b=J o->j.get? b=J o)) E) F.called_set.init.plain F.entry_set_init (check_set_init_1 hT ?_)) λC p f=> ?_
     ·let⟨ol,D,H,nl,I⟩:=hl;let⟨aeT,u,aeP,m⟩:=ol;simp only at H I;subst H;subst I;let L:(s.heap.push {cls:= .type "set",dict:=ah,data:= .set #[] 0 (.fresh 0 0 d)}).get? l=J {cls:= .type "list",dict:=u,data:= .seq a nl,slots:=m}:=bQ _ D;let aeY:=F.sub_list_set;let aeZ:=F.sub_list_frozenset;let ek:(sD "list"==sD "dict")=false:=∅;let T:(s.heap.push {cls:= .type "set",dict:=ah,data:= .set #[] 0 (.fresh 0 0 d)}).IsList l a:=⟨_,L,B,nl,B⟩;clear h2;delta fw.«set.__init__» noKeywords aeI;generalize hPI:pyIter=n6
      wp_walk
      subst hPI;show oA T ?_;show ag (wpAny_runValue ?_);let Oe:l<↥s:=bF D;let acn:l≠(s.heap.push {cls:= .type "set",dict:=ah,data:= .set #[] 0 (.fresh 0 0 d)}).objs.size:=by rw[fC];show cK (y_ Oe)
      let hSf: ↥s∉ [(s.heap.push {cls:= .type "set",dict:=ah,data:= .set #[] 0 (.fresh 0 0 d)}).objs.size,l]:=by rw[fC];erw[cp,iW,GS,or_false,not_or];show⟨cK (uO _),j_ Oe⟩
      let hlen:a.size=⇑k:=by have:=hi.length;rw[fR] at this;show this
      have CN:∀(i:Nat) (v:ae),a[i]? =J v->∃t,v= .int ((λi=>k.getD i 0) i) t:=λi v hv=>HY hi i v (by rw[rH];show hv);let acu:(bR a.size).map (λi=>k.getD i 0)=k:=by
       rw[hlen];apply ox;ext i;rw[cP];cases hh:i<⇑k
       ·lk
       ·lk
      show Ul (A:=A.in1.in1) ((sC ⋯ _ l acn a).toS) ↥s hSf d (λi=>k.getD i 0) CN h3 (λi hi2=>hr _ ?_) (a.size-0) 0 _ ⋯ (eT _) ⟨⟨_,cg _ B,B,B⟩,(T.push _)⟩ ⟨0,eT _, #[],0, #[], [],?hS0,B,B,(λe he=>nomatch he), .nil,zN,λi=>⋯⟩ ?hR
      ·lk
      case hS0=>show bQ _ hS
      case hR=>
       ext s' hm g;let⟨c,_,g⟩:=g;rw[acu] at g;let⟨j,g',d',tk',os'⟩:=s';let eg:g'=s.gens:=hm.gens;let ed:d'=s.drawn:=hm.drawn;let eo:os'=s.os:=hm.os;subst eg;subst ed;subst eo;change ao _ _ _ _ _ _;show ax ?_;change ao _ _ (ret ft) _ _ _;show ax ⟨B,j,tk',c,B,g,λb o hb e=> ?_⟩;let hb1:b≠ ↥s:=cK hb;let DK:b≠(s.heap.push {cls:= .type "set",dict:=ah,data:= .set #[] 0 (.fresh 0 0 d)}).objs.size:=by rw[fC];show cK (y_ hb)
       show hm.heap b o ⋯ (bQ _ (bQ _ e))
     ·cases C with
      | error e=>show f
      | ok y=>
        cases y with
        | ret r=>
          let⟨rfl,j,tk,c,rfl,g,oe⟩:=f
          repeat (any_goals (first| assumption| wp_step))
          show h _ _ c g oe
        | _=>show f.elim
   | _=>show q.elim
end
end
section
def qI:Slot "set_iterator" "__next__" "set_iterator.__next__":= .of (owner:="set_iterator") (n:="__next__") (by rw[typeLookup_type,XW];kernel_rfl) (by decide+kernel) (by decide+kernel) (by decide+kernel) ∅ (by rw[La];kernel_rfl)
def Iw:xq table "set_iterator.__next__"=J fw.«set_iterator.__next__»:=entryFor_of_tree (by kernel_rfl)
def Iu:Manifest.owners.lookup (String.ofList ['r','o','t','a','r','e','t','i','_','t','e','s'].reverse)=J Manifest.sig_set_iterator:=by kernel_rfl
def JN(a:ae):nW "set_iterator.__next__" ⟨[a], []⟩:=by delta nW;rw[signature?_of (id:="set_iterator.__next__") (n:= ['_','_','t','x','e','n','_','_']) (by kernel_rfl) Iu];kernel_rfl
def Wc:xq table "set.__iter__"=J fw.«frozenset.__iter__»:=entryFor_alias (id':="frozenset.__iter__") (by rw[fastTable_eq_tree];kernel_rfl) B (by decide+kernel) (by rw[fastTable_eq_tree];kernel_rfl)
def HF:∀{l:Y b} {i:Nat} (h:i<⇑l),(l[i]::l.eraseIdx i).Perm l
 | a::l,0,_=>uR _
 | a::l,i+1,h=>by rw[cX] at h;rw[List.getElem_cons_succ,List.eraseIdx_cons_succ];show(List.Perm.swap a _ _).trans ((HF ∅).cons a)
def Uu(next:Nat->Nat)(d:Array f):(pickOrder next d).toList.Perm d.toList:=by
 have e:∀(a k:Nat) (left:Y f) (b:Array f),⇑left=a->(pickOrder.go next a k left b).toList.Perm (b.toList++left):=by
  ext a;induction a with
  | zero=>ext k left b h;rw[Ez.1 h,eS];show uR _
  | succ a g=>
    ext k left b h;let c:next k % ⇑left<⇑left:=Nat.mod_lt _ ∅
    rw[pickOrder.go,cW c];show(g (k+1) _ _ ⋯).trans ?_;rw[VJ,qk];show List.Perm.append_left _<| HF c
 show(e d.size 0 d.toList #[] ∅).trans ⋯
section
variable {prog:bD} {w:bf} {A:bY} {E:ae->au->Prop} {s:au}
abbrev jh(w:bf):Bool:=w.params.followText "set-order"
def z4(w:bf)(d b:Nat)(a:Array (Int×ae)):Array (Int×ae):=if jh w=aa then pickOrder (w.params.setOrder d b) a else a
def sJ(d b:Nat)(a:Array (Int×ae)):(z4 w d b a).toList.Perm a.toList:=by
 delta z4;split
 ·show Uu _ _
 ·show uR _
/---/def slotAt(text:Bool)(a:Array Nat)(i:Nat):Nat:=if text=aa then 0 else if i=0 then 0 else a.getD (i-1) 0+1
def G8(w:bf)(h:bA)(a d:ab)(b:Array Nat)(i n c:Nat):Prop:=∃o,h.get? a=J o/\o.cls= .type "set_iterator"/\o.data= .fields #[.int (slotAt (jh w) b i:Nat) 0, .int i 0, .ref d, .int n 0, .int c 0]
abbrev nI(w:bf)(a:Array (Int×ae))(b:Nat)(c:Array Nat):Obj:={cls:= .type "set",dict:=ah,data:= .set a b (tb (!jh w) c),slots:= #[]}
def below_at(b:good k a=aa)(d:i<=k):GQ a (slotAt ak a i)=i:=by
 let⟨e,_,c⟩:=lY b;let h:=eQ.1 (eQ.1 VO k (dR.2 ∅)) a c;delta ac5 at h;rw[cn,eU] at h;delta slotAt;rw[aj ∅];cases i with
 | zero=>show h.1
 | succ i=>lk
def Iz(j:s.heap.get? d=J (nI w c l b))(g:good k b=aa)(o:c.size=k)(p:i<=k)(h:Q (((z4 w d l c)[i]?).map λe=>(e.2,slotAt (jh w) b (i+1))) s):ao (aD prog w) A (setNext d (slotAt (jh w) b i) i l) Q E s:=by
 let m:(tb (!jh w) b).fits c.size=true:=by rw[o];show sr g
 delta setNext;show ag (zp j B m ?_);dsimp only;delta setsByText;show ag (ag (uW (ax ?_)));cases f:jh w with
 | true=>let a:(aD prog w).w.params.followText "set-order"=true:=f;rw[a,ar B,aj ∅];show ag ?_;delta setWalk setsByText;show ag (zp j B m ?_);dsimp only;show ag (ag (uW (ax ?_)));rw[a,ar B];show ag (uW (ax (ax ?_)));delta z4 at h;rw[f,ar B] at h;show h
 | false=>
   let a:(aD prog w).w.params.followText "set-order"=false:=f;rw[a,aj ∅];show ag (KS (λz=>aN z ∅) λ_=>ax ?_);show ax ?_;rw[below_at g p];delta z4 at h;rw[f,aj ∅] at h;let q:=(lY g).2.1;cases r:i<k
   ·let t:i<c.size:=by cbv
    let n:i<b.size:=∅;rw[ib t] at h⊢;rw[ib n];let u:slotAt ak b (i+1)=b[i]+1:=by delta slotAt;rw[aj ∅,aj ∅];change b.getD i 0+1=_;rw[jo,ib n];rfl
    rw[u] at h;show h
   ·cbv
def G8.typeIs(x:G8 w s.heap a d e i n f):s.TypeIs (.ref a) "set_iterator":=let⟨o,b,c,_⟩:=x;⟨o,b,c⟩
def Wa(a:G8 w s.heap f d c i k j)(n:s.heap.get? d=J (nI w l j c))(p:good k c=aa)(q:l.size=k)(t:(z4 w d j l)[i]? =J e)(u:i<k)(v:d≠f)(x:∀g,G8 w g f d c (i+1) k j->jz f s.heap g->Q (J e.2) {s with heap:=g}):ao (aD prog w) A (dE (.ref f)) Q E s:=by
 let⟨o,b,y,h⟩:=id a;let z:(tb (!jh w) c).fits l.size=true:=by rw[q];show sr p
 delta dE;show ag (oM (mI a.typeIs qI (iD qI a.typeIs Iw ?_ (JN _))));delta fw.«set_iterator.__next__»;show ag (ax ?_);show ag (jW b h ?_);dsimp only;show ag (GK n B z ?_);rw[aj ∅];rw[fo,fo,fo];show ag (Iz n p q (nh u) ?_);rw[t];dsimp only[Option.map];show ag (oG b h ⋯ ?_);let r:=kH (vu (·.setIfInBounds 0 (iw (slotAt (jh w) c (i+1):Nat)))) b (yr (ou h _));let m:=ou h (·.setIfInBounds 0 (iw (slotAt (jh w) c (i+1):Nat)));show ag (oG r m ⋯ ?_);let C:=kH (vu (·.setIfInBounds 1 (iw ((i:Int)+1)))) r (yr (ou m _));show ax ⟨_,B,ax (x _ ⟨_,C,(yZ ..).trans ((yZ ..).trans y),?_⟩ ?_)⟩
 ·rw[ou m];simp[iw]
 ·show(mJ ..).trans (mJ ..)
def Yp(n:A.handled=ah)(a:G8 w s.heap h d e k k f)(i:s.heap.get? d=J (nI w c f e))(j:good k e=aa)(l:c.size=k)(p:∀g,Bs h s.heap g->Q ah {s with heap:=g}):ao (aD prog w) A (dE (.ref h)) Q E s:=by
 let⟨o,b,t,m⟩:=id a;let q:(tb (!jh w) e).fits c.size=true:=by rw[l];show sr j
 let r:(z4 w d f c)[k]? =none:=lD (by have:=(sJ (w:=w) d f c).length_eq;rw[fR,fR] at this;cbv);delta dE;show ag (oM (mI a.typeIs qI (iD qI a.typeIs Iw ?_ (JN _))));delta fw.«set_iterator.__next__»;show ag (ax ?_);show ag (jW b m ?_);dsimp only;show ag (GK i B q ?_);rw[aj ∅];rw[fo,fo,fo];show ag (Iz i j l (br _) ?_);rw[r];dsimp only[Option.map];show ag (oG b m ⋯ ?_);change ao _ _ (pH (.type "StopIteration") []>>=_) _ _ _;show ag ?_;erw[pH,CG];show ag (fc ?_ (by size_fits));show ag (nj (by first| rfl| (erw[vt];rfl)) ?_);show fc ?_ (by size_fits);erw[CD];show ag (AS ?_);rw[show A.in1.handled=ah from n];show ag (ax (BV ?_));show ag (uV ⟨_,cg _ B,B⟩ AM ?_);show ax (p _ (((mJ ..).extBut.push _).push _))
def Yq(a:s.heap.get? d=J (nI w c h e))(i:good k e=aa)(f:c.size=k)(j:Q (.ref ↥s) {s with heap:=s.heap.push {cls:= .type "set_iterator",data:= .fields #[.int 0 0, .int 0 0, .ref d, .int k 0, .int h 0]}}):ao (aD prog w) A (pyIter (.ref d)) Q E s:=by
 let g:s.TypeIs (.ref d) "set":=⟨_,a,B⟩;let b:(tb (!jh w) e).fits c.size=true:=by rw[f];show sr i
 show uN g F.slot_set_iter (iD F.slot_set_iter g Wc ?_ (F.args_set_iter_1 _));let l:(aeJ "__iter__" ⟨[.ref d], []⟩:Sem ab)=pure d:=B;delta fw.«frozenset.__iter__»;show ag (nj l ?_);delta aeK;show ag (ag (GK a B b (ax ?_)));delta setDrawn setsByText;show ag (ag (zp a B b ?_));dsimp only;show ag (ag (uW (ax (ax ?_))));rw[aj (by change¬((!_ && (!aa && _))=aa);simp)];show ag (ax ?_);show ag (wpAny_setEpoch_of a B b ?_);delta newFields;show ag (fc (ax ⟨_,B,"set_iterator",_,⟨_,cg _ B,B⟩,qI.lookup,?_⟩));rw[f];show j
end
end
section
def JO:Slot "set_iterator" "__iter__" "set_iterator.__iter__":= .of (owner:="set_iterator") (n:="__iter__") (by rw[typeLookup_type,XW];kernel_rfl) (by decide+kernel) (by decide+kernel) (by decide+kernel) ∅ (by rw[La];kernel_rfl)
def Uh:xq table "set_iterator.__iter__"=J fw.«dict_keyiterator.__iter__»:=entryFor_alias (id':="dict_keyiterator.__iter__") (by rw[fastTable_eq_tree];kernel_rfl) B (by decide+kernel) (by rw[fastTable_eq_tree];kernel_rfl)
def Wb(a:ae):nW "set_iterator.__iter__" ⟨[a], []⟩:=by delta nW;rw[signature?_of (id:="set_iterator.__iter__") (n:= ['_','_','r','e','t','i','_','_']) (by kernel_rfl) Iu];kernel_rfl
section
variable {prog:bD} {w:bf} {A:bY} {E:ae->au->Prop} {s:au}
def V_(a:G8 w s.heap b d c i n e)(h:Q (.ref b) s):ao (aD prog w) A (pyIter (.ref b)) Q E s:=by show uN a.typeIs JO (iD JO a.typeIs Uh ?_ (Wb _));change ao _ _ (ret (.ref b)) _ _ s;show ax ⟨_,B,"set_iterator",_,a.typeIs,qI.lookup,h⟩
def G8.at(x:G8 w h a d b i n c)(e:∀o,h.get? a=J o->f.get? a=J o):G8 w f a d b i n c:=let⟨o,g,r⟩:=x;⟨o,e _ g,r⟩
def Uk(hh:A.handled=ah)(I d:ab)(ek:d≠I)(hg:good k pl=aa)(he:es.size=k):
 rp prog w A I [I,d] [I] k (λi v=>∃e,(z4 w d ep es)[i]? =J e/\v=e.2) (λi h=>G8 w h I d pl i k ep/\h.get? d=J (nI w es ep pl))where
 sub:=λb hb=>∅
 frame:=λ_ _ _ st hk=>⟨st.1.at λo e=>hk I ∅ o e,hk d ∅ _ st.2⟩
 item:=λi s Q E hi st hQ=>by
  let hsz:(z4 w d ep es).size=k:=by have:=(sJ (w:=w) d ep es).length_eq;rw[fR,fR] at this;cbv
  show Wa st.1 st.2 hg he (ib ∅) hi ek λg pM oa=>hQ _ g s.toks ⟨_,ib ∅,B⟩ ⟨pM,oa.extBut d _ ek st.2⟩ λb o hb e=>oa.extBut b o (λh=>hb ∅) e
 done:=λs Q E st hQ=>Yp hh st.1 st.2 hg he λg lz=>hQ g s.toks λb o hb e=>lz b o (λh=>hb ∅) e
 self:=λ_ _ _ _ st hQ=>V_ st.1 hQ
def Xc(c:s.TypeIs (.ref r) "set")(h:Q ak s):ao (aD prog w) A (OU (.ref r)) Q E s:=by
 delta OU;show ag (wpAny_specialOf c PySem.F.slot_set_len.lookup ?_);generalize b:("set.__len__":String)=d
 wp_delta;rw[show splitId d=J ("set","__len__")from by subst b;decide+kernel];subst b
 show ag (uV (T:="set") (b:=aa) c (by rw[La];kernel_rfl) ?_);show KS (λa=>aN a ⋯) (λ_=> ?_);show KS (λ_=> ?_) (λa=>aN (by decide+kernel) a);show ag (sy c (ax h))
def Yr(hg:good k pl=aa)(he:es.size=k):XI prog w "set" d d k (λi v=>∃e,(z4 w d ep es)[i]? =J e/\v=e.2) (λh=>h.get? d=J (nI w es ep pl))where
 type:=λ_ hm=>⟨_,hm,B⟩
 there:=λ_ hm=>⟨bF hm,bF hm⟩
 keep:=λ_ _ hm hk=>hk d (.inl B) _ hm
 notList:=∅
 notTuple:=∅
 hint:=λ_ _ _ _ hm hq=>Xc ⟨_,hm,B⟩ hq
 iter:=λ_ _ hh hm=>⟨_,_,(λ_ _ hq=>Yq hm hg he hq),Uk hh _ d (cK (bF hm)) hg he,⟨⟨_,cg _ B,B,by delta slotAt;split<;>rfl⟩,bQ _ hm⟩⟩
def Sy(v:A.handled=ah)(r:s.heap.get? d=J (nI w g m x))(t:good k x=aa)(y:g.size=k)(z:∀h n a p,(∀b o,s.heap.get? b=J o->h.get? b=J o)->h.get? ↥s=J {cls:= .type "list",dict:=ah,data:= .seq a p,slots:= #[]}->a.toList=(z4 w d m g).toList.map (·.2)->R (.ok (.ret (.ref ↥s))) {s with heap:=h,toks:=n}):
 iP (aD prog w) A (.builtin "proto.collect" ⟨[.ref d], []⟩) R s:=by
 let j:=bF r;show gW F.entry_proto_collect ?_;rw[ic F.plain_proto_collect _];change ao _ A.in1 (newList []>>=λl=>again (.builtin "list.__iadd__" ⟨[l, .ref d], []⟩)) _ _ s;show ag (fc ?_);show ax ⟨gn F.plain_list_iadd _,gW F.entry_list_iadd ?_⟩;rw[ic F.plain_list_iadd _];change ao _ A.in1 (Builtin.List.listExtendWith (.ref ↥s) (.ref d) (.ref ↥s)) _ _ _;let f:(s.heap.push {cls:= .type "list",data:= .seq ([]:Y ae).toArray}).get? ↥s=J {cls:= .type "list",data:= .seq ([]:Y ae).toArray}:=cg _ B;let C:(z4 w d m g).size=k:=by have:=(sJ (w:=w) d m g).length_eq;rw[fR,fR] at this;cbv
 refine PySem.W.kdl_extend (Yr t y) v (bQ _ r) ↥s (j_ j) (j_ j) (.ref ↥s) 0 f (λh n a p D q c=> ?_) (by have:=(lY t).1;rw[bM];lk);let H:a.toList=(z4 w d m g).toList.map (·.2):=by
  apply ox;ext i;rw[rH,cP,rH];cases I:i<k
  ·let u:i<a.size:=by rw[c.1];show I
   rw[ib u];let⟨e,L,Q⟩:=c.2 i _ (ib u);rw[L,Q];rfl
  ·rw[lD (by rw[c.1];cbv),lD ∅];rfl
 show z h n a p (λb o e=>D b o (cK (bF e)) (bQ _ e)) q H
def Rp(z:A.handled=ah)(C:s.heap.get? d=J (nI w j p D))(x:good k D=aa)(H:j.size=k)(I:eG (j.toList.map (·.2)) L)(h:∀(g:bA) (q:Nat) (l:ab) (c:Y ae) (e:Nat) (f:Y Int),↥s<=l->(∀b o,s.heap.get? b=J o->g.get? b=J o)->g.get? l=J (seqObj "list" c.toArray e)->eG c f->f.Perm L->f.Pairwise (·<=·)->Q (.ref l) {s with heap:=g,toks:=q}):
 ao (aD prog w) A (call (.builtin "sorted") [.ref d]) Q E s:=by
 show Calls.call_function_entry kind_sorted plain_sorted entry_sorted (args_sorted1 _) ?_;delta fw.«sorted»;show ag (ax ?_);show ag ?_;change ao _ _ (collect (.ref d)) _ _ _;delta collect;show ag (wpAny_runValue (Sy z C x H λg q a c' r m y=> ?_));change ao _ _ (load ↥s>>=_) _ _ _;show ag (wpAny_load m (ax ?_));let e2:a=((z4 w d p j).toList.map (·.2)).toArray:=⋯;let⟨T,t,n⟩:=Jb I ((sJ (w:=w) d p j).map (λe:Int×ae=>e.2));rw[<-y] at n;let u: ⇑a.toList<64:=by rw[y,aF,(sJ d p j).length_eq,fR];have:=(lY x).1;lk
 show ag (wpAny_newList ?_);let i:(g.push (seqObj "list" a.toList.toArray 0)).get? g.objs.size=J (seqObj "list" a.toList.toArray 0):=cg _ B;show ag (gm (iD slot_list_sort ⟨_,i,B⟩ entry_list_sort (list_sort_tree i n u λc f a1 a2 a3=>⟨_,B,?_⟩) (args_list_sort _)));let⟨e,hat⟩:=sortedHeap_at (vs:=a.toList) (out:=c) i;show ax ⟨_,B,h _ q g.objs.size c.toList e f (nh (bF m)) (λb o v=> ?_) ⋯ a1 (a2.trans t) a3⟩;let hb:=bF (r b o v);show sortedHeap_old (cK hb) (bF (bQ _ (r b o v)))|>.trans (bQ _ (r b o v))
end
end
section
def S6(P:bD)(w:bf)(d:ab)(a:Y Int):HO:= .ext λh=>∃c,S3 P w h d (!jh w) c a
def ae3(P:bD)(w:bf)(K:aG):Y V->Hp->VK->Prop:=λb H Q=>∃(p:ab) (a:Y Int),b= [V.ref p]/\SqL K H p (a.map V.int)/\ ⇑a<=3/\(∀x∈a,0<=x/\x<20)/\∀l,H l=ah->Q (.ref l) (upd H l (S6 P w l a))
def ad2(P:bD)(w:bf):Y V->Hp->VK->Prop:=λc H Q=>∃(d:ab) (b:Y Int),c= [V.ref d]/\H d=J (S6 P w d b)/\∀(l:ab) (a:Y Int),H l=ah->a.Pairwise (·<·)->(∀i,i∈a↔i∈b)->Q (.ref l) (upd H l (.lst (a.map V.int)))
section
variable {X:Cx} {K:aG} {P:bD} {w:bf}
def abK(t:X.K=K)(u:X.prog=P)(v:X.w=w)(x:X.calm=aa):i3 X (.type "set") (ae3 P w K):=by
 subst t u v;ext a s D H E L Q I r h;let⟨p,i,rfl,y,T,d,q⟩:=h;let⟨f,j,z,_⟩:=I.list y;rw[Vals.ko r];let l: ⇑f=⇑i:=by rw[<-j.length];simp
 show Vj (I.ok.hd x) z.isList (by simpa using j.ints) ∅ d λh' tk c m A=> ?_;show⟨.ref ↥s,upd H ↥s (S6 X.prog X.w ↥s i),I.laid (λb o e=>A b o (bF e) e) (br _) ⟨⟨c,m⟩,?_,λn h2 ⟨C,g⟩ k=>⟨C,g.at k⟩⟩,B,q _ I.fresh⟩;let⟨es,ep,pl,ms,n,_⟩:=m;show⟨_,n⟩
def aau(u:X.prog=P)(v:X.w=w)(z:X.calm=aa):i3 X (.builtin "sorted") (ad2 P w):=by
 subst u v;ext b s σ H xs us Q I r h;let⟨d,A,rfl,C,q⟩:=h;rw[Vals.ko r];let⟨⟨c,es,ep,pl,ms,D,m,n,E,o,f,p⟩,_⟩:=(show f7 X.prog X.w H s.heap d (S6 X.prog X.w d A)from I.aQ d _ C);show Rp (I.ok.hd z) D m n o λh' tk l g e a t L j a1 a2 a3=> ?_;let k:a.Pairwise (·<·):=by let T:a.Nodup:=a2.nodup_iff.2 f;show(a3.and T).imp λ(⟨x,y⟩)=>⋯
 show⟨.ref l,upd H l (.lst (a.map V.int)),I.laid L t ⟨?_,g,e,Fv a1,j⟩,B,q l a (I.aQ.fresh t) k λi=>⋯⟩;rw[aF,a2.length_eq,<-o.length,aF,fR,n,bM];have:=(lY m).1;lk
end
end
section
section
variable {X:Cx} {K:aG}
def ad4(K:aG):Y V->Hp->VK->Prop:=λe H Q=>∃(a:ab) (c:Y ab) (b:Y (Key×V)),e= [.ref a]/\SqL K H a (c.map V.ref)/\aU (λp d=>d7 K H p [c9 d.1,d.2]) c b/\∀p,H p=ah->Q (.ref p) (upd H p (.dK (z0 [] b)))
def abr(a:X.K=K)(b:X.calm=aa):i3 X (.type "dict") (ad4 K):=a▸Tj b
end
end
end L2
end
section
namespace R3
open PySem PySem.Spec PyProof.Rows L2
variable {K:aG} {M:Y Res} {U:Y En} {α β γ:Type} {Φ:Out->Prop}
section
variable {ta tb:TE}
def eI(h:N M U ta e7 c):b4 M U (O1 K ta) c:=λG H a s w l Q k=>h G H a s w l _ λv b d x r=>by cases(show v=_ from r);show⟨c,B,k b d x⟩
def lR(d:N M U ta b5 a)(e:N M U tb b5 b)(f:N M U g b5 c):N M U (P9 (i5 λi j=> .bl (decide (i<=j))) (i5 λi j=> .bl (decide (i<=j))) ta tb g) e7 (decide (a<=b) && decide (b<=c)):=Bn d e λ_=>f
def Jf(d:N M U ta b5 a)(e:N M U tb b5 b)(f:N M U g b5 c):N M U (P9 (i5 λi j=> .bl (decide (i<=j))) (i5 λi j=> .bl (decide (i<j))) ta tb g) e7 (decide (a<=b) && decide (b<c)):=Bn d e λ_=>f
def Je(d:N M U ta b5 a)(e:N M U tb b5 b)(f:N M U g b5 c):N M U (P9 (i5 λi j=> .bl (decide (i<j))) (i5 λi j=> .bl (decide (i<=j))) ta tb g) e7 (decide (a<b) && decide (b<=c)):=Bn d e λ_=>f
def Xp(o:N M U ta (l9 e) l)(r:N M U tb (l9 e) m)(t:m≠ [])(u: ⇑l+⇑m<=aV):N M U (d9 (ad5 K) ta tb) (l9 e) (l++m):=
 f_ o r λG H x y Q s w ⟨p,g,h,i,b⟩ ⟨q,c,j,f,d⟩ k=>by
  cases l with
  | nil=>cases b;show .inr ⟨p,q,c,h,j,d7.of (s _ _ i),d7.of (s _ _ f),k _ G H (To.refl s w) ⟨q,c,B,f,d⟩⟩
  | cons a l=>
    show .inl ⟨p,q,g,c,h,j,d7.of (s _ _ i),d7.of (s _ _ f),λz=> ?_,by rw[dU b,dU d];show u,λz=> ?_,λ_ z v=> ?_⟩
    ·subst z;cases b
    ·subst z;cases d;show aN B t
    ·let n:=To.new s w v (.tup (g++c));show k _ _ _ n ⟨z,_,B,bg,wY (fG (λ_ _=>e.mono n.g) b) (fG (λ_ _=>e.mono n.g) d)⟩
def ZG(i:N M U ta (eList b5) a)(j:N M U tb b5 d)(E:a= []->m=d)(n:a≠ []->m∈a/\∀y∈a,y<=m):N M U (ad8 K ta tb) b5 m:=λG H f s w l Q k=>
 i G H f s w l _ λx o q b r=>j o q f b.s b.w (l.mono b.g) _ λy g h c I=>by let⟨p,t,u⟩:=sW (K:=K) c.s ((eList b5).mono c.g r);show⟨p,a,t,u,λe=>k _ g h (b.trans c) ∅,λz v A=>k _ g h (b.trans c) ?_⟩;let⟨C,D⟩:=n (λe=>∅);change V.int z=V.int m;rw[zK (D z v) (A m C)]
def P0(a:NN0):Int×Int:=((a.1:Int),(a.2:Int))
def pairs_at(s:c5 G H){c:Y V}{l:Y NN0}(d:aU (cV.rep G) c l):∃b:Y (ab×(Int×Int)),c=b.map (λq=>V.ref q.1)/\b.map (·.2)=l.map P0/\∀q∈b,G q.1=J (.tup [.int q.2.1, .int q.2.2]):=by
 induction d with
 | nil=>show⟨[],B,B,λ_ h=>nomatch h⟩
 | @cons v a _ _ r t e=>
   let⟨b,m,n,f⟩:=e;let⟨p,x,y,o,g,i,j⟩:=r;show⟨(p,P0 a)::b,∅,∅,λq k=> ?_⟩;obtain z| z:=cp.1 k
   ·subst z;rw[g,show x=_ from i,show y=_ from j];rfl
   ·show f q z
def WX(h:lexLe a b)(c:lexLe b a):a=b:=by delta lexLe at h c;show tm ⋯ ⋯
def yE(c:∀a b,d a b->d b a->a=b):∀{l m:Y β},l.Perm m->l.Pairwise d->m.Pairwise d->l=m
 | [],m,h,_,_=>(List.nil_perm.1 h).symm
 | a::l, [],h,_,_=>by have:=h.length_eq;simp at this
 | a::l,b::m,h,f,g=>by
   rw[gu] at f g;let e:a=b:=by
    let i:a∈b::m:=h.mem_iff.1 ∅;let j:b∈a::l:=h.mem_iff.2 ∅;obtain z| z:=cp.1 i
    ·show z
    ·lk
   subst e;rw[yE c (List.Perm.cons_inv h) f.2 g.2]
def IQ:∀{b:Y (ab×(Int×Int))} {m:Y NN0},b.map (·.2)=m.map P0->(∀q∈b,G q.1=J (.tup [.int q.2.1, .int q.2.2]))->aU (cV.rep G) (b.map λq=>V.ref q.1) m
 | [], [],_,_=> .nil
 | [],_::_,h,_=>∅
 | _::_, [],h,_=>∅
 | q::b,a::m,h,k=>by
   rw[bp,bp] at h;let⟨c,d⟩:=kU h;show .cons ⟨q.1, .int q.2.1, .int q.2.2,B,k q ∅,?_,?_⟩ (IQ d λr e=>k r ∅)
   ·rw[c];rfl
   ·rw[c];rfl
def Xj(h:N M U ta (eList cV) l)(i:m.Perm l)(j:m.Pairwise λa b=>lexLe (P0 a) (P0 b)):N M U (j5 (ad1 K) (b8 ta c7)) (eList cV) m:=
 fL h λG H x Q s w ⟨p,A,C,o,r⟩ k=>by
  let⟨t,u,D,f⟩:=pairs_at s r;show⟨p,t,∅,SqL.of (by rw[<-u];show s _ _ o),λq c=>s _ _ (f q c),λz g v c d=> ?_⟩;let n:=To.new s w v (.lst (g.map λq=>V.ref q.1));let y:g.map (·.2)=m.map P0:=by show yE (λa b=>WX) ?_ (gS.2 d) (gS.2 j);show((c.map _).trans ∅).trans (i.symm.map _)
  show k _ _ _ n ⟨z,_,B,bg,?_⟩;show IQ y λq e=>n.g _ _ (f q (c.mem_iff.1 e))
def af3(P:bD)(w:bf):Enc LN0:=⟨λG v l=>∃d,v= .ref d/\G d=J (S6 P w d (l.map λ(n:Nat)=>(n:Int))),λs ⟨d,a,b⟩=>⟨d,a,s _ _ b⟩⟩
def ZE(b:N M U ta aB l)(c: ⇑l<=3)(a:∀x∈l,x<20):N M U (j5 (ae3 P w K) (b8 ta c7)) (af3 P w) l:=
 fL b λG H x Q s d r k=>by let⟨p,e,f⟩:=oU.1 r;show⟨p,l.map λ(n:Nat)=>(n:Int),by rw[e],SqL.of (by rw[<-vD];show s _ _ f),by rw[aF];show c,λy g=>by let⟨n,h,rfl⟩:=a_.1 g;have:=a n h;lk,λq i=>k _ _ _ (To.new s d i _) ⟨q,B,bg⟩⟩
def Td(f:N M U ta (af3 P w) l)(g:m.Pairwise (·<·))(h:∀x,x∈m↔x∈l):N M U (j5 (ad2 P w) (b8 ta c7)) aB m:=
 fL f λG H x Q s j ⟨p,r,o⟩ k=>⟨p,_,∅,s _ _ o,λz c q d t=>by
  have n:=To.new s j q (.lst (c.map V.int));show k _ _ _ n (oU.2 ⟨z,B,?_⟩);let e:c=m.map λ(n:Nat)=>(n:Int):=by
   show yE (λa b h u=>⋯) ?_ d (gS.2 (g.imp λh=>∅));show(Qt (d.imp λh e=>∅) ?_).2 λi=> ?_
   ·lk
   ·cbv
  rw[bg,e,<-vD]⟩
def Kq(d:c5 G H):∀{b:Y ab} {l:Y (NN0×V)},aU (λ(q:ab) (e:Y Key×V)=>H q=J (.tup (e.1.map c9))) b (l.map λq=>(k3 q.1,q.2))->(∀q∈b,∀c,H q=J (.tup c)->G q=J (.tup c))->aU (cV.rep G) (b.map V.ref) (l.map (·.1))
 | [], [],_,_=> .nil
 | [],_::_,h,_=>nomatch h
 | _::_, [],h,_=>nomatch h
 | q::b,a::l,h,k=>by
   rw[bp] at h;cases h with
   | cons r t=>show .cons ⟨q,_,_,B,k q ∅ _ r,B,B⟩ (Kq d t λx f=>k x ∅)
def To.lu(s:c5 G H)(w:Own M G H):∀(b:Y ab),(∀q∈b,∃a,H q=J (.tup a))->∃d,To M G H M d H/\∀q∈b,∀a,H q=J (.tup a)->d q=J (.tup a)
 | [],_=>⟨G,To.refl s w,λ_ h=>nomatch h⟩
 | q::b,h=>by
   let⟨n,c,l⟩:=To.lu s w b λr i=>h r ∅;let⟨a,j⟩:=h q ∅;let k:=To.tup c.s c.w j;show⟨_,c.trans k,λr i m e=> ?_⟩;obtain z| z:=cp.1 i
   ·subst z;rw[j] at e;cases e;show bg
   ·show k.g _ _ (l r z m e)
def Xl{l:Y (NN0×V)}(g:J0 M U ta (l.map λq=>(k3 q.1,q.2))):N M U (j5 Y6 (b8 ta c7)) (eList cV) (l.map (·.1)):=λG H j s w z Q k=>
 g G H j s w z _ λp m d a o=>⟨p,_,B,o m d (To.refl a.s a.w),λq c t f=>by
  let u:∀r∈c,∃v,d r=J (.tup v):=λr x=>by let⟨i,y,e⟩:=rK.1 x;let⟨C,_,h⟩:=nA f (i:=i) (a:=r) (by rw[cW y,e]);show⟨_,h⟩
  let⟨D,b,A⟩:=To.lu a.s a.w c u;let n:=To.new b.s b.w t (.lst (c.map V.ref));show k _ _ _ ((a.trans b).trans n) ⟨q,_,B,bg,fG (λ_ _=>cV.mono n.g) (Kq b.s f A)⟩⟩
def Vd{c:Y V}{l:Y (NN0×Int)}(e:aU ((h8 cV b5).rep G) c l):∃a:Y ab,c=a.map V.ref/\aU (λ(p:ab) (d:Y Key×V)=>∃q,G p=J (.tup [.ref q,d.2])/\G q=J (.tup (d.1.map c9))) a (l.map λq=>(k3 q.1,V.int q.2)):=by
 induction e with
 | nil=>show⟨[],B, .nil⟩
 | cons r t f=>let⟨a,n,g⟩:=f;let⟨p,x,y,o,h,i,j⟩:=r;let⟨b,k,m⟩:=qJ i;show⟨p::a,∅, .cons ⟨b,by rw[h,k,show y=_ from j],m⟩ g⟩
def Xm(c:N M U ta (eList (h8 cV b5)) l):N M U (j5 (ad3 K) (b8 ta c7)) W7 (F4 [] (l.map λq=>(k3 q.1,V.int q.2))):=
 fL c λG H x Q s w ⟨p,j,m,d,e⟩ k=>by let⟨f,g,h⟩:=Vd e;show⟨p,f,_,∅,SqL.of (by rw[<-g];show s _ _ d),fG (λ_ _ (⟨q,a,b⟩)=>⟨q,s _ _ a,s _ _ b⟩) h,λq i=>k _ _ _ (To.new s w i _) ⟨q,B,bg⟩⟩
end
end R3
end
section
namespace Fs
open GarText GarPlan GarStand GarFetch
def mR:∀{l:Y d},(∀a∈l,f a=g a)->l.flatMap f=l.flatMap g
 | [],_=>rfl
 | a::l,h=>by rw[jS,jS,h a (by simp),mR λb c=>h b (by simp[c])]
abbrev Pl:=GarFetch.Place
/---/def ext(l r:LN0):LL0:=(l.filter λy=>r.all λx=>decide (x<y)).map λy=>r++ [y]
def vk:∀{l:LN0},l.Pairwise (·<·)->∀k,picks (k+1) l=(picks k l).flatMap (ext l)
 | [],_,0=>∅
 | [],_,k+1=>by simp[picks]
 | c::l,h,0=>by
   let a:=gu.1 h;let e:=vk a.2 0;let f:picks 0 l= [[]]:=by cases l<;>rfl
   change(picks 0 l).map (λr=>c::r)++picks (0+1) l=_;rw[e,f];simp[picks,ext]
 | c::l,h,k+1=>by
   let a:=gu.1 h;change(picks (k+1) l).map (λr=>c::r)++picks (k+1+1) l=((picks k l).map (λr=>c::r)++picks (k+1) l).flatMap (ext (c::l));rw[vk a.2 (k+1),jr];congr 1
   ·rw[vk a.2 k,qo,uL];apply mR;ext r b;delta ext;rw[fA,aj ⋯,bS];have:(l.filter λy=>(c::r).all λx=>decide (x<y))=l.filter λy=>r.all λx=>decide (x<y):=by apply jt;ext y g;simp[a.1 y g]
    rw[this];rfl
   ·apply mR;ext r b;let⟨i,j⟩:=nr.1 b;delta ext;rw[fA,aj];erw[eQ,ju];ext z;let⟨x,d⟩:∃x,x∈r:=by
     cases r with
     | nil=>simp at j
     | cons x r=>show⟨x,∅⟩
    have:=a.1 x (i.mem d);have:=z x d;lk
/---/def nextOf(r:LN0):Nat:=match r.getLast? with
 | none=>0
 | some x=>x+1
def L4(n:Nat)(r:LN0):LL0:=(vJ (nextOf r) (n-nextOf r)).map λy=>r++ [y]
def QI(n m:Nat):((bR n).filter λy=>decide (m<=y))=vJ m (n-m):=by
 apply s_
 ·show uB _ jQ
 ·show List.pairwise_lt_range'
 ·lk
def U_(a:r.Pairwise (·<·)):ext (bR n) r=L4 n r:=by
 delta ext L4;rw[<-QI];congr 1;apply jt;ext y _;rw[cE,eQ,cj];delta nextOf;cases e:r.getLast? with
 | none=>cbv
 | some x=>
   let⟨d,b⟩:=QY.1 e;subst b;erw[ju];rw[List.pairwise_append] at a;walk
   ·ext h;show h x ⋯
   ·ext h z c;obtain q| q:=dc.1 c
    ·have:=a.2.2 z q x ∅;lk
    ·lk
def IC(n e:Nat):rowsOf n (e+1)=(rowsOf n e).flatMap (L4 n):=by delta rowsOf;rw[vk jQ];apply mR;ext r a;show U_ (iZ.1 a).1
def IA(n:Nat):rowsOf n 0= [[]]:=by delta rowsOf;cases n<;>simp[picks]
def Bi(n:Nat)(r:LN0): ⇑(L4 n r)<=n:=by delta L4;simp
def iH{c d:Type}{f:c->Y d}{k:Nat}:∀{l:Y c},(∀a∈l,⇑(f a)<=k)-> ⇑(l.flatMap f)<= ⇑l*k
 | [],_=>⋯
 | a::l,h=>by let e:=iH (f:=f) (k:=k) (l:=l) λb g=>h b ∅;let i:=h a ∅;rw[jS,dA,cX,Nat.succ_mul];lk
def oS(n:Nat):∀e,⇑(rowsOf n e)<=n^e
 | 0=>by rw[IA];simp
 | e+1=>by rw[IC,Ld];show da (iH λr _=>Bi n r) (yz _ (oS n e))
def Ww(a:n<=20)(b:e<=3):n^e<=8000:=by let c:n^e<=20^e:=yK a e;let d:20^e<=20^3:=yy ∅ b;lk
def ni(a:n<=20)(b:e<=3): ⇑(rowsOf n e)<=8000:=da (oS n e) (Ww a b)
def x8(n c:Nat)(h:LN0):Bool:=decide (1<= ⇑h) && (decide (⇑h<=EMPTIES) && isPlace n ⇑h ⟨c,h⟩)
def oV:x8 n c h=aa↔1<= ⇑h/\ ⇑h<=3/\Ok n ⇑h ⟨c,h⟩:=by delta x8;rw[cn,cn,cj,cj,Gq];show pB
def R5(n:Nat)(h:LN0):LN0:=(bR n).filter λc=>h.contains c
def zd(n:Nat)(h:LN0):(R5 n h).Pairwise (·<·):=uB _ jQ
def Fx(a:∀c∈h,c<n)(x:Nat):x∈R5 n h↔x∈h:=by delta R5;erw[cz,dR,kG];show⟨λz=>z.2,λz=>⟨a x z,z⟩⟩
def Rq(a:∀c∈h,c<n):h=R5 n h↔h.Pairwise (·<·):=by
 walk
 ·ext e;rw[e];show zd n h
 ·ext b;show s_ b (zd n h) λx=>(Fx a x).symm
def OW(r:LN0): ⇑(aK r)+⇑(r.filter λp=>p !=0)=⇑r:=by
 have:∀(l:LN0),((bR ⇑l).filter λk=>l.getD k 0==0).length+⇑(l.filter λp=>p !=0)=⇑l:=by
  ext l;induction l with
  | nil=>rfl
  | cons a l b=>
    rw[cX,rF,fA,gx,fA];let e:(Ml ((λk=>(a::l).getD k 0==0)∘Nat.succ) (bR ⇑l))=(bR ⇑l).filter λk=>l.getD k 0==0:=by apply jt;ext k _;simp
    rw[e];cases h:a=0
    ·lk
    ·lk
 show this r
end Fs
end
section
namespace R3
open PySem PySem.Spec PyProof.Rows L2 Fs
open GarFetch (Known price priceNum moved)
open GarStand (Shift)
variable {K:aG} {M:Y Res} {U:Y En} {α β γ:Type} {Φ:Out->Prop}
def fits(a: -(2^63)<=x)(b:x<2^63):ON x=true:=by delta ON;simp;cbv
def Nq{j c:Nat}(d:0<c)(f:c<1073741824)(k:j<2^60):K7 0 (j:Int) (c:Int) ((j+c-1)/c):=by
 have e:ux 0 (j:Int) (c:Int)=(((j+c-1)/c:Nat):Int):=by
  delta ux;rw[ar ∅];cases h:j=0
  ·subst h;rw[aj ∅,jZ,rT ⋯];rfl
  ·rw[ar ⋯];have:(j+c-1)/c=(j-1)/c+1:=by rw[show j+c-1=(j-1)+c by lk,GP _ d]
   rw[this];let g:(j:Int)-0-1=((j-1:Nat):Int):=⋯;rw[g];simp
 let i:(j+c-1)/c<=j+c-1:=aai _ _;show⟨⋯,∅,?_,e⟩;delta PR;let a:(0:Int)<=(((j+c-1)/c:Nat):Int):=Int.natCast_nonneg _;let b:(((j+c-1)/c:Nat):Int)<=(j:Int)+(c:Int):=⋯;generalize (((j+c-1)/c:Nat):Int)=z at*;rw[e,fits ∅ ∅,fits ∅ ⋯,fits ∅ ⋯,fits ⋯ ⋯,ar ∅,fits ⋯ ⋯];simp
/---/def cd(n e:Nat)(s:Pl):NN0:=(s.car,(rowsOf n e).idxOf s.holes)
def d5(n e:Nat):Enc Pl:=⟨λG v s=>cV.rep G v (cd n e s),λh r=>cV.mono h r⟩
structure ri(n e:Nat)(ps:Y (Y Int))(k:Known):Prop where
 len: ⇑ps=⇑(rowsOf n e)
 row:∀i,i<⇑ps-> ⇑(ps.getD i [])=n
 at_:∀i h c,(rowsOf n e)[i]? =J h->c<n->(ps.getD i []).getD c 0=if c∈h then-1 else bq (aT n k ⟨c,h⟩)
def x9(n e:Nat):Enc Known:=⟨λG v k=>∃c,CU.rep G v c/\ri n e c k,λh ⟨c,a,b⟩=>⟨c,CU.mono h a,b⟩⟩
def iT(h:N M U t (d5 n e) q):N M U t cV (cd n e q):=h
def abJ{U:Y En}{e:Enc β}{d:Enc γ}(P:γ->Prop)(h:U[i]? =J (.im e b))(m:∀G v,e.rep G v b->∃c,P c/\d.rep G v c)(q:∀c,P c->b9 M (U.set i (.im d c)) t Φ):b9 M U t Φ:=λG H a s w l D k=>by
 let⟨v,f,n⟩:=l.get h;let⟨c,o,r⟩:=m G v n;let p:a.set i (J v)=a:=ox λk=>by
  rw[XN];cases g:i=k
  ·subst g;rw[ar B,ar (dZ.1 f).1,f]
  ·rw[aj g]
 let j:=l.set r i;rw[p] at j;show q c o G H a s w j D k
def MA{U:Y En}(h:U[i]? =J (.im (x9 n e) k))(q:∀c,ri n e c k->b9 M (U.set i (.im CU c)) t Φ):b9 M U t Φ:=
 abJ (λc=>ri n e c k) h (λG v ⟨c,a,b⟩=>⟨c,b,a⟩) q
def Yt(s:c5 G H){b:Y V}{l:Y NN0}(d:aU (cV.rep G) b l):∃a:Y ab,b=a.map V.ref/\aU (λ(p:ab) (c:Key×V)=>d7 K H p [c9 c.1,c.2]) a (c0 l):=by
 induction d with
 | nil=>show⟨[],B, .nil⟩
 | cons r t e=>let⟨a,j,f⟩:=e;let⟨p,x,y,k,g,h,i⟩:=r;show⟨p::a,∅, .cons (d7.of ?_) f⟩;rw[s _ _ g,show x=_ from h,show y=_ from i];rfl
def Xn(a:N M U b (eList cV) l):N M U (j5 (ad4 K) (b8 b c7)) W8 (z0 [] (c0 l)):=
 fL a λG H x Q s w ⟨p,i,j,c,d⟩ k=>by let⟨e,f,g⟩:=Yt (K:=K) s d;show⟨p,e,_,∅,SqL.of (by rw[<-f];show s _ _ c),g,λq h=>k _ _ _ (To.new s w h _) ⟨q,B,bg⟩⟩
def sH{M:Type} [DecidableEq M]{a:Y (M×V)}{k:M}{v:V}(h:∀q∈a,q.1≠k):putK a k v=a++ [(k,v)]:=by delta putK;rw[aj];rw[iC];ext⟨q,b,e⟩;show h q b ∅
def Kz{M:Type} [DecidableEq M]:∀(a b:Y (M×V)),((b++a).map (·.1)).Nodup->a.foldl (λb c=>putK b c.1 c.2) b=b++a
 | [],b,_=>⋯
 | q::a,b,h=>by
   rw[gU,sH,Kz a _ ∅]
   ·simp
   ·lk
def UD{l:Y NN0}(h:(l.map (·.1)).Nodup):z0 [] (c0 l)=c0 l:=by delta z0;rw[Kz _ _ ?_,uS];rw[uS];delta c0;rw[bS];have:((λ(x:Key×V)=>x.1)∘λ(q:NN0)=>((gB (q.1:Int),V.int (q.2:Int)):Key×V))=(λ(n:Nat)=>(gB (n:Int):Key))∘λq=>q.1:=B;rw[this,<-bS];show qh _ (λa b c e=>c ⋯) h
def Bv{l:Y NN0}(h:l.lookup k=J v):d2 (c0 l) (.inl (k:Int))=J (.int (v:Int)):=by
 induction l with
 | nil=>simp at h
 | cons q l a=>
   rw[kM] at h;cases e:k=q.1
   ·subst e;rw[show(q.1==q.1)=aa by simp] at h;cases bu h;show iF B
   ·rw[show(k==q.1)=ak by simpa using e] at h;change d2 ((gB (q.1:Int),V.int (q.2:Int))::c0 l) _=_;rw[ik ⋯];show a h
def Qv{l:Y NN0}(h:l.lookup k=ah):d2 (c0 l) (.inl (k:Int))=none:=by
 induction l with
 | nil=>rfl
 | cons q l a=>
   rw[kM] at h;cases e:k=q.1
   ·cbv
   ·rw[show(k==q.1)=ak by simpa using e] at h;change d2 ((gB (q.1:Int),V.int (q.2:Int))::c0 l) _=_;rw[ik ⋯];show a h
def SR{l:LN0}(b:l.Nodup)(h:l[i]? =J m):∀k,(l.zipIdx k).lookup m=J (k+i):=by
 induction l generalizing i with
 | nil=>simp at h
 | cons a l c=>
   ext k;rw[mQ,kM];cases i with
   | zero=>simp at h;subst h;simp
   | succ i=>rw[show(m==a)=ak from kI.2 λe=>(eR.1 b).1 (e▸cD (i:=i) h)];show(c (eR.1 b).2 h (k+1)).trans (congrArg _ ⋯)
def JZ(f:α->β):∀{c:Y V} {l:Y α},(∀v,∀a∈l,F v (f a)->d v a)->aU F c (l.map f)->aU d c l
 | [], [],_,_=> .nil
 | _::_, [],_,h=>nomatch h
 | [],_::_,_,h=>nomatch h
 | v::c,a::l,k,h=>by
   rw[bp] at h;cases h with
   | cons r t=>show .cons (k v a ∅ r) (JZ f (λv b e=>k v b ∅) t)
def N.lp(f:α->β)(h:N M U t (eList e) (l.map f))(q:∀G v,∀a∈l,e.rep G v (f a)->e'.rep G v a):N M U t (eList e') l:=
 h.to λG v ⟨p,b,c,d,g⟩=>⟨p,b,c,d,JZ f (q G) g⟩
def Wu(f:α->β){c:Y V}{l:Y α}(k:∀v,∀a∈l,d v a->F v (f a))(h:aU d c l):aU F c (l.map f):=by
 induction h with
 | nil=>show .nil
 | cons r _ t=>show .cons (k _ _ ∅ r) (t λv b e=>k v b ∅)
def N.CB(f:α->β)(h:N M U t (eList e') l)(q:∀G v,∀a∈l,e'.rep G v a->e.rep G v (f a)):N M U t (eList e) (l.map f):=
 h.to λG v ⟨p,b,c,d,g⟩=>⟨p,b,c,d,Wu f (q G) g⟩
def O6:Enc LN0:=⟨λ_ v h=>v= .int (d1 h:Int),λ_ h=>h⟩
def N.mask(q:N M U t O6 h):N M U t b0 (d1 h):=q
def J2(n e:Nat):LN0:=(rowsOf n e).map d1
def Gk(n e:Nat):(J2 n e).Nodup:=by let h:=mX n e;delta J2;rw[ye] at*;show gS.2<| uv (λ{a b} d f c e=>c (WV (iZ.1 d).1 (iZ.1 f).1 e)) h
def Kn(a:h∈rowsOf n e):(J2 n e)[(rowsOf n e).idxOf h]? =J (d1 h):=by delta J2;rw[cP,ke a];rfl
def U4(n e:Nat):Y (Key×V):=c0 (J2 n e).zipIdx
def MM{n e:Nat}{h:LN0}(a:h∈rowsOf n e):d2 (U4 n e) (.inl (d1 h:Int))=J (.int ((rowsOf n e).idxOf h:Nat)):=by show Bv ?_;rw[SR (Gk n e) (Kn a) 0,jZ]
def T6(a:LL0)(e:Nat):Y (Str×En):= [("cell_count", .im b0 ⇑a),("hole_count", .im b0 e),("masks", .im aB (J2 ⇑a e)),("numbers", .im W8 (U4 ⇑a e))]
def ae7(a:LL0)(e:Nat):Y (Str×En):= [("cell_count", .im b0 ⇑a),("hole_count", .im b0 e),("masks", .im aB (J2 ⇑a e)),("numbers", .im W8 (U4 ⇑a e)),("shifts", .im (eList (eList fb)) (i8 a ⇑a e))]
abbrev cB(b:ab)(a:LL0)(e:Nat):Enc Unit:=o6 b (ae7 a e)
structure dH(kN:LL0):Prop where
 aX:Net kN
 len: ⇑kN<=20
 pos:0<⇑kN
def dH.row(a:dH b)(i:Nat): ⇑(b.getD i [])<=20:=
 da (iG (oQ (a.aX.asc i)) λx c=>a.aX.lt i x c) a.len
def D5(a:LL0)(e:Nat)(h:LN0):Y (Nat×NN0):=(i9 a h).map λx=>(x.from_,x.to_,(rowsOf ⇑a e).idxOf (n0 h x))
def A6(a:LL0)(e:Nat)(h:LN0)(i:Nat):Y (Nat×NN0):=if h.contains i=aa then [] else((a.getD i []).filter λj=>h.contains j).map λj=>(i,j,(rowsOf ⇑a e).idxOf (n0 h ⟨i,j⟩))
def Ir(a:LL0)(e:Nat)(h:LN0):D5 a e h=(bR ⇑a).flatMap (A6 a e h):=by
 delta D5 i9;rw[qo];apply mR;ext i _;delta A6;cases q:h.contains i=aa
 ·rw[ar q,ar q];rfl
 ·rw[aj q,aj q,bS];rfl
def IL(a:dH b)(e:Nat)(h:LN0)(i:Nat): ⇑(A6 b e h i)<=20:=by
 delta A6;split
 ·simp
 ·rw[aF];show da (jq _ _) (a.row i)
def zU(a:dH b)(e:Nat)(h:LN0): ⇑(D5 b e h)<=400:=by rw[Ir];let c:((bR ⇑b).flatMap (A6 b e h)).length<=(bR ⇑b).length*20:=iH λi _=>IL a e h i;have:=a.len;rw[fm] at c;lk
def Rt(b:h∈rowsOf ⇑a e):(i8 a ⇑a e)[(rowsOf ⇑a e).idxOf h]? =J (D5 a e h):=by delta i8;rw[cP,ke b];rfl
def to_row{a:LL0}{h:LN0}(c:h∈rowsOf ⇑a e)(d:h.contains i=ak)(f:h.contains j=aa)(b:j∈a.getD i []):n0 h ⟨i,j⟩∈rowsOf ⇑a e:=
 vF B c (lO.2 ⟨∅,b,∅⟩)
def Zi(b:∀c∈h,c<n)(c:Nat)(a:(d1 h).testBit c=aa):c<n:=by rw[gY,cj] at a;show b c a
def qM(l:Y α)(k:Nat):cut l (J (k:Int)) ah=l.drop k:=by
 delta cut;rw[HT.wq,HT.Bc];cases h:k<= ⇑l
 ·rw[uX h,rE ⋯]
 ·rw[HX ⋯,uM,JB,rG ⋯]
def abu(l:Y α)(k:Nat):cut l ah (J (k:Int))=l.take k:=by
 delta cut;rw[HT.wq,HT.Bc,zO,vB];cases h:k<= ⇑l
 ·rw[uX h]
 ·rw[HX ⋯,fe,rE ⋯]
def BP(l:Y α)(i k:Nat):cut l (J (i:Int)) (J (k:Int))=(l.drop i).take (k-i):=by
 delta cut;rw[HT.wq,HT.wq];cases h:i<= ⇑l
 ·rw[uX h];cases a:k<= ⇑l
  ·rw[uX a]
  ·rw[HX ⋯,rE ⋯,rE ⋯]
 ·let b:l.drop (min i ⇑l)= []:=rG ⋯;let c:l.drop i= []:=rG ⋯;rw[b,c,JB,JB]
def Xu(l:Y α):cut l ah (J (-1))=l.dropLast:=by
 delta cut;rw[HT.Bc,zO,vB];let e:HT.d3 ⇑l ⇑l (J (-1))=⇑l-1:=by delta HT.d3;erw[ar (show(-1:Int)<0 by decide)];lk
 rw[e,yq]
def Ya{l:Y α}(p:α->Bool)(g:α->β):(((l.zipIdx.map λx=>(x.2,x.1)).filter λx=>p x.2).map λx=>g x.2)=(l.filter p).map g:=by
 let e:(l.zipIdx.map λx=>(x.2,x.1)).map (·.2)=l:=by rw[bS];show(by simp:l.zipIdx.map (λx=>x.1)=l)
 conv=>rhs;rw[<-e,gx,bS]
 rfl
def Yb(h:x∈(rowsOf n e).zipIdx.map λx=>(x.2,x.1)):x.2∈rowsOf n e/\(rowsOf n e).idxOf x.2=x.1:=by let h:=Zg h;show⟨cD h,oW (mX n e) h⟩
def Z1(n e:Nat):Enc (az Pl):=⟨λG v o=>match o with| none=>v= .bO| some s=>(d5 n e).rep G v s,λ{G b v a} h r=>by cases a with| none=>show r| some s=>show(d5 n e).mono h r⟩
def places_eq(n e:Nat):cy n e=(bR n).flatMap λc=>((rowsOf n e).filter λr=> !r.contains c).map λh=>(⟨c,h⟩:Pl):=by delta cy;apply mR;ext c _;delta gh;rw[qu];rfl
def RA(n e c:Nat):gh n e c=((rowsOf n e).filter λr=> !r.contains c).map λh=>(⟨c,h⟩:Pl):=by delta gh;rw[qu];rfl
def ai4(n e:Nat)(h:LN0):Enc bV:=⟨λG v x=>fb.rep G v (x.from_,x.to_,(rowsOf n e).idxOf (n0 h x)),λs r=>fb.mono s r⟩
abbrev xi(n e:Nat):Enc (Nat×Nat×Pl):=Q5 b0 b0 (d5 n e)
def T5(a:LL0)(s:Pl):Y (Nat×Nat×Pl):=(i9 a s.holes).map λx=>(x.from_,x.to_,bH s x)
end R3
end
section
namespace L2
open PySem PySem.Spec PyProof.Rows
def ac7(c:TE):TE:=λe H Q=>c e H λx b=>∃d a,x= .ref d/\b d=J (.dK a)/\∀o,Q (.ref d) (upd b d (.cx o (.dK a)))
def WE(b:b3 X e c):b3 X e (ac7 c):=by ext a s f H Q I h;show aM (b a s f H _ I h) λu p g=> ?_;let⟨x,r,i,j,d,k,l,m,q⟩:=g;subst l;let⟨n,o⟩:=i.lock m cM;show⟨.ref d,_,o,j,q n⟩
end L2
namespace R3
open PySem PySem.Spec PyProof.Rows L2 Fs
variable {K:aG} {M:Y Res} {U:Y En} {α β γ:Type} {Φ:Out->Prop}
def bitAnd_not(a b:Nat):kR (a:Int) (mV (b:Int))=((a-(a &&& b):Nat):Int):=by
 let c:¬0<=mV (b:Int):=by delta mV;lk
 let d:mV (mV (b:Int))=(b:Int):=by delta mV;lk
 rw[bitAnd_pn (by cbv) c,d];have:a &&& b<=a:=Nat.and_le_left;erw[fo];grind
def lM(j:Nat)(q:b9 (M.eraseIdx j) U t Φ):b9 M U t Φ:=λG H a s w l D k=>by let x:To M G H (M.eraseIdx j) G H:=⟨λ_ _ _ e=>e,λ_ _ e=>e,s,λ_ _ _ _ _=>B,λb c=> .inl (su c),w.erase j⟩;show q G H a x.s x.w l D λo d=>(k o d).from x
def Ub{g:TG}{tb:TS}(l:Y NN0)(hd:r8 M U td λp=>j1 p (c0 l))(W:ab->Obj->Nat->Y Res->Y En->Prop)(h0:∃q,Le q U/\∀p o,W p o 0 (M++ [o9 p o (.dK (c0 l))]) q)(hk:∀p o i c d,W p o i c d->c[⇑M]? =J (o9 p o (.dK (c0 l))))(hs:∀p o i a c d,l[i]? =J a->W p o i c d->∃C vs,r9 g (h8 b0 b0) a d C vs/\b9 c C tb (Q7 (λ_=>False) λpS mu=>∃f,Le f mu/\W p o (i+1) pS f))(he:∀p o c d,W p o ⇑l c d->Φ (.nx c d)):b9 M U (M4 (Y8 (ac7 td)) g tb) Φ:=λG H σ s w z D k=>by
 show hd G H σ s w z _ λp G0 H0 x0=> ?_;let e0:(M++ [j1 p (c0 l)])[⇑M]? =J (j1 p (c0 l)):=by simp
 show⟨p,c0 l,B,(cu x0.w e0).1,λo=> ?_⟩;let ll: ⇑(c0 l)=⇑l:=by delta c0;rw[aF]
 let xl:=To.put (r':=o9 p o (.dK (c0 l))) x0.s x0.w e0 (λ_ h=>h) (λb u n e=>by rw[aS n];show e) (λb hb=>⟨.cx o (.dK (c0 l)),by rw[show b=p from hb];show bg,by ext _ h;cases h⟩) bg;let L:(M++ [j1 p (c0 l)]).set ⇑M (o9 p o (.dK (c0 l)))=M++ [o9 p o (.dK (c0 l))]:=by simp
 rw[L] at xl;let rq:=x0.trans xl;let⟨q,ua,w0⟩:=h0;show⟨p,o,c0 l,B,bg,λi m r H1=>m=⇑l-i/\i<= ⇑l/\∃c d G1,W p o i c d/\To M G H c G1 H1/\Sl G1 r d,⟨⇑l,by simp,eT _,_,q,G0,w0 p o,rq,ua.sl (z.mono rq.g)⟩,?_⟩;ext i m r H1 ⟨rfl,t,c,d,G1,hw,x,l1⟩;let hz:H1 p=J (.cx o (.dK (c0 l))):=(cu x.w (hk p o i _ _ hw)).1;cases v:i<⇑l
 ·show .inr ⟨⟨hz,by rw[ll];show v⟩,λA H3=>i+1<= ⇑l/\∃j f Q,W p o (i+1) j f/\To M G H j Q H3/\Sl Q A f,λA H3 h3=>⟨⇑l-(i+1),by grind,B,h3⟩,λu H2 y=> ?_⟩;let⟨T,kk,W,hq,rfl,hT,rfl⟩:=y;let ha:l[i]? =J l[i]:=cW v;let x2:=To.new x.s x.w hT (.tup [c9 kk,W]);let ly:kk= .inl ((l[i].1:Nat):Int)/\W= .int ((l[i].2:Nat):Int):=by delta c0 at hq;rw[cP,ha] at hq;let L:=cq (bu hq);show⟨L.1.symm,L.2.symm⟩
  let⟨C,vs,hg,hb⟩:=hs p o i l[i] c d ha hw;show hg _ _ r (.ref T) x2.s (l1.mono x2.g) ⟨T,_,_,B,bg,by rw[ly.1];rfl,ly.2⟩ _ λjL l2 _=> ?_;show hb _ _ jL x2.s x2.w l2 _ λot ho=> ?_;let xx:=x.trans x2;cases ot with
  | nx j f=>let⟨E,t,I⟩:=ho;show λQ H3 A x3 l3=>⟨v,j,E,Q,I,xx.trans x3,t.sl l3⟩
  | ct j f=>let⟨E,t,I⟩:=ho;show λQ H3 A x3 l3=>⟨v,j,E,Q,I,xx.trans x3,t.sl l3⟩
  | bk j f=>show ho.elim
  | rt j e b=>show ho.elim
 ·let L:i=⇑l:=by lk
  subst L;show .inl ⟨⟨hz,by rw[ll];show br _⟩,k _ (he p o c d hw) G1 _ r x l1⟩
def YV(i:ι)(u:N M U x (o6 C F) ())(y:F.lookup m=ah)(z:l7 M U A D)(E:(a i).U= .im (o6 C F) ()::D)(I:(a i).pre)(f:(a i).M= [])(L:∀c G v,(a i).e.rep G v ((a i).b c)->∃p,v= .ref p/\(a i).kq0 c= [r p]):r8 M U (u5 C m (b7 a) [] E0 x A) r:=λG H j s w l Q k=>u G H j s w l _ λv T H1 g n=>by let⟨p,dx,fs,rfl,h2,h3⟩:=id n;show⟨p,dx,fs,B,g.s _ _ h2,h3.none y,z T H1 j g.s g.w (l.mono g.g) _ λvs G2 H2 h l2=> ?_⟩;rw[eS];show⟨i,G2,I,h.s,by rw[f];show cM,by rw[E];show .cons ((o6 C F).mono h.g n) l2,λd v o H3 t r3=> ?_⟩;let⟨q,rfl,e⟩:=L d o v r3;rw[e,f] at t;let x4:=t.frame h.w;let x5:=x4.Nu (λb hb=>(Bj (yp)).2 hb) (Kg yp);show k q o H3 ((g.trans h).trans x5)
def g7(p:ab)(f:Y ab)(e:Enc α)(i:Y (Y α)):Res:=⟨λb=>b=p\/b∈f,λG H=>H p=J (.lst (f.map V.ref))/\p∉f/\f.Nodup/\aU (λq c=>∃d,H q=J (.lst d)/\aU (e.rep G) d c) f i,
 fun{G H v w} g k ⟨n,o,s,x⟩=>⟨k p _ (.inl B) n,o,s,by
  clear n o s;have:∀{j:Y ab} {l:Y (Y α)},(∀q∈j,q∈f)->aU (λq c=>∃d,H q=J (.lst d)/\aU (e.rep G) d c) j l->aU (λq c=>∃d,w q=J (.lst d)/\aU (e.rep v) d c) j l:=by
   ext j l u h;induction h with
   | nil=>show .nil
   | cons r t y=>let⟨d,a,b⟩:=r;show .cons ⟨d,k _ _ (.inr (u _ (by simp))) a,fG (λ_ _=>e.mono g) b⟩ (y λq m=>u q (by simp[m]))
  show this (λ_ h=>h) x⟩⟩
def BD:∀{d:Y ab} {e:Y (Y α)} {F':ab->Y α->Prop} (i:Nat) {q:ab} {r:Y α},aU F d e->d[i]? =J q->F' q r->(∀a b,a∈d->a≠q->F a b->F' a b)->d.Nodup->aU F' d (e.set i r)
 | _,_,_,i,_,_, .nil,h,_,_,_=>by simp at h
 | _,_,_,0,q,r, .cons (l₁:=d) n t,h,g,k,j=>by
   simp at h;subst h;show .cons g ?_;let c:=eR.1 j;have:∀{f:Y ab} {e:Y (Y α)},(∀u∈f,u∈d)->aU _ f e->aU _ f e:=λ{f e} l h=>by
    induction h with
    | nil=>show .nil
    | cons a b p=>show .cons (k _ _ (by simp[l _ (ie ..)]) (λz=>c.1 (z▸l _ (ie ..))) a) (p λu m=>l u (by simp[m]))
   show this (λ_ h=>h) t
 | _,_,_,i+1,q,r, .cons n t,h,g,k,j=>by
   let c:=eR.1 j;let o:=by simpa using h
   show .cons (k _ _ (by simp) (λz=>c.1 (z▸cD o)) n) (BD i t o g (λa b s=>k a b (by simp[s])) c.2)
def Sm{j:Nat}{e:Enc α}{d:Y (Y α)}{a c:Nat}{b:α}(hb:N M U te e b)(ho:N M U to b6 p)(h:M[j]? =J (g7 p E e d))(hi:N M U ti b5 (a:Int))(hj:N M U tj b5 (c:Int))(ha:a<⇑d)(hc:c<⇑(d.getD a []))(q:Φ (.nx (M.set j (g7 p E e (d.set a ((d.getD a []).set c b)))) U)):b9 M U (w8 te (aa6 (d9 (E4 K) to ti) tj U1)) Φ:=λG H r s w z D k=>
 hb G H r s w z _ λu G1 H1 i r1=>ho G1 H1 r i.s i.w (z.mono i.g) _ λv G2 H2 l r2=>hi G2 H2 r l.s l.w ((z.mono i.g).mono l.g) _ λy G3 H3 m r3=>by
  cases(show v=_ from r2);cases(show y=_ from r3);let⟨⟨I,L,Q,t⟩,_⟩:=cu m.w h;let ub:=dU t;let⟨g,f,vs0,NX,_⟩:=qW t (i:=a) (b:=d.getD a []) (getD_at ha);show⟨p,_,a, .ref g,B,B,SqL.of I,fM (by rw[cP,f];rfl),hj G3 H3 r m.s m.w (((z.mono i.g).mono l.g).mono m.g) _ λy4 T H4 o r4=> ?_⟩;cases(show y4=_ from r4);let⟨⟨I,L,Q,t⟩,_⟩:=cu o.w h;let⟨qb,Dx,vs,hv,x⟩:=qW t (i:=a) (b:=d.getD a []) (getD_at ha);cases bu (f.symm.trans Dx);let xx:=((i.trans l).trans m).trans o;let A:g∈E:=cD f;let Dm:p≠g:=λz=>L (z▸A);let x5:To M T H4 (M.set j (g7 p E e (d.set a ((d.getD a []).set c b)))) T (upd H4 g (.lst (vs.set c u))):=by
   show To.put o.s o.w h (λ_ h=>h) (λb u n e=>by rw[aS (show b≠g from λz=>n (.inr (by rw[z];show A)))];show e) (λb' jM=> ?_) ⟨by rw[aS Dm];show I,L,Q,?_⟩
   ·cases C:b'=g
    ·show⟨_,by rw[C];show bg,by ext _ h;cases h⟩
    ·let⟨_,u',e',nt⟩:=(cu o.w h).2 b' jM;show⟨u',by rw[aS C];show e',nt⟩
   ·show BD a t f ⟨_,bg,wX (e.mono ((l.g.trans m.g).trans o.g) r1) c x⟩ (λa' b' _ ek ⟨xE,e1,e2⟩=>⟨xE,by rw[aS ek];show e1,e2⟩) Q
  show⟨g,vs,c,c,B,B,hv,wD (by rw[dU x];show hc),k _ q T _ r (xx.trans x5) ((z.mono xx.g).mono x5.g)⟩
def IB(x:To M G H k n p){e:Enc α}{j:Y ab}{o:Y (Y α)}(l:∀q∈j,G q=ah/\¬d8 M q)(h:aU (λq g=>∃i,H q=J (.lst i)/\aU (e.rep G) i g) j o):aU (λq g=>∃i,p q=J (.lst i)/\aU (e.rep n) i g) j o/\∀q∈j,n q=ah/\¬d8 k q:=by
 induction h with
 | nil=>show⟨.nil,λ_ h=>nomatch h⟩
 | @cons q _ _ _ r _ t=>
   let⟨i,s,u⟩:=r;let⟨a,b⟩:=t λq m=>l q (by simp[m]);let⟨c,d,f⟩:=x.rg (l q (by simp)).2 s (l q (by simp)).1;show⟨.cons ⟨i,c,fG (λ_ _=>e.mono x.g) u⟩ a,λr v=> ?_⟩;obtain z| z:=cp.1 v
   ·subst z;show⟨d,f⟩
   ·show b r z
def Yd{c:L2.St}{P Q:Hp->Prop}(h:P H):Q8 c H λb a=>if b=aa then P a else Q a:=by cbv
def Sj(hi:y8 M U wi e l)(f:α->Y β)(step:∀a,a∈l->∃E,r9 g e a (L6 U w) E w/\r8 M E te λq=>c8 q er (f a))(hz: ⇑l<aV)(q:∀p ps,Φ (.nx (M++ [g7 p ps er (l.map f)]) (U.set k0 (.im b6 p)))):b9 M U (w8 (E7 wi g Q8 te w) (p9 k0)) Φ:=λG0 H0 σ s0 w0 z DD k=>
 hi G0 H0 σ s0 w0 z _ λo G1 H1 I s D hD=>by
  have gD:=rW I.s hD;let nD:=wA I.w hD;show⟨λi m H=>m=⇑l-i/\i<= ⇑l/\∃G t,To M G1 H1 M G H/\G D=ah/\H D=J (.lst (t.map V.ref))/\ ⇑t=i/\t.Nodup/\D∉t/\(∀q∈t,G q=ah/\¬d8 M q)/\(∀q∈t,H1 q=ah)/\aU (λq v=>∃w,H q=J (.lst w)/\aU (er.rep G) w v) t ((l.take i).map f),
   ⟨⇑l,by simp,eT _,G1, [],To.ug I.s I.w hD _,gD,bg,B,by simp,by simp,by simp,by simp,by rw[kS];show .nil⟩,?_⟩
  ext i m H ⟨rfl,hi,G,t,x,gd,hd,hl,nd,dq,hq,hq1,pr⟩;cases L:i<⇑l
  ·refine .inr ⟨s.go i H (x.g.trans x.s) L,λC=>i+1<= ⇑l/\∃G t,To M G1 H1 M G C/\G D=ah/\C D=J (.lst (t.map V.ref))/\ ⇑t=i+1/\t.Nodup/\D∉t/\(∀q∈t,G q=ah/\¬d8 M q)/\(∀q∈t,H1 q=ah)/\aU (λq v=>∃w,C q=J (.lst w)/\aU (er.rep G) w v) t ((l.take (i+1)).map f),
    λC h'=>⟨⇑l-(i+1),by grind,B,h'.1,h'.2⟩,λu C y=> ?_⟩
   let⟨a,G',ha,Q,r⟩:=s.n_ M i G H u C L x.g x.s x.w y;let⟨kA,DL,_⟩:=Q.rg nD hd gd;let⟨pr',ly⟩:=IB Q hq pr;let⟨E,hg,he⟩:=step a (cD ha);let e1:l.take (i+1)=l.take i++ [a]:=take_snoc ha;show hg G' C _ u Q.s ((((z.mono I.g).mono x.g).mono Q.g).wipe w) r _ λjL l2 e2=>⟨by rw[e2,Ii],Yd (he G' C jL Q.s Q.w l2 _ λp G4 H4 x4=> ?_)⟩;let⟨DJ,um,nd4⟩:=x4.rg nD kA DL;let⟨pr4,hq4⟩:=IB x4 ly pr';let e0:(M++ [c8 p er (f a)])[⇑M]? =J (c8 p er (f a)):=by simp
   let⟨⟨vp,DA,Dz⟩,xN⟩:=cu x4.w e0;let gp:=(xN p B).1;let pf:d8 (M++ [c8 p er (f a)]) p:=qT e0 B;let pD:D≠p:=λc=>nd4 (c▸pf);let pq:p∉t:=λc=>(hq4 p c).2 pf;let T:=(x.trans Q).trans x4;let pκ:¬d8 M p:=λc=>(fD.1 x4.w).2.2 p c ⟨_,iW.2 B,B⟩;let p1:H1 p=none:=by
    obtain c| c:=T.f p pf
    ·show aN c pκ
    ·show c
   show⟨_,DJ,by rw[aF,hl];lk,L,G4,t++ [p],⟨λb u n e=> ?_,T.g,λb u e=> ?_,T.o,λb A=> .inl A,((fD.1 T.w).1).keep (λ_ _ e=>e) (λb u A e=> ?_) λb A=>(((fD.1 T.w).1).un A).1⟩,um,by rw[bg,fB];rfl,by simp[hl],?_,?_,?_,?_,?_⟩
   ·rw[aS (eE e hD)];show T.h b u n e
   ·rw[aS (eE e um)];show T.s b u e
   ·rw[aS (show b≠D from λc=>nD (by rw[<-c];show A))];show e
   ·lk
   ·cbv
   ·lk
   ·lk
   ·rw[e1,fB];let up:∀{us:Y ab} {rs:Y (Y β)},D∉us->aU (λq v=>∃w,H4 q=J (.lst w)/\aU (er.rep G4) w v) us rs->aU (λq v=>∃w,(upd H4 D (.lst (t.map V.ref++ [V.ref p]))) q=J (.lst w)/\aU (er.rep G4) w v) us rs:=λ{us rs} hu h=>by
     induction h with
     | nil=>show .nil
     | cons a b ih=>let⟨xE,c,d⟩:=a;show .cons ⟨xE,by rw[aS (λy=>hu (by rw[y];simp))];show c,d⟩ (ih λy=>hu (by simp[y]))
    show wy (up dq pr4) ⟨vp,by rw[aS (eF pD)];show DA,Dz⟩
  ·have e1:i=⇑l:=by lk
   subst e1;rw[fe] at pr;let x5:To M G1 H1 (M++ [g7 D t er (l.map f)]) G H:=by
    show⟨x.h,x.g,x.s,x.o,λb A=> ?_,fD.2 ⟨x.w,⟨⟨hd,dq,nd,pr⟩,λb A=> ?_,cM⟩,λb A y=> ?_⟩⟩
    ·obtain c| c:=fq.1 A
     ·show .inl c
     ·obtain c| c:=fg.1 c
      ·obtain c| c:=c
       ·rw[c];show .inr hD
       ·show .inr (hq1 b c)
      ·show(gA c).elim
    ·obtain c| c:=A
     ·rw[c];show⟨gd,⟨_,hd,by ext _ h;cases h⟩,gA⟩
     ·let⟨j,hj,e⟩:=rK.1 c;let⟨v,_,xE,h1,_⟩:=nA pr (i:=j) (a:=b) (by rw[cW hj,e]);show⟨(hq b c).1,⟨_,h1,by ext _ h;cases h⟩,gA⟩
    ·obtain c| c:=fg.1 y
     ·obtain c| c:=c
      ·rw[c] at A;show nD A
      ·show(hq b c).2 A
     ·show gA c
   show .inl ⟨s.stop _ H (x.g.trans x.s) (br _),k _ (q D t) G H _ (I.trans x5) (((z.mono I.g).mono x5.g).set B k0)⟩
open Classical in
def To.Lw{j:Nat}{e:Enc α}{i:Y (Y α)}(s:c5 G H)(w:Own M G H)(h:M[j]? =J (g7 p k e i)):∃l,To M G H (M.eraseIdx j) l H/\(eList (eList e)).rep l (.ref p) i:=by
 let⟨⟨L,Q,T,E⟩,hn⟩:=cu w h;show let l:Hp:=λb=>if b=p\/b∈k then H b else G b;?_;let A:c5 G l:=λb u e=>by
  change(if b=p\/b∈k then H b else G b)=_;split
  ·show s b u e
  ·show e
 show⟨l,To.xJ s w h A (λb u e=> ?_) (λb n=>aj n),p,k.map V.ref,B,?_,?_⟩
 ·let e:(if b=p\/b∈k then H b else G b)=J u:=e;split at e
  ·show e
  ·show s b u e
 ·lk
 ·have:∀{m:Y ab} {v:Y (Y α)},(∀u∈m,u∈k)->aU (λq x=>∃C,H q=J (.lst C)/\aU (e.rep G) C x) m v->aU ((eList e).rep l) (m.map V.ref) v:=λ{m v} D h=>by
   induction h with
   | nil=>show .nil
   | @cons a b _ _ r t I=>let⟨y,c,d⟩:=r;show .cons ⟨a,y,B,?_,fG (λ_ _=>e.mono A) d⟩ (I λu z=>D u (by simp[z]));change(if a=p\/a∈k then H a else G a)=_;rw[ar (.inr (D a (by simp)))];show c
  show this (λ_ h=>h) E
def GZ(h:M[j]? =J (g7 p u e a))(d:U[i]? =J (.im b6 p))(q:b9 (M.eraseIdx j) (U.set i (.im (eList (eList e)) a)) t Φ):b9 M U t Φ:=λG H b s w z D k=>by let⟨f,x,r⟩:=To.Lw s w h;let⟨v,g,l⟩:=z.get d;cases(show v=_ from l);let c:=(z.mono x.g).set r i;let m:b.set i (J (.ref p))=b:=set_same g;rw[m] at c;show q f H b x.s x.w c D λo n=>(k o n).from x
end R3
end
section
namespace Fs
open GarText GarPlan GarStand GarFetch
def RH(a:∀c∈h,c<n):d1 h<2^n:=by
 apply Nat.lt_pow_two_of_testBit;ext i b;cases e:(d1 h).testBit i with
 | false=>rfl
 | true=>rw[gY,cj] at e;show aN (a i e) ⋯
def SW{a b:Nat}(h:∀c,a.testBit c=aa->b.testBit c=aa):a<=b:=by
 have e:a &&& b=a:=by
  apply uD;ext i;rw[mS];cases q:a.testBit i with
  | false=>rfl
  | true=>rw[h i q];rfl
 rw[<-e];show aab
def QK{n:Nat}{g h:LN0}(a:∀c∈g,c<n)(b:∀c∈h,c<n):p8 g h<=C3 n h:=by apply SW;ext c d;let⟨e,f⟩:=(qt g h c).1 d;show(zb b c).2 ⟨a c e,f⟩
def RI(g f:LN0)(a:LL0)(h:LN0):j3 g f (a++ [h])=j3 g f a++if d1 h &&& d1 f=d1 f/\p8 g h≠0 then [(⇑a,p8 g h)] else []:=by
 delta j3;rw[List.zipIdx_append,List.filterMap_append];congr 1;erw[mQ,List.zipIdx_nil,lG,VG,jZ];split
 ·lk
 ·cbv
def UM(h:p∈j3 g f a):p.1<⇑a:=by let⟨q,b,_⟩:=ka.1 h;show(dZ.1 b).1
def Hv(g f:LN0)(a:LL0): ⇑(j3 g f a)<= ⇑a:=by delta j3;show da (List.length_filterMap_le _ _) ⋯
def UY(h:∀p∈l,p.1≠k):d6 l k=0:=by delta d6;rw[lookup_none.2 h];rfl
def Yg{l:Y NN0}(b:(l.map (·.1)).Nodup){p:NN0}(h:l[i]? =J p):∀q∈l.take i,q.1≠p.1:=by
 ext q c e;let⟨j,d,a⟩:=rK.1 c;rw[gw] at d;rw[List.getElem_take] at a;let n:=(dZ.1 h);let f:(l.map (·.1))[j]? =J p.1:=by rw[cP,cW ⋯,a];simp[e]
 let g:(l.map (·.1))[i]? =J p.1:=by rw[cP,h];rfl
 let⟨a1,k⟩:=dZ.1 f;let⟨a2,m⟩:=dZ.1 g;have:=(XY b).1 (k.trans m.symm)
 grind
def UL(u:LN0)(l:Y NN0)(p:NN0):less u (l++ [p])=(less u l).set p.1 ((less u l).getD p.1 0-p.2):=by delta less;rw[mM];rfl
def Pq(a:Nat->Nat)(b:Y (Y Int))(l:Y NN0)(p:NN0)(d:Int):n1 a b (l++ [p]) d=(n1 a b l d).set p.1 (u4 ((n1 a b l d).getD p.1 []) (o5 p.2 (a p.2)) d):=by delta n1;rw[mM];rfl
def Rv(b:Y Int)(a:LN0)(c:Nat)(d:Int):u4 b (a++ [c]) d=(u4 b a d).set c d:=by delta u4;rw[mM];rfl
def PY(a:Nat->Nat)(d:Int):∀(l:Y NN0) (b:Y (Y Int)),⇑(n1 a b l d)=⇑b:=by
 ext l;induction l with
 | nil=>ext b;rfl
 | cons p l c=>ext b;change ⇑(n1 a (b.set p.1 _) l d)=_;rw[c,jU]
def PX(a:Nat->Nat)(d:Int)(n:Nat):∀(l:Y NN0) (b:Y (Y Int)),(∀i,i<⇑b-> ⇑(b.getD i [])=n)->∀i,i<⇑b-> ⇑((n1 a b l d).getD i [])=n:=by
 ext l;induction l with
 | nil=>ext b h;show h
 | cons p l g=>
   ext b h i k;change ⇑((n1 a (b.set p.1 (u4 (b.getD p.1 []) (o5 p.2 (a p.2)) d)) l d).getD i [])=n;show g _ (λj c=> ?_) i ∅;rw[jU] at c;cases f:p.1<⇑b
   ·rw[yT f];split
    ·rename_i e;rw[vg];subst e;show h _ f
    ·show h j c
   ·lk
def Sh(a:Y (Y (Nat×NN0)))(l:Y NN0)(p:NN0):tasks a (l++ [p])=tasks a l++(a.getD p.1 []).map λs=>(p.2,s):=by delta tasks;rw[jr,lE]
def Hb:∀(T:Y (Nat×Nat×NN0)) (z:LN0×Y NN0),⇑(T.foldl o3 z).1=⇑z.1:=by
 ext T;induction T with
 | nil=>ext z;rfl
 | cons q T a=>
   ext z;rw[gU,a];delta o3;split
   ·rfl
   ·rw[jU]
def Yw(l:Y NN0)(k v:Nat): ⇑(putN l k v)<= ⇑l+1:=by
 delta putN;split
 ·rw[aF];cbv
 ·cbv
def Ge:∀(T:Y (Nat×Nat×NN0)) (z:LN0×Y NN0),⇑(T.foldl o3 z).2<= ⇑z.2+⇑T:=by
 ext T;induction T with
 | nil=>ext z;show br _
 | cons q T a=>
   ext z;rw[gU,cX];let b:=a (o3 z q);let c: ⇑(o3 z q).2<= ⇑z.2+1:=by
    delta o3;split
    ·cbv
    ·show Yw _ _ _
   lk
def VS(a:Net b)(d: ⇑b=n)(f:∀t,S t->Ok n e t)(g:c∈h):¬g9 b S p ⟨c,h⟩:=λz=>(Walk.ok a d f z.1).ne g
end Fs
end
section
namespace R3
open PySem PySem.Spec PyProof.Rows L2 Fs
variable {K:aG} {M:Y Res} {U:Y En} {α β γ:Type} {Φ:Out->Prop}
def Sk(i:ι)(o:N M U r (o6 C F) ())(t:F.lookup m=ah)(u:l7 M U x y)(z:(Ci i).U= .im (o6 C F) ()::y)(A:(Ci i).pre)(e:M=(Ci i).M++f)(q:∀c,Φ (.nx ((Ci i).kq0 c++f) (U.set j (.im (Ci i).e ((Ci i).b c))))):b9 M U (w8 (u5 C m (b7 Ci) [] E0 r x) (p9 j)) Φ:=λG H g s w l D k=>o G H g s w l _ λv E I a h=>by let⟨p,L,Q,rfl,T,h3⟩:=id h;show⟨p,L,Q,B,a.s _ _ T,h3.none t,u E I g a.s a.w (l.mono a.g) _ λvs G2 H2 b l2=> ?_⟩;rw[eS];subst e;show⟨i,G2,A,b.s,(fD.1 b.w).1,by rw[z];show .cons ((o6 C F).mono b.g h) l2,λd v G3 H3 x3 r3=> ?_⟩;let n:=(a.trans b).trans (x3.frame b.w);show k _ (q d) G3 H3 _ n ((l.mono n.g).set r3 j)
def Bw(j:Nat)(h:N M U t e b)(q:Φ (.rt (M.eraseIdx j) e b)):b9 M U (E3 t) Φ:=λG H a s w l D k=>h G H a s w l _ λv c d x r=>k _ q v c d (x.trans ⟨λ_ _ _ e=>e,λ_ _ e=>e,x.s,λ_ _ _ _ _=>B,λb f=> .inl (su f),x.w.erase j⟩) r
def Ym(h:b9 M U t λo=>o= .nx a ρ')(q:b9 a ρ' u Φ):b9 M U (E1 t u) Φ:=aE (h.mono λo e=>by rw[e];show q)
def Zp(l:Y NN0)(k v:Nat):c0 (l++ [(k,v)])=c0 l++ [(.inl (k:Int), .int (v:Int))]:=by delta c0;rw[fB];rfl
def abc(l:Y NN0)(k v:Nat):putK (c0 l) (.inl (k:Int)) (.int (v:Int))=c0 (putN l k v):=by
 unfold putK putN;let e:((c0 l).any λa=>decide (a.1=(gB (k:Int):Key)))=l.any λp=>p.1==k:=by
  delta c0;rw[vy];congr 1;funext p;rw[cE];erw[gk,cj,eU];walk
  ·lk
  ·ext h;rw[h]
 rw[e];split
 ·delta c0;rw[bS,bS];apply iV;ext p _;erw[gk];cases h:p.1=k
  ·cbv
  ·lk
 ·delta c0;rw[fB];rfl
def abd(l:Y NN0)(k:Nat){a:TE}{b tb:TE}(c:K9 M U b (c0 l))(d:N M U tb b0 k)(f:N M U a b0 0):N M U (P8 b tb a) b0 (d6 l k):=by
 show Xo c (aq d) f λG v=>⟨λh=> ?_,λh r=> ?_⟩
 ·cases q:l.lookup k with
  | none=>rw[Qv q] at h;cases h
  | some w=>
    rw[Bv q] at h;let e:d6 l k=w:=by delta d6;rw[q];rfl
    rw[e];show(bu h).symm
 ·cases q:l.lookup k with
  | none=>let e:d6 l k=0:=by delta d6;rw[q];rfl
          rw[e];show r
  | some w=>rw[Bv q] at h;cases h
def MV(l:Y NN0): ⇑(c0 l)=⇑l:=by delta c0;rw[aF]
def WZ(l:Y NN0):(c0 l).isEmpty=l.isEmpty:=by cases l<;>rfl
def Ss(a:dH b)(h:x∈(i8 b ⇑b e).getD j []):x.1<⇑b/\x.2.1<⇑b/\x.2.2<(rowsOf ⇑b e).length:=by
 cases d:j<(rowsOf ⇑b e).length
 ·let c:(i8 b ⇑b e).getD j []=D5 b e (rowsOf ⇑b e)[j]:=by rw[dJ];delta i8;rw[cP,cW d];rfl
  rw[c] at h;delta D5 at h;let⟨y,f,rfl⟩:=a_.1 h;let i:(rowsOf ⇑b e)[j]∈rowsOf ⇑b e:=rR d;let⟨k,g,l⟩:=lO.1 f;show⟨Net.out g,a.aX.lt _ _ g,qc (vF B i f)⟩
 ·let c:(i8 b ⇑b e).getD j []= []:=by rw[dJ,rJ (by delta i8;rw[aF];cbv)];rfl
  rw[c] at h;cases h
def He(a:dH b)(e j:Nat):((i8 b ⇑b e).getD j []).length<=400:=by
 cases d:j<(rowsOf ⇑b e).length
 ·let c:(i8 b ⇑b e).getD j []=D5 b e (rowsOf ⇑b e)[j]:=by rw[dJ];delta i8;rw[cP,cW d];rfl
  rw[c];show zU a e _
 ·let c:(i8 b ⇑b e).getD j []= []:=by rw[dJ,rJ (by delta i8;rw[aF];cbv)];rfl
  rw[c];show eT _
end R3
end
section
namespace Fs
open GarText GarPlan GarStand GarFetch
open WqgardSpec (leastOf)
def S9(n e:Nat)(s:Pl):NN0:=(s.car,(rowsOf n e).idxOf s.holes)
def A0(a b:NN0):Prop:=a.1<b.1\/(a.1=b.1/\a.2<b.2)
def Xa{c:Type} [BEq c] [LawfulBEq c]{l:Y c}(e:l.Nodup):l.Pairwise (λa b=>l.idxOf a<l.idxOf b):=by rw[QW];ext i j f g d;rw[oW e (cW f),oW e (cW g)];show d
def Rz(n e:Nat):places n e=(bR n).flatMap λc=>((rowsOf n e).filter λr=> !r.contains c).map λh=>(⟨c,h⟩:Pl):=by delta places;apply mR;ext c _;delta placesAt;rw[qu];rfl
def EZ(n e:Nat):(places n e).Pairwise (λa b=>A0 (S9 n e a) (S9 n e b)):=by
 rw[Rz];apply DY
 ·ext c _;show gS.2<| Qu ?_ ((Xa (mX n e)).filter _)
  ext a b h;show .inr ⟨B,h⟩
 ·show Qu ?_ (jQ);ext a b d x f y g;let⟨_,_,rfl⟩:=a_.1 f;let⟨_,_,rfl⟩:=a_.1 g;show .inl d
def P6(a:Nat->Nat)(g f:LN0)(b:LL0):Y NN0:=(j3 g f b).flatMap λp=>(o5 p.2 (a p.2)).map λc=>(c,p.1)
def SJ(l:∀m c,m.testBit c=aa->c<b m):x∈P6 b g f d↔∃h,d[x.2]? =J h/\(∀c∈f,c∈h)/\x.1∈g/\x.1∉h:=by
 delta P6;rw[fS];walk
 ·ext⟨p,n,o⟩;let⟨c,a,rfl⟩:=a_.1 o;let⟨h,e,i,k,j⟩:=ka.1 n;delta o5 at a;let a:=(cz.1 a).2;rw[j] at a;have:=(qt g h c).1 a;show⟨h,e,i,this.1,this.2⟩
 ·ext⟨h,e,i,k,j⟩;let a:=(qt g h x.1).2 ⟨k,j⟩;let q:p8 g h≠0:=⋯;show⟨(x.2,p8 g h),ka.2 ⟨h,e,i,q,B⟩,a_.2 ⟨x.1,?_,B⟩⟩;delta o5;show cz.2 ⟨dR.2 (l _ _ a),a⟩
def QD(i:Nat->Nat)(g f:LN0)(c:LL0):(P6 i g f c).Nodup:=by
 delta P6;let n:(j3 g f c).Nodup:=(Hw g f c).imp λh e=>∅;apply yP n
 ·ext p _;show qh _ ?_ (uB _ (rQ));ext a b j e;show j (cq e).1
 ·ext p o q r k x s t;let⟨a,_,rfl⟩:=a_.1 s;let⟨b,_,e⟩:=a_.1 t;let m:=(cq e).2;let⟨h,u,_,_,v⟩:=ka.1 o;let⟨w,d,_,_,l⟩:=ka.1 r;rw[m] at d;rw[u] at d;cases d;show k (tm m.symm (v.trans l.symm))
def UG(k:∀m c,m.testBit c=aa->c<bits m)(l:∀c∈g,c<n):(((places n e).filter (di ⟨g,f⟩)).map (S9 n e)).Perm (P6 bits g f (rowsOf n e)):=by
 show(Qt ?_ (QD bits g f _)).2 λx=> ?_
 ·have:=(EZ n e).filter (di ⟨g,f⟩);show gS.2 (this.imp λh e=> ?_);rw[e] at h;delta A0 at h;cbv
 ·rw[SJ k,a_];walk
  ·ext⟨s,o,rfl⟩;let⟨b,a⟩:=cz.1 o;let i:=gy.1 b;delta di at a;rw[cn,kG,eQ] at a;show⟨s.holes,ke (lh i),λc d=>kG.1 (a.2 c d),a.1,i.ne⟩
  ·ext⟨h,b,a,j,p⟩;let q:=cD b;show⟨⟨x.1,h⟩,cz.2 ⟨gy.2 (wW q (l _ j) p),?_⟩,?_⟩
   ·delta di;rw[cn,kG,eQ];show⟨j,λc d=>kG.2 (a c d)⟩
   ·show tm B (oW (mX n e) b)
def RG(n e:Nat)(g f:LN0):(((places n e).filter (di ⟨g,f⟩)).map (S9 n e)).Pairwise A0:=gS.2 ((EZ n e).filter _)
def Gh:∀{d:Nat} {t:Pl},g9 a S d t->∃f:Nat->Pl,∀p,p<=d->g9 a S p (f p)
 | 0,t,h=>⟨λ_=>t,λp b=>∅⟩
 | d+1,t,h=>by
   let⟨s,x,c,_,_⟩:=h.pred;let⟨f,e⟩:=Gh c;show⟨λp=>if p=d+1 then t else f p,λp b=> ?_⟩;cases q:p=d+1
   ·cbv
   ·lk
def Wt(c:Net g)(i: ⇑g=n)(j:∀t,S t->Ok n e t)(h:g9 g S d t):d<n^(e+1):=by
 let⟨f,k⟩:=Gh h;let q:((bR (d+1)).map λp=>code n (f p)).Nodup:=by show gS.2 (uv ?_ (rQ));ext a b v w l r;let m:=k a ⋯;let o:=k b ⋯;have:=code_inj (Walk.ok c i j m.1) (Walk.ok c i j o.1) r;rw[this] at m;show l (m.fn o)
 let s:=iG q λx u=>by let⟨p,y,rfl⟩:=a_.1 u;show pb (Walk.ok c i j (k p ⋯).1)
 simp at s;cbv
structure mD(kN:LL0)(e:Nat)(k:Known):Prop where
 ex:∃S:Pl->Prop,(∀t,S t->Ok ⇑kN e t)/\Told kN S ⇑kN e k
def tw(a:Net P.nears)(e:Nat)(w:Wish):mD P.nears e (pricesOf P e w):=by show⟨λt=>Ok ⇑P.nears e t/\di w t=aa,λt h=>h.1,?_⟩;let T:=told_of a (i_ P) e w;rw[<-i_ P] at T;show T
def mD.small(h:mD b e k)(a:Net b)(c: ⇑b<=20)(j:e<=3)(f:Ok ⇑b e t)(g:aT ⇑b k t=J d):d<160000:=by
 let⟨S,i,T⟩:=h.ex;let l:=Wt a B i ((oP T f).1 g);let m: ⇑b^(e+1)<=20^(e+1):=yK c _;let n:20^(e+1)<=20^4:=yy ∅ ∅
 grind
def uQ:∀{l:LN0},dS l=ah↔l= []
 | []=>⋯
 | a::l=>by delta dS;cases dS l<;>simp
def oF:∀{l:LN0} {m:Nat},dS l=J m->m∈l/\∀x∈l,m<=x
 | [],m,h=>by simp[dS] at h
 | a::l,m,h=>by
   delta dS at h;cases q:dS l with
   | none=>rw[q] at h;have:=uQ.1 q;subst this;simp at h;subst h;simp
   | some b=>
     rw[q] at h;let⟨c,d⟩:=oF q;simp at h;subst h;walk
     ·lk
     ·lk
def zx(o:az Nat):decide ((0:Int)<=bq o)=o.isSome:=by
 cases o with
 | none=>rfl
 | some d=>simp[bq]
def AB(l:Y c)(f:c->az Nat):((l.filter λx=>decide ((0:Int)<=bq (f x))).map λx=>bq (f x))=(l.filterMap f).map λ(d:Nat)=>(d:Int):=by
 induction l with
 | nil=>rfl
 | cons a l b=>
   rw[fA,lG,zx];cases q:f a with
   | none=>rw[aj ⋯];show b
   | some d=>rw[ar ∅,bp,bp,b,q];rfl
def AA(h:bq (dS l)=m):((l.map λ(d:Nat)=>(d:Int))= []->m= -1)/\((l.map λ(d:Nat)=>(d:Int))≠ []->m∈(l.map λ(d:Nat)=>(d:Int))/\∀y∈(l.map λ(d:Nat)=>(d:Int)),m<=y):=by
 subst h;cases q:dS l with
 | none=>have:=uQ.1 q;subst this;show⟨λ_=>B,λz=>aN B z⟩
 | some d=>
   let⟨a,b⟩:=oF q;show⟨λz=> ?_,λ_=>⟨a_.2 ⟨d,a,B⟩,λy c=> ?_⟩⟩
   ·rw[lF] at z;subst z;simp at a
   ·let⟨x,e,rfl⟩:=a_.1 c;have:=b x e;change(d:Int)<=(x:Int);cbv
def rZ(o:az Nat)(d:Nat):decide (bq o=(d:Int))=(o==J d):=by
 cases o with
 | none=>rw[cE];simp[bq]
 | some c=>change decide ((c:Int)=(d:Int))=(J c==J d);rw[cE,cj,eU,EW];lk
def m6(L:Y (Pl×Nat))(t:Pl):Nat:=(L.lookup t).getD 0
def A9(L:Y (Pl×Nat))(t:Pl)(v:Nat):Y (Pl×Nat):=if(L.any λp=>decide (p.1=t))=aa then L.map λp=>if p.1=t then(p.1,v)else p else L++ [(t,v)]
def Ur(h:(L.map (·.1)).Nodup)(t:Pl)(v:Nat):((A9 L t v).map (·.1)).Nodup:=by
 delta A9;split
 ·lk
 ·lk
def Wn(h:p∈A9 L t v):p∈L\/p.1=t:=by
 delta A9 at h;split at h
 ·lk
 ·lk
def Xh(h:(L.any λp=>decide (p.1=t))=ak):m6 L t=0:=by
 delta m6;induction L with
 | nil=>rfl
 | cons p L a=>lk
def Ig(F:Pl->Nat):∀{L:Y (Pl×Nat)},(L.map (·.1)).Nodup->(L.any λp=>decide (p.1=t))=aa->wsum F (L.map λp=>if p.1=t then(p.1,v)else p)+m6 L t*F t=wsum F L+v*F t
 | [],_,h=>∅
 | p::L,c,h=>by
   rw[bp,eR] at c;rw[bp,wsum,wsum];cases e:p.1=t
   ·subst e;let a:L.map (λq=>if q.1=p.1 then(q.1,v)else q)=L:=by
     conv=>rhs;rw[<-vK L]
     apply iV;ext q f;rw[aj]
     ·rfl
     ·lk
    let b:m6 (p::L) p.1=p.2:=by delta m6;rw[kM];simp
    rw[a,ar B,b];change v*F p.1+wsum F L+p.2*F p.1=_;lk
   ·let d:(L.any λp=>decide (p.1=t))=true:=by lk
    let g:=Ig F (v:=v) c.2 d;let b:m6 (p::L) t=m6 L t:=by delta m6;rw[kM,show(t==p.1)=ak by simpa using λz=>e z.symm]
    rw[aj e,b];lk
def VM(F:Pl->Nat)(a:(L.map (·.1)).Nodup)(t:Pl)(v:Nat):wsum F (A9 L t v)+m6 L t*F t=wsum F L+v*F t:=by
 delta A9;split
 ·rename_i q;show Ig F a q
 ·rename_i q;rw[uY,Xh (GJ.2 q)];simp[wsum]
def SI{a b c d:Nat}(h:(a+c) % d=(b+c) % d):a % d=b % d:=by
 let e:((a+c:Nat):Int) % (d:Int)=((b+c:Nat):Int) % (d:Int):=⋯;let i:=OM.1 e;let f:((a:Int)-(b:Int)) % (d:Int)=0:=⋯;let g:=OM.2 f
 exact_mod_cast g
def Ze(F:Pl->Nat)(a:Nat){L:Y (Pl×Nat)}(b:(L.map (·.1)).Nodup)(t:Pl)(c:Nat):wsum F (A9 L t ((m6 L t+c) % a)) % a=(wsum F L+c*F t) % a:=by
 let h:=VM F b t ((m6 L t+c) % a);let d:(wsum F (A9 L t ((m6 L t+c) % a))+m6 L t*F t) % a=(wsum F L+c*F t+m6 L t*F t) % a:=by rw[h,Bt,Nat.mul_mod,Nat.mod_mod,<-Nat.mul_mod,<-Bt];congr 1;rw[Mu];lk
 show SI d
end Fs
end
section
namespace R3
open PySem PySem.Spec PyProof.Rows L2 Fs
open GarStand (Shift)
open GarPlan (Plan)
variable {K:aG} {M:Y Res} {U:Y En} {α β γ:Type} {Φ:Out->Prop}
def Up(s:c5 G H){c:Y V}{l:Y NN0}(d:aU (cV.rep G) c l):∃b:Y ab,c=b.map V.ref/\aU (λ(q:ab) (r:Y Int)=>H q=J (.tup (r.map V.int))) b (l.map λa=> [(a.1:Int),(a.2:Int)])/\aU (λ(q:ab) (a:NN0)=>cV.rep G (.ref q) a) b l:=by
 induction d with
 | nil=>show⟨[],B, .nil, .nil⟩
 | cons r t e=>let⟨b,n,f,g⟩:=e;let h:=r;let⟨p,x,y,i,j,k,m⟩:=r;subst i;show⟨p::b,∅, .cons ?_ f, .cons h g⟩;rw[s _ _ j,show x=_ from k,show y=_ from m];rfl
def ach(a b:NN0):HT.lexLt [(a.1:Int),(a.2:Int)] [(b.1:Int),(b.2:Int)]=aa↔A0 a b:=by
 delta A0 HT.lexLt;cases c:(a.1:Int)<b.1
 ·simp[c];omega
 ·cases d:(a.1:Int)=b.1
  ·simp[HT.lexLt,d];omega
  ·simp[c,d];grind
def LR(h:N M U i (eList cV) l)(f:m∈l)(n:∀y∈l,¬A0 y m):N M U (j5 (ae4 K) (b8 i c7)) cV m:=
 fL h λG H x Q s w ⟨p,T,h1,o,t⟩ k=>by
  let⟨u,v,A,g⟩:=Up s t;show⟨p,u,_,∅,SqL.of (by rw[<-v];show s _ _ o),by rw[iE g];show EG f,A,λj q r C hr D=> ?_⟩;let⟨a,b,c⟩:=nA g C;let E:r= [(a.1:Int),(a.2:Int)]:=∅;let d:=cD b;let e:a=m:=by
   let I:=n a d;let L:¬A0 m a:=λz=>by have:=D [(m.1:Int),(m.2:Int)] (a_.2 ⟨m,f,B⟩);rw[E,(ach m a).2 z] at this;cases this
   delta A0 at I L;show tm ⋯ ⋯
  show k _ G H (To.refl s w) (e▸c)
def j6(n e:Nat)(L:Y (Pl×Nat)):Y (Y Key×V):=k7 (L.map λp=>(cd n e p.1,p.2))
def xa(h:k3 a=k3 b):a=b:=by delta k3 at h;let⟨c,d⟩:=kU h;let e:=(kU d).1;have:=vA c;have:=vA e;show tm ⋯ ⋯
def xn(b:Ok n e s)(c:Ok n e t)(h:cd n e s=cd n e t):s=t:=by let⟨d,f⟩:=cq h;let a:=ke (lh b);rw[f,ke (lh c)] at a;show Place.ext' d (bu a).symm
def Zo(b:∀p∈L,Ok n e p.1)(c:Ok n e t):((j6 n e L).any λd=>decide (d.1=k3 (cd n e t)))=L.any λp=>decide (p.1=t):=by
 delta j6 k7;rw[vy,vy,cE,iC,iC];walk
 ·ext⟨p,a,h⟩;let h:k3 (cd n e p.1)=k3 (cd n e t):=eN h;show⟨p,a,gX (xn (b p a) c (xa h))⟩
 ·lk
def LI(a:∀p∈L,Ok n e p.1)(b:Ok n e t)(v:Nat):putK (j6 n e L) (k3 (cd n e t)) (.int (v:Int))=j6 n e (A9 L t v):=by
 delta putK A9;rw[Zo a b];split
 ·delta j6 k7;rw[bS,bS,bS,bS];apply iV;ext p c;erw[gk];cases h:p.1=t
  ·cbv
  ·rw[aj (λz=>h (xn (a p c) b (xa z))),aj h]
 ·delta j6 k7;rw[fB,fB];rfl
def oY(a:Ok n e t):∀{L:Y (Pl×Nat)},(∀p∈L,Ok n e p.1)->d2 (j6 n e L) (k3 (cd n e t))=(L.lookup t).map λ(v:Nat)=>V.int (v:Int)
 | [],_=>rfl
 | p::L,b=>by
   let c:=oY a (L:=L) λq d=>b q ∅;change d2 ((k3 (cd n e p.1),V.int (p.2:Int))::j6 n e L) _=_;rw[kM];cases h:t=p.1
   ·subst h;rw[iF B,show(p.1==p.1)=aa by simp];rfl
   ·rw[ik (λz=>h (xn (b p ∅) a (xa z)).symm),show(t==p.1)=ak by simpa using h];show c
def Zn{n e:Nat}{L:Y (Pl×Nat)}(a:∀p∈L,Ok n e p.1){t:Pl}(b:Ok n e t){c tb d:TE}(f:J0 M U c (j6 n e L))(g:N M U tb (d5 n e) t)(i:N M U d b0 0):N M U (P8 c tb d) b0 (m6 L t):=by
 show KG f (iT g) i λG v=>⟨λh=> ?_,λh r=> ?_⟩
 ·rw[oY b a] at h;cases q:L.lookup t with
  | none=>rw[q] at h;cases h
  | some w=>
    rw[q] at h;let e:m6 L t=w:=by delta m6;rw[q];rfl
    rw[e];show(bu h).symm
 ·rw[oY b a] at h;cases q:L.lookup t with
  | none=>let e:m6 L t=0:=by delta m6;rw[q];rfl
          rw[e];show r
  | some w=>rw[q] at h;cases h
def BK(n e:Nat)(L:Y (Pl×Nat)): ⇑(j6 n e L)=⇑L:=by delta j6 k7;rw[aF,aF]
def WL(p:∀M,N M U q (d5 n e) t)(r:∀M,N M U z b0 v):r8 M U (ac8 q z) λd=>m4 d (j6 n e [(t,v)]):=λG H i s w l Q k d A=>by let c:=To.own s w A (m4 d []) (λb=>pB) bg;show p _ G _ i c.s c.w (l.mono c.g) _ λx j C f D=>r _ j C i f.s f.w ((l.mono c.g).mono f.g) _ λy T H2 a E=> ?_;let⟨b,rfl,g⟩:=qJ (show cV.rep j x (cd n e t)from D);cases(show y=_ from E);let m:(M++ [m4 d []])[⇑M]? =J (m4 d []):=⋯;let I:=(c.trans f).trans a;let o:=To.put (r':=m4 d (j6 n e [(t,v)])) a.s a.w m (λ_ h=>h) (λb u n e=>by rw[aS n];show e) (λb g=>⟨.dT [(k3 (cd n e t), .int (v:Int))],by rw[show b=d from g];show bg,by ext _ h;cases h⟩) bg;let L:(M++ [m4 d []]).set ⇑M (m4 d (j6 n e [(t,v)]))=M++ [m4 d (j6 n e [(t,v)])]:=⋯;rw[L] at o;show⟨b,k3 (cd n e t),B,(cu a.w m).1,a.s _ _ (a.g _ _ g),k d _ _ (I.trans o)⟩
def JL:∀(L:Y (α×Nat)),(L.map λq=>(q.2:Int)).sum=((L.map (·.2)).sum:Nat)
 | []=>rfl
 | q::L=>by rw[bp,bp,jX,jX,JL L];cbv
def ZD{j n e:Nat}{L:Y (Pl×Nat)}(h:M[j]? =J (m4 p (j6 n e L)))(c:N M U d b6 p):N M U (j5 ae2 (b8 (ac6 d) c7)) b0 (L.map (·.2)).sum:=λG H f s w l Q k=>c G H f s w l _ λv g i x r=>by
 cases(show v=_ from r);let a:i p=J (.dT (j6 n e L)):=(cu x.w h).1;show⟨p,_,B,a,λu b=> ?_⟩;let m:=To.ug x.s x.w b (P7 u p);show⟨u,p,j6 n e L,L.map λq=>(q.2:Int),B,bg,by rw[aS (eE a b)];show a,?_,k _ g _ (x.trans m) ?_⟩
 ·delta j6 k7;rw[bS,bS,bS];rfl
 ·change V.int _=V.int _;congr 1;show JL L
def D2:Enc bV:=⟨λG v x=>cV.rep G v (x.from_,x.to_),λs r=>cV.mono s r⟩
section
def Lm(h:N M U t e b)(c:∀G H,Own M G H->Own a G H)(d:∀b,d8 a b->d8 M b)(q:Φ (.rt a e b)):b9 M U (E3 t) Φ:=λG H f s w l D k=>h G H f s w l _ λv g i x r=>
 k _ q v g i (x.trans ⟨λ_ _ _ e=>e,λ_ _ e=>e,x.s,λ_ _ _ _ _=>B,λb j=> .inl (d b j),c _ _ x.w⟩) r
def Own.weak(o:Own M G H)(h:M[j]? =J r)(a:∀b,c.fp b->r.fp b)(d:c.P G H):Own (M.set j c) G H:=
 o.put h a (λ_ _ _ e=>e) (λb f=>((cu o h).2 b (a b f)).2) d
structure ku(CM:ab)(kN:LL0)(G:Hp)(ck:Y (Key×V)):Prop where
 nd:(ck.map (·.1)).Nodup
 ok:∀q∈ck,∃e,e<=3/\q.1=(gB ((e:Nat):Int):Key)/\(cB CM kN e).rep G q.2 ()
def ku.mono{c:ab}{a:LL0}{G d:Hp}{b:Y (Key×V)}(s:c5 G d)(h:ku c a G b):ku c a d b:=⟨h.nd,λq f=>by let⟨e,g,i,j⟩:=h.ok q f;show⟨e,g,i,(cB c a e).mono s j⟩⟩
def ku.len{l:ab}{c:LL0}{G:Hp}{d:Y (Key×V)}(h:ku l c G d): ⇑d<=4:=by
 let k:(d.map λq=>match q.1 with| .inl i=>i.toNat| .inr _=>0).Nodup:=by have:=h.nd;rw[ye] at this⊢;have:=gS.1 this;show gS.2 (uv (λ{a b} m n g j=>g ?_) this);let⟨s,_,f,_⟩:=h.ok a m;let⟨t,_,o,_⟩:=h.ok b n;rw[f,o] at j⊢;simp at j;rw[j]
 let f:=iG k (n:=4) λx p=>by let⟨q,r,rfl⟩:=a_.1 p;let⟨e,k,f,_⟩:=h.ok q r;rw[f];simp;cbv
 rw[aF] at f;show f
def ku.get{a:LL0}{b:Y (Key×V)}(h:ku d a G b){e:Nat}(c:d2 b (.inl (e:Int))=J v):(cB d a e).rep G v ():=by
 delta d2 at c;cases q:b.find? λf=>decide (f.1=(gB (e:Int):Key))with
 | none=>rw[q] at c;cases c
 | some p=>rw[q] at c;let g:p.2=v:=bu c;let l:=List.find?_some q;let m:p.1=(gB (e:Int):Key):=∅;let⟨j,n,o,k⟩:=h.ok p (QX q);have:e=j:=⋯;rw[<-g,this];show k
def K0(e d:ab)(a:LL0)(c:Y (Key×V)):Res:=⟨λb=>b=d,λG H=>H d=J (.dK c)/\ku e a G c,λg k ⟨f,h⟩=>⟨k d _ B f,h.mono g⟩⟩
def o8(f d:ab)(c:LL0)(S:LN0):Res:=⟨λb=>b=d,λG H=>∃a,H d=J (.dK a)/\ku f c G a/\∀e∈S,∃v,d2 a (.inl ((e:Nat):Int))=J v,λg k ⟨a,h,i,j⟩=>⟨a,k d _ B h,i.mono g,j⟩⟩
section
variable {CM dz:ab} {kN:LL0} {j:Nat} {ta tb tv:TE} {S:LN0}
def T_(c:M[j]? =J (o8 CM dz kN S))(q:∀a,b9 (M.set j (K0 CM dz kN a)) U t Φ):b9 M U t Φ:=λG H d s w l D k=>by let⟨⟨a,f,g,n⟩,_⟩:=cu w c;let x:To M G H (M.set j (K0 CM dz kN a)) G H:=⟨λ_ _ _ e=>e,λ_ _ e=>e,s,λ_ _ _ _ _=>B,λb i=> .inl (sX (r':=K0 CM dz kN a) c (λ_ h=>h) i),w.weak c (λ_ h=>h) ⟨f,g⟩⟩;show q a G H d x.s x.w l D λo m=>(k o m).from x
def WR(b:M[j]? =J (K0 CM dz kN a))(G H:Hp)(w:Own M G H):Own (M.set j (o8 CM dz kN [])) G H:=by let⟨⟨c,d⟩,_⟩:=cu w b;show w.weak b (λ_ h=>h) ⟨a,c,d,λ_ h=>nomatch h⟩
def Zb(b:M[j]? =J (o8 CM dz kN S))(G H:Hp)(w:Own M G H):Own (M.set j (o8 CM dz kN [])) G H:=by let⟨⟨a,c,d,_⟩,_⟩:=cu w b;show w.weak b (λ_ h=>h) ⟨a,c,d,λ_ h=>nomatch h⟩
def abT(c:M[j]? =J (K0 CM dz kN a))(b:ab)(d:d8 (M.set j (o8 CM dz kN [])) b):d8 M b:=sX (r:=K0 CM dz kN a) (r':=o8 CM dz kN []) c (λ_ h=>h) d
def abS(a:M[j]? =J (o8 CM dz kN S))(b:ab)(c:d8 (M.set j (o8 CM dz kN [])) b):d8 M b:=sX (r:=o8 CM dz kN S) (r':=o8 CM dz kN []) a (λ_ h=>h) c
def MO(b:M[j]? =J (K0 CM dz kN a))(c:N M U ta b6 dz):K9 M U ta a:=λG H d s w l Q k=>c G H d s w l _ λv e f x r=>by rw[show v=_ from r];show k dz e f x λh i g=>(cu g.w b).1.1
def Va(g:M[j]? =J (K0 CM dz kN b))(h:N M U ta b6 dz)(i:N M U tb b0 e)(c:d2 b (.inl (e:Int))=J v):N M U (Q3 ta tb) (cB CM kN e) ():=λG H d s w l Q k=>
 h G H d s w l _ λx m n a o=>i m n d a.s a.w (l.mono a.g) _ λy p q f r=>by cases(show x=_ from o);cases(show y=_ from r);let⟨t,u⟩:=(cu f.w g).1;show⟨dz,v,B,by rw[<-c];show o7.k (k:= .inl (e:Int)) t,k v p q (a.trans f) (u.get c)⟩
def Xk(f:M[j]? =J (o8 CM dz kN S))(g:N M U ta b6 dz)(h:N M U tb b0 e)(i:e∈S):N M U (Q3 ta tb) (cB CM kN e) ():=λG H b s w l Q k=>
 g G H b s w l _ λx m n a o=>h m n b a.s a.w (l.mono a.g) _ λy p q c r=>by cases(show x=_ from o);cases(show y=_ from r);let⟨t,u,z,A⟩:=(cu c.w f).1;let⟨v,d⟩:=A e i;show⟨dz,v,B,by rw[<-d];show o7.k (k:= .inl (e:Int)) u,k v p q (a.trans c) (z.get d)⟩
def AW{M:Type} [DecidableEq M]{a:Y (M×V)}{k:M}{v:V}(h:d2 a k=ah):d2 (putK a k v) k=J v:=by
 let c:∀q∈a,q.1≠k:=λq b e=>by delta d2 at h;rw[Ri,rO] at h;show h q b ∅
 rw[R3.sH c];delta d2;rw[XO,rO.2 (λq b=>⋯)];simp
def VU{d:Y (Key×V)}{e:Nat}(he:e<=3)(hv:N M U tv (cB CM kN e) ())(E:M[j]? =J (K0 CM dz kN d))(v:N M U ta b6 dz)(g:N M U tb b0 e)(f:d2 d (.inl (e:Int))=ah)(q:Φ (.nx (M.set j (o8 CM dz kN [e])) U)):b9 M U (U0 ta tb tv) Φ:=λG H t s w l D k=>
 hv G H t s w l _ λu G1 H1 i r1=>v G1 H1 t i.s i.w (l.mono i.g) _ λy G2 H2 m r2=>g G2 H2 t m.s m.w ((l.mono i.g).mono m.g) _ λz o I r r3=>by
  cases(show y=_ from r2);cases(show z=_ from r3);let⟨h1,x⟩:=(cu r.w E).1;let L:∀q∈d,q.1≠(gB (e:Int):Key):=λq A Q=>by delta d2 at f;rw[Ri,rO] at f;show f q A ∅
  have hr:(cB CM kN e).rep o u ():=(cB CM kN e).mono (m.g.trans r.g) r1;let m3:ku CM kN o (putK d (.inl (e:Int)) u):=by
   rw[R3.sH L];show⟨?_,λq A=> ?_⟩
   ·rw[fB,rP];show⟨x.nd,⋯,λa v b g Q=> ?_⟩;let⟨p,hp,rfl⟩:=a_.1 v;simp at g;show L p hp (Q.trans g)
   ·obtain c| c:=dc.1 A
    ·show x.ok q c
    ·lk
  let T:To M o I (M.set j (o8 CM dz kN [e])) o (upd I dz (.dK (putK d (.inl (e:Int)) u))):=To.put r.s r.w E (λ_ h=>h) (λb u n e=>by rw[aS n];show e) (λb g=>⟨.dK (putK d (.inl (e:Int)) u),by rw[show b=dz from g];show bg,by ext _ h;cases h⟩) ⟨_,bg,m3,λe' C=>by rw[iW.1 C];show⟨u,AW f⟩⟩;let xx:=(i.trans m).trans r;show⟨dz,_,B,K4.k (k:= .inl (e:Int)) h1 (by have:=x.len;rw[bM];lk),k _ q o _ t (xx.trans T) ((l.mono xx.g).mono T.g)⟩
end
def U3(P:aW):Y (Str×En):= [("cell_count", .im b0 P.count),("cabins", .im aB P.cabins),("neighbours", .im ej P.nears)]
abbrev tL(a:ab)(P:aW):Enc Unit:=o6 a (U3 P)
def ai2(a:ab):az aW->En
 | none=> .im A8 ()
 | some P=> .im (tL a P) ()
def ai0:az LN0->En
 | none=> .im A8 ()
 | some s=> .im aB s
def ah0(a b:ab)(c:az aW)(d:az LN0):Y (Str×En):= [("plan",ai2 a c),("standing",ai0 d),("mazes", .im b6 b)]
def ai1:az aW->LL0
 | none=> []
 | some P=>P.nears
structure jl where
 st:ab
 dz:ab
 po:az aW
 so:az LN0
/---/def stK(a b c:ab)(x:jl):Y Res:= [rObj x.st c (ah0 b x.dz x.po x.so),o8 a x.dz (ai1 x.po) []]
end
def SE:r8 M U (M3 c7) λp=>g7 p [] e []:=λG H c s w l Q k=>⟨eT _,λp a=>k p _ _ (To.own s w a (g7 p [] e []) (λb=>⟨λh=>h.elim id (λh=>nomatch h),λh=>nV h⟩) ⟨bg,(λh=>nomatch h),zN, .nil⟩)⟩
def Yx{c:Y β}{d:Y γ}{a:β}{b:γ}(h:aU F c d)(k:F a b):aU F (c++ [a]) (d++ [b]):=h.rec (.cons k .nil) λr _ t=> .cons r t
def abL{c:Y β}{d:Y γ}(k:∀a∈c,∀b,F a b->e a b)(h:aU F c d):aU e c d:=by
 induction h with
 | nil=>show .nil
 | cons r _ t=>show .cons (k _ ∅ _ r) (t λa f=>k a ∅)
def Sn(T:N [g7 p f e c] U to b6 p)(hl: ⇑c<aV)(q:∀z,Φ (.nx [g7 p (f++ [z]) e (c++ [[]])] U)):b9 [g7 p f e c] U (L7 (N0 K "list" R8 to (b8 (M3 c7) c7))) Φ:=λG H x s w z D k=>
 T G H x s w z _ λv r A i r1=>by
  cases(show v=_ from r1);let⟨⟨C,E,h3,I⟩,j⟩:=cu (j:=0) i.w B;show⟨.inl ⟨B,_,SqL.of C⟩,eT _,λd L=> ?_⟩;let g:d≠p:=λz=>∅;let l:∀a∈f,a≠d:=λa m z=>by let⟨_,u,e,_⟩:=j a (.inr m);rw[z,L] at e;cases e
  have gd:=rW i.s L;show⟨p,_, .ref d,B,B,by rw[aS (eF g)];show C,by rw[aF,dU I];show hl,?_⟩;let Q:To [g7 p f e c] r A [g7 p (f++ [d]) e (c++ [[]])] r (upd (upd A d (.lst [])) p (.lst (f.map V.ref++ [.ref d]))):=by
   let t:∀b,¬d8 [g7 p f e c] b->b≠p:=λb n z=>n (fg.2 (.inl (.inl z)));show⟨λb u n e=> ?_,λ_ _ e=>e,λb u e=> ?_,λ_ _ _ _ _=>B,λb o=> ?_,⟨⟨by rw[bg,fB];rfl,?_,?_,?_⟩,λb o=>⟨?_,?_,gA⟩,cM⟩⟩
   ·rw[aS (t b n),aS (λz=>∅)];show e
   ·let e':=i.s b u e;rw[aS (λz=>by rw[z,(j p (.inl B)).1] at e;cases e),aS (λz=>∅)];show e'
   ·obtain z| z:=fg.1 o
    ·obtain z| z:=z
     ·lk
     ·obtain y| y:=dc.1 z
      ·show .inl (fg.2 (.inl (.inr y)))
      ·cbv
    ·show(gA z).elim
   ·lk
   ·lk
   ·show Yx (abL ?_ I) ⟨[],by rw[aS g,bg], .nil⟩;ext a m b ⟨vs,e1,e2⟩;show⟨vs,by rw[aS (λz=>E (by rw[<-z];show m)),aS (l a m)];show e1,e2⟩
   ·obtain z| z:=o
    ·rw[z];show(j p (.inl B)).1
    ·obtain y| y:=dc.1 z
     ·show(j b (.inr y)).1
     ·cbv
   ·obtain z| z:=o
    ·rw[z];show⟨_,bg,by ext _ h;cases h⟩
    ·obtain y| y:=dc.1 z
     ·let⟨_,u,e,nt⟩:=j b (.inr y);show⟨u,by rw[aS (λz=>E (by rw[<-z];show y)),aS (l b y)];show e,nt⟩
     ·rw[iW.1 y];show⟨.lst [],by rw[aS g,bg],by ext _ h;cases h⟩
  show k _ (q d) r _ x (i.trans Q) ((z.mono i.g).mono Q.g)
def Rn(ho:N [g7 p g e (a++ [r])] U to b6 p)(hb:N [g7 p g e (a++ [r])] U te e b)(hl: ⇑r<aV)(q:Φ (.nx [g7 p g e (a++ [r++ [b]])] U)):b9 [g7 p g e (a++ [r])] U (L7 (N0 K "list" R8 (d9 (E4 K) to (M9 (G9 λi=>V.int (-i)) (j8 (V.int 1)))) (b8 te c7))) Φ:=λG H E s w z D k=>
 ho G H E s w z _ λv G1 H1 m r1=>by
  cases(show v=_ from r1);let⟨⟨I,L,Q,o⟩,hn⟩:=cu (j:=0) m.w B;let j:=dU o;rw[dA,qe] at j;let⟨c,d,T,NX,_⟩:=qW o (i:=⇑a) (b:=r) ⋯;let l:(g.map V.ref).getLast? =J (.ref c):=by rw[Eg,cP,aF,j];show congrArg _ d
  refine⟨1,B,p,_,-1, .ref c,B,B,SqL.of I,kg l, .inl ⟨B,T,SqL.of NX⟩,hb G1 H1 E m.s m.w (z.mono m.g) _ λu C H2 t r2=> ?_⟩;let⟨⟨I,L,Q,o⟩,hn⟩:=cu (j:=0) t.w B;let⟨qb,Dx,vs,hv,x⟩:=qW o (i:=⇑a) (b:=r) ⋯;cases bu (d.symm.trans Dx);let y:c∈g:=cD d;let Dm:p≠c:=λz=>L (z▸y);let x3:To [g7 p g e (a++ [r])] C H2 [g7 p g e (a++ [r++ [b]])] C (upd H2 c (.lst (vs++ [u]))):=by
   show To.put (j:=0) (r':=g7 p g e (a++ [r++ [b]])) t.s t.w B (λ_ h=>h) (λb u n e=>by rw[aS (show b≠c from λz=>n (.inr (by rw[z];show y)))];show e) (λb' jM=> ?_) ⟨by rw[aS Dm];show I,L,Q,?_⟩
   ·cases A:b'=c
    ·show⟨_,by rw[A];show bg,by ext _ h;cases h⟩
    ·let⟨_,u',e',nt⟩:=hn b' jM;show⟨u',by rw[aS A];show e',nt⟩
   ·have:=BD (F':=λq row=>∃f,upd H2 c (.lst (vs++ [u])) q=J (.lst f)/\aU (e.rep C) f row) ⇑a (r:=r++ [b]) o d ⟨_,bg,wy x r2⟩ (λa' b' _ ek ⟨f,e1,e2⟩=>⟨f,by rw[aS ek];show e1,e2⟩) Q;rw[List.set_append_right _ _ (br _),AQ] at this;show this
  show⟨c,vs,u,B,B,hv,by rw[dU x];show hl,k _ q C _ E ((m.trans t).trans x3) ((z.mono (m.trans t).g).mono x3.g)⟩
def Qx(d:F=a++ [r])(f:N [g7 p c e F] U g b6 p)(h:N [g7 p c e F] U j e b)(k: ⇑r<aV)(q:Φ (.nx [g7 p c e (a++ [r++ [b]])] U)):b9 [g7 p c e F] U (L7 (N0 K "list" R8 (d9 (E4 K) g (M9 (G9 λi=>V.int (-i)) (j8 (V.int 1)))) (b8 j c7))) Φ:=by subst d;show Rn f h k q
def RJ{c:Enc β}(g:U[i]? =J (.im b6 p))(j:∀G k v,c.rep G v b->c.rep k v b)(h:N [] (U.set i (.im (eList (eList e)) a)) t c b):N [g7 p q e a] U t c b:=
 Vb (λG H d s w z=>by let⟨l,x,r⟩:=To.Lw (j:=0) s w B;let⟨v,m,n⟩:=z.get g;cases(show v=_ from n);let f:=(z.mono x.g).set r i;let o:d.set i (J (.ref p))=d:=set_same m;rw[o] at f;show⟨l,x.g,x.s,f⟩) j h
end R3
end
section
namespace Pr
open PySem PySem.Spec PyProof.Rows L2 Fs R3
open PySem.W (nsIn findIn isFn keepIn makesIn)
open GarFetch (Known price priceNum moved rowBy firstOf meets wishOf entriesOn entriesIn isPlace code toldBy leak Why)
open GarStand (Shift empties shiftNums does shifted can)
open WqgardSpec (leastOf ofStand ofPlan says tells no noAt knownOf rowFor along cheapest worths greatest rowOf behind brought step)
open GarPlan (Plan readPlan)
open PyWqgard (shape whole)
section
/---/def top(i:Nat):eY:=PySem.Challenge.pw_fewestshifts_s01_answers.main.body.getD i (.Pass ⟨0,0,0,0⟩)
def ah9(s:eY):gb:=match y9 s with
 | [.Return (J (.ListComp _ _ a _)) _]=>a
 | _=>{kind:= .function,names:= [],isGenerator:=ak,isCoroutine:=ak}
structure Zc where
 P:bD
 w:bf
 K:aG
 mg:Str->az ae
 base:bA
 h:bA
 CM:ab
 CP:ab
 CS:ab
 n9:ab
 CV:ab
 aC:ab
 pV:Y (Key×V)
/---/def FnAt(K:aG)(x:Str)(st:eY):Prop:=∃f a,kC K x x st f a/\nsIn K ff x=J (J (.ref f))
def ag5(K:aG)(C:ab)(m q:Str)(st:eY):Prop:=∃f a,kC K m q st f a/\findIn K (.ref C) m=J (J (.ref f))/\isFn K (.ref f)=aa
def ag6(K:aG)(C:ab)(x:Str):Prop:=jm K C/\nsIn K ff x=J (J (.ref C))/\makesIn K C=aa/\keepIn K (.ref C)=aa
def Q0(K:aG)(d:Str->az ae)(c:Y (Key×V))(i n k:Nat)(b:Bool)(x:Str):Prop:=∃a f,d2 c (.inl (i:Int))=J (.ref a)/\(∀H,d7 K H a [.int (n:Int), .int (k:Int), .bl b, .ref f])/\d x=J (.ref f)
/---/def bis:Y Str:= ["len","range","enumerate","sum","min","any","all","abs","ord","isinstance","list","set","dict","max","sorted"]
/---/def cns:Y (Str×Int):= [("MOST_HOLES",3),("MODULUS",1000000007),("LINE_END",10),("MOST_NAME_BYTES",12),("MOST_FLOORS",4),("MOST_ROWS",8),("MOST_SIGNS",8),("MOST_CELLS",20),("MOST_CABINS",4),("MOST_PALLET",99),("MOST_EMPTY",3),("NO_HOLES",(-1)),("NO_PALLET",(-3)),("NO_CELL",(-4)),("NOT_DONE",(-5)),("FAULT",(-6)),("TOO_MANY",(-7)),("NOTHING_STANDS",(-8)),("NO_PLAN",(-9)),("MOST_KNOWN",200)]
/---/def fns:Y (Str×Nat):=Mm [("is_place",3),("mask_of",4),("cells_of",5),("rising_rows",6),("write_prices",7),("price_of",8),("least_price",11),("least_by_cell",12),("first_least_row",13),("behind_shift",14),("cheaper_shifts",15),("count_least_rows",16),("read_plan",26),("split_lines",27),("codes",28),("line_fault",29),("is_heading",30),("is_name",31),("is_small_letter",32),("is_row",33)] (Mm [("floor_fault",34),("row_fault",35),("has_too_few_rows",36),("end_fault",37),("cell_squares",38),("sign_at",39),("neighbours_of",40),("are_neighbours",41),("hangs_together",42),("cut_entries",44),("prices_told",45),("why_unproved",46),("why_no_standing",50),("empty_cells",51),("is_row_of_shifts",52),("shifts_of",53),("can_be_done",54),("standings_along",55),("has_twice",65),("refuse_pallets",66)] (Mm [("refuse_cell",67),("refuse_wish",68),("refuse_wish_with",69),("refuse_hole_count",70),("refuse_place",71),("refuse_row",72),("refuse_undone",73),("priced_places",77),("priced_pallets",78),("numbers_of",79),("call_load",84),("call_stand",85),("call_told",86),("call_near",87),("call_run",88),("call_fetch",89),("call_go",90),("call_firsts",91),("call_ways",92),("call_weigh",93)] ([("call_all",94),("call_nearest",95),("call_map",96),("call_price",97),("call_spread",98),("call_hardest",99),("call_stuck",100),("call_cell",101),("call_known",102),("call_check",103),("call_shut",104),("answer_proof",105),("answers",107),("read_given",108),("numbers_taken",109),("answer_call",110)])))
/---/def cals:Y (Nat×Nat×Nat×Bool×Str):= [(0,0,1,ak,"call_load"),(1,0,1,ak,"call_stand"),(2,0,0,aa,"call_told"),(3,1,0,ak,"call_near"),(4,0,1,aa,"call_run"),(5,0,3,aa,"call_fetch"),(6,0,3,aa,"call_go"),(7,1,2,aa,"call_firsts"),(8,1,2,aa,"call_ways"),(9,1,3,aa,"call_weigh"),(10,0,2,aa,"call_all"),(11,0,2,aa,"call_nearest"),(12,1,0,aa,"call_map"),(13,1,3,ak,"call_price"),(14,1,2,ak,"call_spread"),(15,1,2,ak,"call_hardest"),(16,1,2,ak,"call_stuck"),(17,2,2,ak,"call_cell"),(18,1,2,aa,"call_known"),(19,2,3,aa,"call_check"),(20,1,3,aa,"call_shut")]
def v3(Z:Zc):Y (ab×Str):= [(Z.CM,"cell_count"),(Z.CM,"hole_count"),(Z.CM,"masks"),(Z.CM,"numbers"),(Z.CM,"shifts"),(Z.CP,"cell_count"),(Z.CP,"cabins"),(Z.CP,"neighbours"),(Z.CS,"plan"),(Z.CS,"standing"),(Z.CS,"mazes"),(Z.n9,"places"),(Z.n9,"prices"),(Z.n9,"refusal"),(Z.CV,"priced"),(Z.CV,"refusal")]
def q7(Z:Zc):Y (ab×Str):= [(Z.CM,"Maze"),(Z.CP,"Plan"),(Z.CS,"State"),(Z.n9,"Search"),(Z.CV,"Survey")]
def ah1(Z:Zc):Y (ab×Str×Str×NN0):= [(Z.CM,"__init__","Maze.__init__",2,0),(Z.CM,"shifts_from","Maze.shifts_from",2,1),(Z.CM,"place","Maze.place",2,2),(Z.CM,"place_told","Maze.place_told",2,3),(Z.CM,"tell","Maze.tell",2,4),(Z.CM,"all_places","Maze.all_places",2,5),(Z.CM,"steps","Maze.steps",2,6),(Z.CM,"prices_for","Maze.prices_for",2,7),(Z.CM,"places_that_meet","Maze.places_that_meet",2,8),(Z.CM,"meeting_places","Maze.meeting_places",2,9),(Z.CM,"next_layer","Maze.next_layer",2,10),(Z.CP,"__init__","Plan.__init__",25,0),(Z.n9,"__init__","Search.__init__",75,0),(Z.CV,"__init__","Survey.__init__",76,0),(Z.CS,"__init__","State.__init__",81,0),(Z.CS,"hold","State.hold",81,1),(Z.CS,"holes_now","State.holes_now",81,2),(Z.CS,"maze","State.maze",81,3),(Z.CS,"maze_with","State.maze_with",81,4),(Z.CS,"place","State.place",81,5),(Z.CS,"place_in","State.place_in",81,6),(Z.CS,"goals","State.goals",81,7),(Z.CS,"prices_for","State.prices_for",81,8),(Z.CS,"prices_with","State.prices_with",81,9)]
class Tx (Z:Zc):Prop where
 X:Z.K.In Z.h
 G:Z.h.Ns ff Z.mg
 b:∀x∈bis,nsIn Z.K ff x=J ah
 c:∀p∈cns,∃t,nsIn Z.K ff p.1=J (J (.int p.2 t))
 n:∀p∈v3 Z,findIn Z.K (.ref p.1) p.2=J ah
 k:∀p∈q7 Z,ag6 Z.K p.1 p.2
 f:∀p∈fns,FnAt Z.K p.1 (top p.2)
 m:∀p∈ah1 Z,ag5 Z.K p.1 p.2.1 p.2.2.1 (inClass (top p.2.2.2.1) p.2.2.2.2)
 d:Z2 Z.P Z.w Z.K Z.aC Z.pV
 nC:nsIn Z.K ff "CALLS"=J (J (.ref Z.aC))
 hC:∀p∈cals,Q0 Z.K Z.mg Z.pV p.1 p.2.1 p.2.2.1 p.2.2.2.1 p.2.2.2.2
/---/def spAns(K:aG):Sp:=λd H Q _=>∃(a:ab) (b:Y Int),d= [.ref a]/\SqL K H a (b.map V.int)/\ ⇑b<=6200/\(∀z∈b,0<=z)/\Ep b=true/\∀(c:Hp) (p:ab),c p=J (.lst ((oy b).map V.int))->Q (.ref p) c
def X2(Z:Zc):Prop:=∀f a,kC Z.K "answers" "answers" (top 107) f a->dY Z.P Z.w Z.K Z.mg Z.base CX0 30 f a ["calls"] (spAns Z.K)
def zne:Nonempty Zc:=⟨default,⟨λ_ _=>0,{strHash:=λ_=>0,shareClass:=λ_=>0,mergeTok:=id,idOf:=λ_=>0,idOfShared:=λ_ _=>0,followText:=λ_=>false,idOfImm:=λ_=>0}⟩, [],λ_=>none,default,default,0,0,0,0,0,0, []⟩
noncomputable def Z:Zc:=@Classical.epsilon _ zne λZ=>¬(Tx Z->X2 Z)
def ZW(h:Tx Z->X2 Z)(a:Zc)(T:Tx a):X2 a:=Classical.byContradiction λk=> @Classical.epsilon_spec _ (λZ=>¬(Tx Z->X2 Z)) ⟨a,λz=>k (z T)⟩ h
class bt (x:Str) (k:outParam Nat) (sp:outParam Sp):Prop where
 h:∃ps,ah8 Z.P Z.w Z.K Z.mg Z.base x k ps sp
class fk (C:ab) (m:Str) (k:outParam Nat) (sp:outParam Sp):Prop where
 h:∃ps,ab7 Z.P Z.w Z.K Z.mg Z.base C m k ps sp
class oj (x:Str) (C:outParam ab) (k:outParam Nat) (sp:outParam Sp):Prop where
 h:∃ps,ab8 Z.P Z.w Z.K Z.mg Z.base C x k ps sp
instance [T:Tx Z]:fO Z.K Z.CM "cell_count":=⟨(T.k (_,"Maze") (by simp[q7])).1,T.n (_,"cell_count") (by simp[v3])⟩
instance [T:Tx Z]:fO Z.K Z.CM "hole_count":=⟨(T.k (_,"Maze") (by simp[q7])).1,T.n (_,"hole_count") (by simp[v3])⟩
instance [T:Tx Z]:fO Z.K Z.CM "masks":=⟨(T.k (_,"Maze") (by simp[q7])).1,T.n (_,"masks") (by simp[v3])⟩
instance [T:Tx Z]:fO Z.K Z.CM "numbers":=⟨(T.k (_,"Maze") (by simp[q7])).1,T.n (_,"numbers") (by simp[v3])⟩
instance [T:Tx Z]:fO Z.K Z.CM "shifts":=⟨(T.k (_,"Maze") (by simp[q7])).1,T.n (_,"shifts") (by simp[v3])⟩
instance [T:Tx Z]:fO Z.K Z.CP "cell_count":=⟨(T.k (_,"Plan") (by simp[q7])).1,T.n (_,"cell_count") (by simp[v3])⟩
instance [T:Tx Z]:fO Z.K Z.CP "cabins":=⟨(T.k (_,"Plan") (by simp[q7])).1,T.n (_,"cabins") (by simp[v3])⟩
instance [T:Tx Z]:fO Z.K Z.CP "neighbours":=⟨(T.k (_,"Plan") (by simp[q7])).1,T.n (_,"neighbours") (by simp[v3])⟩
instance [T:Tx Z]:fO Z.K Z.CS "plan":=⟨(T.k (_,"State") (by simp[q7])).1,T.n (_,"plan") (by simp[v3])⟩
instance [T:Tx Z]:fO Z.K Z.CS "standing":=⟨(T.k (_,"State") (by simp[q7])).1,T.n (_,"standing") (by simp[v3])⟩
instance [T:Tx Z]:fO Z.K Z.CS "mazes":=⟨(T.k (_,"State") (by simp[q7])).1,T.n (_,"mazes") (by simp[v3])⟩
instance [T:Tx Z]:fO Z.K Z.n9 "places":=⟨(T.k (_,"Search") (by simp[q7])).1,T.n (_,"places") (by simp[v3])⟩
instance [T:Tx Z]:fO Z.K Z.n9 "prices":=⟨(T.k (_,"Search") (by simp[q7])).1,T.n (_,"prices") (by simp[v3])⟩
instance [T:Tx Z]:fO Z.K Z.n9 "refusal":=⟨(T.k (_,"Search") (by simp[q7])).1,T.n (_,"refusal") (by simp[v3])⟩
instance [T:Tx Z]:fO Z.K Z.CV "priced":=⟨(T.k (_,"Survey") (by simp[q7])).1,T.n (_,"priced") (by simp[v3])⟩
instance [T:Tx Z]:fO Z.K Z.CV "refusal":=⟨(T.k (_,"Survey") (by simp[q7])).1,T.n (_,"refusal") (by simp[v3])⟩
section
variable {X:Cx} {pos p q r cO:Pos} {x y z m:Str} {e o a b:aZ} {es:Y aZ} {ta tb te:TE} {t:TA} {k i j l:Nat} {sp:Sp} {C:ab}
def gi{d:Type}{c:Y d}{x:d}(i:Nat)(h:c[i]? =J x:=by rfl):c[i]? =J x:=h
/---/def On(X:Cx):Prop:=(X.prog=Z.P/\X.w=Z.w/\X.K=Z.K/\X.mg=Z.mg/\X.base=Z.base)
def dr [T:Tx Z]{v:Int}(c:X.mg=Z.mg:=by rfl)(d:k4 X x:=by rfl)(h:cns.lookup x=J v:=by rfl)(f:(x==("__debug__":Str))=false:=by decide):b3 X (.Name x pos) (j8 (.int v)):=by let⟨t,h⟩:=T.c (x,v) (gP h);show YH d (by rw[c];show kW T.X T.G h) ⟨t,B⟩ f
def gc [T:Tx Z](h:bis.contains x=true:=by rfl):Z.mg x=none:=PySem.W.mg_none_of T.X T.G (T.b x (by simpa using h))
def A2(k:Nat)(A:bY):Prop:=cS k A
def A2.hu{A:bY}(h:A2 k A):A.units+1<ey:=abV h
def A2.units{A:bY}(h:A2 k A):A.units+64<ey:=cS.units h
def A2.mono{A:bY}(h:A2 k A)(z:j<=k):cS j A:=cS.mono h z
def aR [F:bt x k sp]{g:Nat}(n:A2 g X.A)(s:j2 X (e::es) t)(u:k<=g:=by decide)(v:k4 X x:=by rfl)(c:On X:=by show⟨B,B,B,B,B⟩)(d:(x==("__debug__":Str))=false:=by decide)
 (w:aH (e::es) X.env=(ak,eval e X.env)::aH es X.env:=by rfl)(f:(dh pos (aH es X.env)).any (·.1)=false:=by rfl):b3 X (.Call (.Name x p) (e::es) [] pos) (v9 sp [] E0 t):=by
 let⟨L,h⟩:=F.h;let⟨A,D,E,H,I⟩:=c;rw[<-A,<-D,<-E,<-H,<-I] at h;show abP h (n.mono u) v s d w f
def lx [F:oj x C k sp]{g:Nat}(n:A2 g X.A)(s:j2 X (e::es) t)(u:k+1<=g:=by decide)(v:k4 X x:=by rfl)(c:On X:=by show⟨B,B,B,B,B⟩)(d:(x==("__debug__":Str))=false:=by decide)
 (w:aH (e::es) X.env=(ak,eval e X.env)::aH es X.env:=by rfl)(f:(dh pos (aH es X.env)).any (·.1)=false:=by rfl):b3 X (.Call (.Name x p) (e::es) [] pos) (B9 C sp [] E0 t):=by
 let⟨L,h⟩:=F.h;let⟨A,D,E,H,I⟩:=c;rw[<-A,<-D,<-E,<-H,<-I] at h;show abN h (n.mono u) v s d w f
def acd [F:oj x C k sp]{f:Nat}(g:A2 f X.A)(n:k+1<=f:=by decide)(s:k4 X x:=by rfl)(c:On X:=by show⟨B,B,B,B,B⟩)(d:(x==("__debug__":Str))=false:=by decide):b3 X (.Call (.Name x p) [] [] pos) (B9 C sp [] E0 c7):=by let⟨E,h⟩:=F.h;let⟨u,v,w,A,D⟩:=c;rw[<-u,<-v,<-w,<-A,<-D] at h;show aaL h (g.mono n) s d
def cT{u:Sem Bool}(C:ab) [F:fk C m k sp]{n:Nat}(v:A2 n X.A)(w:b3 X o ta)(A:j2 X (e::es) t)(D:k<=n:=by decide)(c:On X:=by show⟨B,B,B,B,B⟩)
 (d:aH (e::es) X.env=(ak,eval e X.env)::aH es X.env:=by rfl)(g:(dh pos (aH es X.env)).any (·.1)=false:=by rfl)
 (E:eval (.Call (.Attribute o m cO) (e::es) [] pos) X.env=(do
  let s<-eval o X.env
  ml cO.atName
  let(f,first)<-fW [s] (getMethod s m u)
  nF pos f first (dh pos (aH (e::es) X.env)) (nG pos (nq [] X.env))):=by rfl):b3 X (.Call (.Attribute o m cO) (e::es) [] pos) (u5 C m sp [] E0 ta t):=by
 let⟨ps,h⟩:=F.h;let⟨H,I,L,Q,T⟩:=c;rw[<-H,<-I,<-L,<-Q,<-T] at h;show abM h (v.mono D) w A d g E
def iy{n:Sem Bool}(C:ab) [F:fk C m k sp]{d:Nat}(s:A2 d X.A)(u:b3 X o ta)(v:k<=d:=by decide)(c:On X:=by show⟨B,B,B,B,B⟩)
 (w:eval (.Call (.Attribute o m cO) [] [] pos) X.env=(do
  let g<-eval o X.env
  ml cO.atName
  let(f,first)<-fW [g] (getMethod g m n)
  nF pos f first (dh pos (aH [] X.env)) (nG pos (nq [] X.env))):=by rfl):b3 X (.Call (.Attribute o m cO) [] [] pos) (u5 C m sp [] E0 ta c7):=by
 let⟨L,h⟩:=F.h;let⟨A,D,E,H,I⟩:=c;rw[<-A,<-D,<-E,<-H,<-I] at h;show aaK h (s.mono v) u w
def W{i:Nat}(d:X.N[i]? =J x:=by walk_at "i")(f:N3 X.env.scope x:=by first| show nV B| show nU (nV B)| show nU (nU B))(g:(x==("__debug__":Str))=false:=by decide)(c:(x==("__classdict__":Str))=false:=by decide):b3 X (.Name x pos) (p3 i):=pv i d f g c
def aL{i:Nat}(c:X.N.Nodup:=by assumption)(d:Loc X.env.scope x:=by first| show nV B| show nU B)(f:X.N[i]? =J x:=by walk_at "i")(g:X.fn x=aa\/X.env.scope.names.lookup x=J .local:=by first| show .inl B| show .inr B| assumption):y6 X (.Name x pos) (p9 i):=YD c f d g
def dy{f:Nat}{u:p_}(n:Nat)(h:R1 X es u)(c:X.K=Z.K:=by rfl)(g:X.calm=true:=by rfl)(s: ⇑(lW es X.env)=n:=by rfl)(d:(lW es X.env).findIdx? (·.1)=none:=by rfl):y6 X (.Tuple es f pos) (S5 Z.K n u):=YC c g h s d
def kx{d:Pos}{f:Y aZ}{g:Nat}(h:j2 X [e] t)(c:X.K=Z.K:=by rfl)(n:X.mg "enumerate"=none:=by show gc)(s:k4 X "enumerate":=by rfl)(u:aH [e] X.env= [(ak,eval e X.env)]:=by rfl):n6 X (.Tuple f g d) (.Call (.Name "enumerate" p) [e] [] pos) (U7 Z.K t):=WA c s n h u
def ez{d:aZ}{g:TE}{f:Str}(h:b3 X o ta)(n:b3 X d g)(c:X.K=Z.K:=by rfl)(s:nu d (J (.Attribute o f q)) pos.line X.env=pure false:=by rfl):m9 X (.Assign [.Attribute o f q] d pos) (V3 Z.K ta g f):=c▸aaE h n s
def cf{d:aZ}(f:b3 X e ta)(c:X.K=Z.K:=by rfl):n6 X d e (U6 Z.K ta):=Wz c f
def ba{f:Str}(d:b3 X e ta)(c:X.K=Z.K:=by rfl)(g:jY e f X.env (eval e X.env)=eval e X.env:=by rfl):b3 X (.Attribute e f pos) (M5 Z.K ta f):=YI c d g
def aI(d:b3 X a ta)(f:b3 X b tb)(c:X.K=Z.K:=by rfl)(g:Y1 b:=by show λ_ _=>B):b3 X (.Subscript a b pos) (d9 (E4 Z.K) ta tb):=Ny (W_ c) d f g
def dm(d:b3 X a ta)(f:b3 X b tb)(c:X.K=Z.K:=by rfl)(g:Y1 b:=by show λ_ _=>B):b3 X (.Subscript a b pos) (d9 (C7 Z.K) ta tb):=Ny (Zq c) d f g
def tX(c:X.A.units+1<ey)(d:b3 X a ta)(f:b3 X b tb)(g:V8 b:=by show λ_ _=>B):b3 X (.Subscript a b pos) (Q3 ta tb):=YK c d f g
def dj{id:String}{r:Y V->Hp->VK->Prop}(f:i3 X (.builtin id) r)(g:j2 X (e::es) t)(h:X.mg x=none:=by show gc)(n:k4 X x:=by rfl)(s:oO x=J (.builtin id):=by decide+kernel)(u:x≠"__name__":=by decide)(c:(x==("__debug__":Str))=false:=by decide)(v:aH (e::es) X.env=(ak,eval e X.env)::aH es X.env:=by rfl)(d:(dh pos (aH es X.env)).any (·.1)=false:=by rfl):b3 X (.Call (.Name x p) (e::es) [] pos) (j5 r t):=Ke f n h s g u c v d
def ky{id:String}{r:Y V->Hp->VK->Prop}(f:i3 X (.type id) r)(g:j2 X (e::es) t)(h:X.mg x=none:=by show gc)(n:k4 X x:=by rfl)(s:oO x=J (.type id):=by decide+kernel)(u:x≠"__name__":=by decide)(c:(x==("__debug__":Str))=false:=by decide)(v:aH (e::es) X.env=(ak,eval e X.env)::aH es X.env:=by rfl)(d:(dh pos (aH es X.env)).any (·.1)=false:=by rfl):b3 X (.Call (.Name x p) (e::es) [] pos) (j5 r t):=Ux f n h s g u c v d
def fN{c:CmpOp}{r:R2}(d:e9 X (et c) r)(f:b3 X a ta)(g:b3 X b tb)(h:m_ c b=false:=by show MN _):b3 X (.Compare a [c] [b] pos) (d9 r ta tb):=wz d f g h
def bI{c:CmpOp}{r:R2}(d:e9 X (et c) r)(f:b3 X a ta)(g:b3 X b tb)(h:m_ c b=false:=by show MN _):p7 X (.Compare a [c] [b] pos) (T8 (d9 r ta tb)):=BA d f g h
def b_(d:b3 X e ta)(c:X.K=Z.K:=by rfl)(f:∀whole,rj e X.env whole=(do let v<-whole;ml e.pos;fW [v] (truthy v)):=by show λ_=>B):p7 X e (O1 Z.K ta):=Us c d f
def ay{c:aZ}{d:TE}(f:b3 X c d)(g:aH (c:: []) X.env=(ak,eval c X.env)::aH [] X.env:=by rfl):j2 X [c] (b8 d c7):=(dM f cQ g)
def bc{d c:aZ}{f g:TE}(h:b3 X d f)(n:b3 X c g)(s:aH (d:: [c]) X.env=(ak,eval d X.env)::aH [c] X.env:=by rfl)(u:aH (c:: []) X.env=(ak,eval c X.env)::aH [] X.env:=by rfl):j2 X [d,c] (b8 f (b8 g c7)):=(dM h (dM n cQ u) s)
def c_{f d c:aZ}{g h n:TE}(s:b3 X f g)(u:b3 X d h)(v:b3 X c n)(w:aH (f:: [d,c]) X.env=(ak,eval f X.env)::aH [d,c] X.env:=by rfl)(A:aH (d:: [c]) X.env=(ak,eval d X.env)::aH [c] X.env:=by rfl)(D:aH (c:: []) X.env=(ak,eval c X.env)::aH [] X.env:=by rfl):j2 X [f,d,c] (b8 g (b8 h (b8 n c7))):=(dM s (dM u (dM v cQ D) A) w)
def iz{g f d c:aZ}{h n s u:TE}(v:b3 X g h)(w:b3 X f n)(A:b3 X d s)(D:b3 X c u)(E:aH (g:: [f,d,c]) X.env=(ak,eval g X.env)::aH [f,d,c] X.env:=by rfl)(H:aH (f:: [d,c]) X.env=(ak,eval f X.env)::aH [d,c] X.env:=by rfl)(I:aH (d:: [c]) X.env=(ak,eval d X.env)::aH [c] X.env:=by rfl)(L:aH (c:: []) X.env=(ak,eval c X.env)::aH [] X.env:=by rfl):j2 X [g,f,d,c] (b8 h (b8 n (b8 s (b8 u c7)))):=(dM v (dM w (dM A (dM D cQ L) I) H) E)
def Di{h g f d c:aZ}{n s u v w:TE}(A:b3 X h n)(D:b3 X g s)(E:b3 X f u)(H:b3 X d v)(I:b3 X c w)(L:aH (h:: [g,f,d,c]) X.env=(ak,eval h X.env)::aH [g,f,d,c] X.env:=by rfl)(Q:aH (g:: [f,d,c]) X.env=(ak,eval g X.env)::aH [f,d,c] X.env:=by rfl)(T:aH (f:: [d,c]) X.env=(ak,eval f X.env)::aH [d,c] X.env:=by rfl)(s3:aH (d:: [c]) X.env=(ak,eval d X.env)::aH [c] X.env:=by rfl)(s4:aH (c:: []) X.env=(ak,eval c X.env)::aH [] X.env:=by rfl):j2 X [h,g,f,d,c] (b8 n (b8 s (b8 u (b8 v (b8 w c7))))):=(dM A (dM D (dM E (dM H (dM I cQ s4) s3) T) Q) L)
def pa6{n h g f d c:aZ}{s u v w A D:TE}(E:b3 X n s)(H:b3 X h u)(I:b3 X g v)(L:b3 X f w)(Q:b3 X d A)(T:b3 X c D)(s0:aH (n:: [h,g,f,d,c]) X.env=(ak,eval n X.env)::aH [h,g,f,d,c] X.env:=by rfl)(s1:aH (h:: [g,f,d,c]) X.env=(ak,eval h X.env)::aH [g,f,d,c] X.env:=by rfl)(s2:aH (g:: [f,d,c]) X.env=(ak,eval g X.env)::aH [f,d,c] X.env:=by rfl)(s3:aH (f:: [d,c]) X.env=(ak,eval f X.env)::aH [d,c] X.env:=by rfl)(s4:aH (d:: [c]) X.env=(ak,eval d X.env)::aH [c] X.env:=by rfl)(s5:aH (c:: []) X.env=(ak,eval c X.env)::aH [] X.env:=by rfl):j2 X [n,h,g,f,d,c] (b8 s (b8 u (b8 v (b8 w (b8 A (b8 D c7)))))):=(dM E (dM H (dM I (dM L (dM Q (dM T cQ s5) s4) s3) s2) s1) s0)
def pR(h:b3 X e te):p4 X [.Return (J e) pos] (E3 te):=bP (qV h)
def cb(h:b3 X e te)(c:X.K=Z.K:=by rfl)(g:X.mg "len"=none:=by show gc)(n:k4 X "len":=by rfl)(f:aH [e] X.env=(ak,eval e X.env)::aH [] X.env:=by rfl)(d:(dh pos (aH [] X.env)).any (·.1)=false:=by rfl):b3 X (.Call (.Name "len" p) [e] [] pos) (j5 (R7 Z.K) (b8 te c7)):=Ke (WY c) n g PySem.boot_len (dM h cQ f) (by decide) (by decide) f d
abbrev BZ:=au×Hp×ab×Y (Str×ab)×Y ab
abbrev HZ:=ab×ae×bY×Y Env×au×Hp×XK
variable {elt iter:aZ} {tp:Nat} {ifs:Y aZ} {scope:gb} {wi:TI} {tt:TT} {g:TG} {w:Str} {pw ace:Pos}
variable {tg:aZ}
def W5:aZ->Y Str
 | .Name x _=> [x]
 | .Tuple es _ _=>es.flatMap λe=>match e with| .Name x _=> [x]| _=> []
 | _=> []
def dg(f:LN0)(h:X.N.Nodup)(n:n6 X tg iter wi)(u:∀z:BZ,y6 (X.eA z.1 z.2.1 scope (fU scope z.2.2.2.1 z.2.2.1 X.env) z.2.2.2.2) tg g)(v:∀z:BZ,O8 (X.eA z.1 z.2.1 scope (fU scope z.2.2.2.1 z.2.2.1 X.env) z.2.2.2.2) ifs tt)(A:∀z:BZ,b3 (X.eA z.1 z.2.1 scope (fU scope z.2.2.2.1 z.2.2.1 X.env) z.2.2.2.2) elt te)(D:((W5 tg).zip f).map (·.2)=f:=by rfl)(E:X.calm=true:=by rfl)(ok:pG X.N X.env.scope scope ((W5 tg).zip f):=by walk_at "B")(I:∀x,qm iter X.env x=pure x:=by ext _;rfl):
 b3 X (.ListComp elt [⟨tg,iter,ifs,0⟩] scope pos) (E7 wi g tt te f):=D▸abO E h n ok (λs H C c d=>u (s,H,C,c,d)) (λs H C c d=>v (s,H,C,c,d)) (λs H C c d=>A (s,H,C,c,d)) I
def hX(i:Nat)(h:LN0)(u:X.N.Nodup)(v:n6 X tg iter wi)(A:∀z:BZ,y6 (X.eA z.1 z.2.1 scope (fU scope z.2.2.2.1 z.2.2.1 X.env) z.2.2.2.2) tg g)(D:∀z:BZ,O8 (X.eA z.1 z.2.1 scope (fU scope z.2.2.2.1 z.2.2.1 X.env) z.2.2.2.2) ifs tt)(E:∀z:BZ,b3 (X.eA z.1 z.2.1 scope (fU scope z.2.2.2.1 z.2.2.1 X.env) z.2.2.2.2) elt te)(I:((W5 tg).zip h).map (·.2)=h:=by rfl)(L:X.calm=true:=by rfl)(Q:X.N[i]? =J y:=by rfl)(c:X.env.scope.names.lookup y=J .local:=by rfl)(T:X.env.scope.kind= .function:=by rfl)(hl:(pw.line==pos.line)=true:=by rfl)(ha:(scope.names.any λ(n,k)=>n==y && (k== .local|| k== .cell))=false:=by rfl)
 (ok:pG X.N X.env.scope scope ((W5 tg).zip h):=by walk_at "B")(hs:∀x,qm iter X.env x=pure x:=by ext _;rfl):
 m9 X (.Assign [.Name y pw] (.ListComp elt [⟨tg,iter,ifs,0⟩] scope pos) ace) (w8 (E7 wi g tt te h) (p9 i)):=I▸Ws L u Q c (Yj T c hl ha) v ok (λs H C d f=>A (s,H,C,d,f)) (λs H C d f=>D (s,H,C,d,f)) (λs H C d f=>E (s,H,C,d,f)) hs
def aO{i:Nat}(c:b3 X e te)(d:X.N.Nodup:=by assumption)(f:Loc X.env.scope x:=by first| show nV B| show nU B)(h:X.N[i]? =J x:=by walk_at "i")(n:nu e (J (.Name x q)) pos.line X.env=pure false:=by rfl)(s:X.fn x=aa\/X.env.scope.names.lookup x=J .local:=by first| show .inl B| show .inr B| assumption):m9 X (.Assign [.Name x q] e pos) (w8 te (p9 i)):=aaC d h f c n s
def tY{c:Operator}{d:xX}{i:Nat}(f:b3 X e te)(h:ab4 X c d)(n:X.N.Nodup:=by assumption)(s:Loc X.env.scope x:=by first| show nV B| show nU B)(u:X.N[i]? =J x:=by walk_at "i")(v:X.fn x=aa\/X.env.scope.names.lookup x=J .local:=by first| show .inl B| show .inr B| assumption):m9 X (.AugAssign (.Name x q) c e pos) (V2 i te d):=aaF n u s f h v
def xD{c:aZ}{d:Y eY}{f:TT}{tb:TS}(h:p7 X c f)(n:p4 X d tb)(s:Cr (aD X.prog X.w) X.A X.env X.xe:=by show TJ):m9 X (.While c d [] pos) (Y2 f tb):=Wr s h n
def dI{c:Y eY}{tb:TS}(d:n6 X tg iter wi)(f:y6 X tg g)(h:p4 X c tb)(n:Cr (aD X.prog X.w) X.A X.env X.xe:=by show TJ)(s:X.calm=true:=by rfl)(u:∀x,qm iter X.env x=pure x:=by ext _;rfl):m9 X (.For tg iter c [] pos) (M4 wi g tb):=aaD n s d f h u
end
def DM{u:Type}{C:u->Ct}{x g:Str}{st:eY}{f:ab}{n:gz}{k:Nat}{t:TS}{N:Y Str}{p:Nat}(F:kC Z.K x g st f n)(v:∀i,(C i).pre->b9 (C i).M ((C i).U++de (⇑N-p) .no) t (Done (C i)))(o: ⇑(N.take p)=p)(S:md N (N.take p) (k8 st))(w:∀(c9 q y:ae) (D:az ab) (j I:ae) (m:Y ae),⇑m=p->xr (lP x g (L5 st) (y9 st) (k8 st) .none c9 q y D j I) ⟨m, []⟩=pure ((N.take p).zip m))(L:∀z:HZ,N.Nodup->A2 k (z.2.2.1.deeper (jd g (k8 st) ↥z.2.2.2.2.1 z.1 z.2.1))->p4 (E5 CX0 Z.P Z.w Z.K Z.mg Z.base N g (k8 st) z.1 z.2.1 z.2.2.1 z.2.2.2.1 z.2.2.2.2.1 z.2.2.2.2.2.1 z.2.2.2.2.2.2).mw (y9 st) t)(r:∀i,⇑(C i).U=p):dY Z.P Z.w Z.K Z.mg Z.base CX0 (k+1) f n (N.take p) (b7 C)/\Binds Z.K n (N.take p) []:=
 ⟨Cz F S (λi=>(r i).trans o.symm) λi j A l s H E h Q=>⟨t,L (f,j,A,l,s,H,E) S.nd Q,by rw[o];show v i h⟩,F.binds λa b c d e f m r=>w a b c d e f m (r.trans o)⟩
def bC [T:Tx Z]{e:Type}{C:e->Ct}{x:Str}{k:Nat}{t:TS}(j:Nat)(a:Y Str)(p:Nat)(g:∀z:HZ,a.Nodup->A2 k (z.2.2.1.deeper (jd x (k8 (top j)) ↥z.2.2.2.2.1 z.1 z.2.1))->p4 (E5 CX0 Z.P Z.w Z.K Z.mg Z.base a x (k8 (top j)) z.1 z.2.1 z.2.2.1 z.2.2.2.1 z.2.2.2.2.1 z.2.2.2.2.2.1 z.2.2.2.2.2.2).mw (y9 (top j)) t)(l:∀i,(C i).pre->b9 (C i).M ((C i).U++de (⇑a-p) .no) t (Done (C i)))(m:fns.lookup x=J j:=by rfl)(o: ⇑(a.take p)=p:=by rfl)
 (S:md a (a.take p) (k8 (top j)):=by walk_at "s")
 (q:∀(c9 b r:ae) (s:az ab) (c u:ae) (d:Y ae),⇑d=p->xr (lP x x (L5 (top j)) (y9 (top j)) (k8 (top j)) .none c9 b r s c u) ⟨d, []⟩=pure ((a.take p).zip d):=by walk_at "b")
 (v:∀i,⇑(C i).U=p:=by show λ_=>B):bt x (k+1) (b7 C):=by
 let⟨f,w,F,n⟩:=T.f _ (gP m);let⟨h,y⟩:=DM F l o S q g v;show⟨_,f,w,h,kW T.X T.G n,F.kp,y⟩
def eZ [T:Tx Z]{u:Type}{C:u->Ct}{a:ab}{x c:Str}{k l:Nat}{t:TS}(n i j:Nat)(q:Str)(b:Y Str)(p:Nat)(v:∀z:HZ,b.Nodup->A2 k (z.2.2.1.deeper (jd q (k8 (inClass (top i) j)) ↥z.2.2.2.2.1 z.1 z.2.1))->p4 (E5 CX0 Z.P Z.w Z.K Z.mg Z.base b q (k8 (inClass (top i) j)) z.1 z.2.1 z.2.2.1 z.2.2.2.1 z.2.2.2.2.1 z.2.2.2.2.2.1 z.2.2.2.2.2.2).mw (y9 (inClass (top i) j)) t)(w:∀i,(C i).pre->b9 (C i).M ((C i).U++de (⇑b-p) .no) t (Done (C i)))(y:(ah1 Z)[n]? =J (a,x,q,i,j):=by rfl)(A:(q7 Z)[l]? =J (a,c):=by walk_at "i")(D: ⇑(b.take p)=p:=by rfl)
 (S:md b (b.take p) (k8 (inClass (top i) j)):=by walk_at "s")
 (E:∀(c9 d H:ae) (I:az ab) (g L:ae) (o:Y ae),⇑o=p->xr (lP x q (L5 (inClass (top i) j)) (y9 (inClass (top i) j)) (k8 (inClass (top i) j)) .none c9 d H I g L) ⟨o, []⟩=pure ((b.take p).zip o):=by walk_at "b")
 (Q:∀i,⇑(C i).U=p:=by show λ_=>B):fk a x (k+1) (b7 C)/\(x="__init__"->oj c a (k+1) (b7 C)):=by
 let⟨f,r,F,n,m⟩:=T.m _ (cD y);let⟨h,s⟩:=DM F w D S E v Q;let⟨h1,h2,h3,h4⟩:=T.k _ (cD A);show⟨⟨_,f,r,h1,⟨n,m,F.kp⟩,h,s⟩,λe=>⟨_,f,r,⟨h3,by rw[<-e];show n,m,h4⟩,h,kW T.X T.G h2,s⟩⟩
section
variable {M κf:Y Res} {U:Y En} {ta t0 t1 t2 t3 t4:TE} {tr:TA}
abbrev P2{a:Type}(M:Y Res)(U:Y En)(pre:Prop)(e:Enc a)(b:a):Ct:=⟨M,U,pre,Unit,λ_=>M,a,e,λ_=>b⟩
abbrev P1{a:Type}(U:Y En)(pre:Prop)(e:Enc a)(b:a):Ct:=P2 [] U pre e b
def a1(h:N M U t0 e b):l7 M U (b8 t0 c7) [.im e b]:=df h dn
def a2(h:N M U t0 e b)(a:N M U t1 f c):l7 M U (b8 t0 (b8 t1 c7)) [.im e b, .im f c]:=df h (a1 a)
def a3(h:N M U t0 e b)(a:N M U t1 f c)(i:N M U t2 g d):l7 M U (b8 t0 (b8 t1 (b8 t2 c7))) [.im e b, .im f c, .im g d]:=df h (a2 a i)
def a4(h:N M U t0 e b)(a:N M U t1 f c)(k:N M U t2 g d)(l:N M U t3 i j):l7 M U (b8 t0 (b8 t1 (b8 t2 (b8 t3 c7)))) [.im e b, .im f c, .im g d, .im i j]:=df h (a3 a k l)
def a5(h:N M U t0 e b)(a:N M U t1 f c)(m:N M U t2 g d)(n:N M U t3 i j)(o:N M U t4 k l):l7 M U (b8 t0 (b8 t1 (b8 t2 (b8 t3 (b8 t4 c7))))) [.im e b, .im f c, .im g d, .im i j, .im k l]:=df h (a4 a m n o)
def eC{f g:Type}{C:f->Ct}{u:TA}{k:Y Res}{r:Y En}{p:Prop}{e:Enc g}{b:g}(i:f)(j:l7 M U u (C i).U)(l:(C i).pre)(m:C i=P2 k r p e b:=by show B)(a:M=k++κf:=by first| show(eS _).symm| rfl):N M U (v9 (b7 C) [] E0 u) e b:=by
 have:∀D,C i=D->(c:D.ga0)->M=D.M++κf->(∀d,D.kq0 d=D.M)->(∀d,D.b d=D.b c)->N M U (v9 (b7 C) [] E0 u) D.e (D.b c):=by ext _ rfl c h n o;show wL i c j l h n o
 show this _ m () a (λ_=>B) λ_=>B
def eM{g j:Type}{C:g->Ct}{a:ab}{F:Y (Str×En)}{m:Str}{k:Y Res}{r:Y En}{p:Prop}{e:Enc j}{b:j}(i:g)(o:N M U ta (o6 a F) ())(l:l7 M U tr (C i).U.tail)(q:(C i).pre)(s:C i=P2 k (.im (o6 a F) ()::r) p e b:=by show B)(t:F.lookup m=none:=by rfl)(f:M=k++κf:=by first| show(eS _).symm| rfl):N M U (u5 a m (b7 C) [] E0 ta tr) e b:=by
 have:∀D,C i=D->D.U= .im (o6 a F) ()::r->(c:D.ga0)->M=D.M++κf->(∀d,D.kq0 d=D.M)->(∀d,D.b d=D.b c)->N M U (u5 a m (b7 C) [] E0 ta tr) D.e (D.b c):=by ext _ rfl n c h u v;rw[n] at l;show ZF i c o t l n q h u v
 show this _ s B () f (λ_=>B) λ_=>B
end
end
def bd0{b:Type}{P:List b->Prop}(h:P []):∀a,a.length=0->P a
 | [],_=>h
def xW{c:Type}{P:List c->Prop}(h:∀a,P [a]):∀b,b.length=1->P b
 | [a],_=>h a
def bd2{d:Type}{P:List d->Prop}(h:∀a b,P [a,b]):∀c,c.length=2->P c
 | [a,b],_=>h a b
def Oy{e:Type}{P:List e->Prop}(h:∀a b c,P [a,b,c]):∀d,d.length=3->P d
 | [a,b,c],_=>h a b c
def bd4{f:Type}{P:List f->Prop}(h:∀a b c d,P [a,b,c,d]):∀e,e.length=4->P e
 | [a,b,c,d],_=>h a b c d
def bd5{g:Type}{P:List g->Prop}(h:∀a b c d e,P [a,b,c,d,e]):∀f,f.length=5->P f
 | [a,b,c,d,e],_=>h a b c d e
local macro_rules| `(tactic| walk_at "ev")=> `(tactic| repeat' (first| exact O rfl| exact aq (O rfl)| exact aw| exact oZ| exact jc| exact BY| exact nE| exact dn| exact bN| exact ma|(with_reducible first|refine bh ?_|refine gK ?_|refine fi ?_|refine df ?_ ?_|refine bj ?_ ?_|refine dP ?_ ?_|refine fK ?_ ?_|refine fj ?_ ?_|refine jb ?_ ?_|refine fz ?_ ?_|refine aeS ?_ ?_|refine jg ?_ ?_|refine km ?_ ?_|refine fX ?_|refine o_ ?_ ?_|refine Nc ?_ ?_|refine sY ?_ ?_|refine tD ?_ ?_ ?_|refine pz ?_ ?_ ?_|refine xb ?_ ?_ ?_|refine jH ?_|refine mh ?_|refine cw ?_ ?_ ?_|refine g_ ?_ ?_|refine wJ ?_ ?_ ?_|refine bU ?_|refine tK ?_ ?_|refine KH ?_ ?_|refine xg ?_|refine bT ?_|refine eI ?_|refine lR ?_ ?_ ?_|refine Jf ?_ ?_ ?_|refine Je ?_ ?_ ?_|refine tE ?_ ?_|refine Nb ?_ ?_|refine iq ?_|refine nP ?_ ?_ ?_|refine fY ?_ ?_ ?_|refine tF ?_|refine xf ?_|refine sv ?_|refine sO ?_ ?_ ?_|refine LV ?_|refine Ce ?_)| exact dD rfl))
local macro_rules| `(tactic| walk_at "i")=> `(tactic| first| exact gi 0| exact gi 1| exact gi 2| exact gi 3| exact gi 4| exact gi 5| exact gi 6| exact gi 7| exact gi 8| exact gi 9| exact gi 10| exact gi 11)
local macro_rules| `(tactic| walk_at "s")=> `(tactic| exact⟨rfl,rfl,rfl,by decide+kernel,rfl,by decide+kernel,by decide+kernel⟩)
local macro_rules| `(tactic| walk_at "b")=> `(tactic| first| exact fun _ _ _ _ _ _=>bd0 rfl| exact fun _ _ _ _ _ _=>xW fun _=>rfl| exact fun _ _ _ _ _ _=>bd2 fun _ _=>rfl| exact fun _ _ _ _ _ _=>Oy fun _ _ _=>rfl| exact fun _ _ _ _ _ _=>bd4 fun _ _ _ _=>rfl| exact fun _ _ _ _ _ _=>bd5 fun _ _ _ _ _=>rfl)
local macro_rules| `(tactic| walk_at "B")=> `(tactic| (refine KR ?_;dsimp only[E5,Cx.mw,Cx.eA,fU,jd,relabel,Env.kindOf,Env.blockKind];decide+kernel))
local macro_rules| `($a∘ $b)=>`(@Wq _ _ _ _ _ $a $b)
variable {K:aG} {M κf:Y Res} {U:Y En}
abbrev Qi(l:LN0):Ct:=P1 [.im aB l] (⇑l<1000) aB (oz l)
def range_any(l:LN0)(p:Nat->Bool):((bR ⇑l).filter λi=>(l[i]?).any p)=(bR ⇑l).filter λi=>p (l.getD i 0):=by apply jt;ext i a;let a:=dR.1 a;rw[getD_at a];rfl
def VL(l:LN0)(p:Nat->Bool):(((l.zipIdx.map λx=>(x.2,x.1)).filter λx=>p x.2).map λx=>x.1)=(bR ⇑l).filter λi=>p (l.getD i 0):=by rw[<-range_any,aaV l 0,bS];have:=Gm l 0 p;rw[List.range_eq_range'];erw[vB] at this;show this
def RK(l:LN0):(((l.zipIdx.map λx=>(x.2,x.1)).filter λ(x:NN0)=>decide ((x.2:Int)=0)).map λx=>x.1)=oz l:=by rw[VL l λy=>decide ((y:Int)=0)];apply jt;ext i _;rw[cE,cj,eU];simp
instance [T:Tx Z]:bt "empty_cells" 1 (b7 Qi):=by
 show bC 51 ["standing","cell","pallet"] 1 (λ_ b d=>pR (dg [1,2] b (kx (ay W)) (λ_=>(dy 2 (bG aL (bG aL du)))) (λ_=>(eV (bI dG W ai))) (λ_=>W))) ?_;ext l c;show aA (eJ (kf O) (λ(x:NN0)=>decide ((x.2:Int)=0)) (λx=>x.1) (λa _=>⟨_,ef aJ aJ,by walk_at "ev",λ_=>O⟩) ?_) ⟨(),B,λG v r=> ?_⟩
 ·rw[wj];show cN (nh c)
 ·rw[RK] at r;show r
abbrev Jp:Bool×LN0->Ct:=λ(a,d)=>P1 [.im (bif a then l9 b0 else aB) d] (∀c∈d,c<1000) b0 (d1 d)
def UH{l:LN0}(h:l[i]? =J c):d1 (l.take (i+1))=d1 (l.take i)||| 2^c:=by rw[take_snoc h,d1,d1,mM];rfl
def IW{a:TI}{l:LN0}(x:En)(h:y8 M [x, .im b0 0, .no] a b0 l)(e:∀c∈l,c<1000){b:Out->Prop}(q:b (.rt M b0 (d1 l))):
 b9 M [x, .im b0 0, .no] (E1 (M4 a (p9 2) (V2 1 (d9 (K8 W0 λi j=> .int (i*2^j.toNat)) (j8 (.int 1)) (p3 2)) (i5 λi j=> .int (qx i j)))) (E3 (p3 1))) b:=by
 show aE (hB (λ_=>M) (λi=> [x, .im b0 (d1 (l.take i)), .no]) h B (Le.refl _) (λi c d=>⟨_, [2],aJ,?_⟩) ?_)
 ·let f:=e c (cD d);show wm B (N.eq (pz aw (aq O) ⟨∅,⋯,∅⟩) (qP c)) ?_ ⟨B, .eq (.eq (.no .nil))⟩;rw[UH d];show MI _ _
 ·rw[fe];show aA O q
instance [T:Tx Z]:bt "mask_of" 1 (b7 Jp):=by
 let⟨f,d,F,n⟩:=T.f ("mask_of",4) (by decide+kernel);let S:md ["cells","mask","cell"] ["cells"] (k8 (top 4)):=by walk_at "s"
 show⟨["cells"],f,d,Cz F S (λ_=>B) ?_,kW T.X T.G n,F.kp,F.binds λ_ _ _ _ _ _=>xW λ_=>rfl⟩;ext⟨b,l⟩ e A a s H E c h;cases b with
 | false=>let g:=S.nd;show⟨_,(aO ai∘dI (cf W) aL (bP (tY (bw pk ai W) MW))∘bP (qV W)),?_⟩;show aE (iQ (dD B) (IW _ (bX O) c ⟨(),B,λG v r=>r⟩))
 | true=>let g:=S.nd;show⟨_,(aO ai∘dI (Yz B W) aL (bP (tY (bw pk ai W) MW))∘bP (qV W)),?_⟩;show aE (iQ (dD B) (IW _ (abg O) c ⟨(),B,λG v r=>r⟩))
def j7(m:Nat):Nat:=qf (m:Int)
def BR(h:m.testBit c=aa):c<j7 m:=by
 have a:m≠0:=⋯;delta j7 qf;rw[aj ∅,XR];have:2^c<=m:=by
  cases q:2^c<=m
  ·show q
  ·rw[Nat.testBit_lt_two_pow ∅] at h;cases h
 let b:c<=m.log2:=(Nat.le_log2 a).2 this
 cbv
abbrev HQ(m:Nat):Ct:=P1 [.im b0 m] (j7 m<1000) aB (o5 m (j7 m))
def BS(m k:Nat):decide (kR ((m:Int)/2^((k:Int).toNat)) 1=1)=m.testBit k:=by rw[Mg];cases m.testBit k<;>simp
def Xy(m k:Nat):decide (kR ((m:Int)/2^((k:Int).toNat)) 1=0)= !m.testBit k:=by rw[Mg];cases m.testBit k<;>simp
instance [T:Tx Z]:bt "cells_of" 1 (b7 HQ):=by
 show bC 5 ["mask","cell"] 1 (λ_ b e=>pR (dg [1] b (sk B gc (ay (BF (K:=Z.K) B PySem.F.plainAttrs_int PySem.F.slot_int_bit_length PySem.F.type_int_bit_length Zd W))) (λ_=>aL) (λ_=>(eV (bI dG (bw px (bw tu W W) ai) ai))) (λ_=>W))) ?_;ext m c;let d:j7 m<1000:=c;show aA (eJ (sV (aq (LV (aq O))) (by change j7 m<_;lk)) (λk=>m.testBit k) (λk=>k) (λa _=>⟨_,aJ,b4.eq ?_ (BS m a),λ_=>O⟩) ?_) ⟨(),B,λG v r=> ?_⟩
 ·walk_at "ev"
  cbv
 ·rw[fm];show cN (nh d)
 ·rw[ng] at r;show r
def Ag(h:N M U t b0 m)(a:j7 m<1000):N M U (v9 (b7 HQ) [] E0 (b8 t c7)) aB (o5 m (j7 m)):=
 wL m () (df h dn) a B (λ_=>B) (λ_=>B)
abbrev RU(l:LN0):Ct:=P1 [.im aB l] (⇑l<=2000) e7 (!decide l.Nodup)
def Ls(l:LN0):(!decide ((((me (λi=>(l.map λ(n:Nat)=>(n:Int)).getD i 0) ⇑l).length:Nat):Int)=(⇑l:Int)))= !decide l.Nodup:=by congr 1;have:=Wd l;rw[aF] at this;rw[cE,cj,cj,<-this];lk
instance [T:Tx Z]:bt "has_twice" 1 (b7 RU):=by show bC 65 ["row"] 1 (λ_ b c=>pR (fN gG (dj Jj (ay (ky (Np (K:=Z.K) B B) (ay W)))) (cb W))) ?_;ext l a;let d: ⇑l<=2000:=a;show aA (N.eq (fK (aq (LS (MZ O ⋯))) (aq (bU O))) (Ls l))
def J4(n:Nat)(a:LN0):Bool:=decide (⇑a % 2=0) && a.all λc=>decide (c<n)
abbrev OJ:Nat×LN0->Ct:=λ(a,c)=>P1 [.im b0 a, .im aB c] (⇑c<=2000) e7 (J4 a c)
def Tq(l:Y a)(p:a->Bool):(l.map p).all id=l.all p:=⋯
def vr(l:Y a)(p:a->Bool):(l.map p).any id=l.any p:=⋯
def dec_lt(a b:Nat):decide ((a:Int)<(b:Int))=decide (a<b):=∅
def Cg(a b:Nat):decide ((a:Int)<=(b:Int))=decide (a<=b):=∅
def Ng(a b:Nat):(!decide ((a:Int)=(b:Int)))=decide (a≠b):=⋯
def Cj(a b:Nat):decide ((a:Int)=(b:Int))=decide (a=b):=⋯
instance [T:Tx Z]:bt "is_row_of_shifts" 1 (b7 OJ):=by
 show bC 52 ["cell_count","numbers","cell"] 2 (λ_ a e=>pR (nN (fN dG (bw Cd (cb W) ai) ai) (gE (dj (BQ (K:=Z.K) B B) (ay (dg [2] a (cf W) (λ_=>aL) (λ_=>d_) (λ_=>(fN gH W W)))))))) ?_;ext⟨n,l⟩ b;let d: ⇑l<=2000:=b;show aA (N.eq (nQ (c:=decide (⇑l % 2=0)) (N.eq (dP (xb (aq (bU O)) aw ∅) aw) ?_) λ_=>xf (ei (bX O) (λc=>decide (c<n)) (λc _=>⟨_,aJ,N.eq (by walk_at "ev") (dec_lt c n)⟩) ?_)) ?_)
 ·lk
 ·show cN d
 ·rw[Tq];rfl
def f6(l:LN0):Y NN0:=(bR (⇑l/2)).map λi=>(l.getD (2*i) 0,l.getD (2*i+1) 0)
abbrev RS(l:LN0):Ct:=P1 [.im aB l] (⇑l<=20000000/\ ⇑l % 2=0) (eList cV) (f6 l)
def pairs_len(l:LN0): ⇑(f6 l)=⇑l/2:=by delta f6;simp
instance [T:Tx Z]:bt "shifts_of" 1 (b7 RS):=by
 show bC 53 ["numbers","at"] 1 (λ_ e g=>pR (dg [1] e (vC B gc (c_ ai (cb W) ai)) (λ_=>aL) (λ_=>d_) (λ_=>(fI (bc (aI W W) (aI W (bw fJ W ai))))))) ?_;ext l b;replace b: ⇑l<=20000000/\ ⇑l % 2=0:=b;let⟨h,j⟩:=b;show aA (ei (er:=cV) (wF (n:=⇑l/2) aw (aq (bU O)) aw ?_) (λ(i:Int)=>(l.getD i.toNat 0,l.getD (i.toNat+1) 0)) (λa f=>⟨_,aJ,?_⟩) ?_) ⟨(),B,λG v r=> ?_⟩
 ·have:=Nq (j:=⇑l) (c:=2) ∅ ∅ ⋯;rw[show(⇑l+2-1)/2=⇑l/2 by lk] at this;show this
 ·let⟨i,d,rfl⟩:=a_.1 f;let d:=dR.1 d;let c:(0+(i:Int)*2)=((2*i:Nat):Int):=⋯;rw[c,fo];show g_ (cw O O (at_getD ⋯)) (cw O (fj O aw) ?_);show at_getD (i:=2*i+1) ⋯
 ·rw[aF,fm];show cN (show _<=10000000 by lk)
 ·rw[bS] at r;show(congrArg (λx=>(eList cV).rep G v x) (?_:_=f6 l)).mp r;delta f6;apply iV;ext i _;let c:(0+(i:Int)*2)=((2*i:Nat):Int):=⋯;erw[gk,c,fo]
def B0(a:LL0)(s:LN0)(x:NN0):Bool:=(a.getD x.1 []).contains x.2 && (s.getD x.1 0 !=0 && s.getD x.2 0==0)
def D6(s:LN0)(x:NN0):LN0:=(s.set x.2 (s.getD x.1 0)).set x.1 0
abbrev Qj:LL0×LN0×NN0->Ct:=λ(a,c,d)=>P1 [.im ej a, .im aB c, .im cV d] (⇑c=⇑a/\d.1<⇑a/\d.2<⇑a) e7 (B0 a c d)
instance [T:Tx Z]:bt "can_be_done" 1 (b7 Qj):=by
 refine bC 54 ["neighbours","standing","shift"] 3 (λ_ d e=>pR (nN (wz (vm (K:=Z.K) B) (dm W ai) (aI W (dm W ai)) B) (nN (fN gG (aI W (dm W ai)) ai) (gE (fN dG (aI W (dm W ai)) ai))))) ?_;ext⟨a,st,x⟩ b;replace b: ⇑st=⇑a/\x.1<⇑a/\x.2<⇑a:=b;let⟨f,c,g⟩:=b;show aA (N.eq (nQ (tK (mh O) (cw O (aq (jH O)) (at_getD (d:= []) c))) λ_=>nQ (fK (aq (cw O (aq (jH O)) (at_getD (d:=0) ∅))) aw) λ_=>
  dP (aq (cw O (aq (mh O)) (at_getD (d:=0) ∅))) aw) ?_)
 change _=B0 a st x;delta B0;congr 1;rw[cE];simp
def f9(a:LL0):LL0->Y NN0->LL0
 | L, []=>L
 | L,x::r=>if B0 a (L.getLastD []) x=aa then f9 a (L++ [D6 (L.getLastD []) x]) r else L
abbrev OP:LL0×LN0×Y NN0->Ct:=λ(a,c,d)=>P1 [.im ej a, .im aB c, .im (eList cV) d] (⇑c=⇑a/\(∀y∈d,y.1<⇑a/\y.2<⇑a)/\ ⇑d<16000000) ej (f9 a [c] d)
def z_:∀(a:Y NN0) (L:LL0) (i:Nat),i<= ⇑a-> ⇑(f9 kN L (a.take i))=⇑L+i->f9 kN L a=f9 kN (f9 kN L (a.take i)) (a.drop i)
 | a,L,0,_,_=>by rw[kS,zO,f9]
 | [],L,i+1,h,_=>∅
 | y::a,L,i+1,h,b=>by
   rw[Vy,List.drop_succ_cons];rw[Vy,f9] at b;rw[f9,f9];cases q:B0 kN (L.getLastD []) y=aa
   ·rw[ar q] at b;rw[ar q,ar q];show z_ a _ i ∅ ⋯
   ·rw[aj q] at b;cbv
def Uo{a:LL0}{b:Y NN0}{L:LL0}{i:Nat}{x:NN0}(h:b[i]? =J x)(c: ⇑(f9 a L (b.take i))=⇑L+i):
 f9 a L (b.take (i+1))=f9 a (f9 a L (b.take i)) [x]:=by
 let d:i<⇑b:=(dZ.1 h).1;let e:(b.take (i+1)).take i=b.take i:=⋯;have:=z_ (kN:=a) (b.take (i+1)) L i ⋯ ∅;rw[this,e];congr 1;rw[take_snoc h,List.drop_append_of_le_length ⋯,rG ⋯];rfl
def Um{a:LL0}{b:Y NN0}{L:LL0}{i:Nat}{x:NN0}(h:b[i]? =J x)(d: ⇑(f9 a L (b.take i))=⇑L+i)(e:B0 a ((f9 a L (b.take i)).getLastD []) x=ak):
 f9 a L b=f9 a L (b.take i):=by
 let c:=dZ.1 h;rw[z_ b L i (nh c.1) d,lB c.1,c.2,f9,aj ∅]
instance [T:Tx Z]:bt "standings_along" 2 (b7 OP):=by
 show bC 55 ["neighbours","standing","shifts","along","shift","after"] 3 (λ_ I C=>aO (aY (ay (ky (sL (K:=Z.K) B) (ay W))))∘dI (cf W) aL (bx (hE (b_ (aR C (c_ W (aI W (fx fH ai)) W)))) (bP JY) bB∘aO (ky (sL (K:=Z.K) B) (ay (aI W (fx fH ai))))∘Cb (aI W (dm W ai)) (Cc W (dm W ai) set_list)∘Cb ai (Cc W (dm W ai) set_list)∘bP (fh (eX (K:=Z.K) B eB kE kD kb W (ay W))))∘pR W) ?_;ext⟨a,st,b⟩ k;replace k: ⇑st=⇑a/\(∀y∈b,y.1<⇑a/\y.2<⇑a)/\ ⇑b<16000000:=k;let⟨D,E,Q⟩:=k;show aE (eh (iu (bj (sv O) bN) (by change 1<=aV;decide)) λp=> ?_);show aE (k_ (λi c d=>c= [c8 p aB (f9 a [st] (b.take i))]/\d= [.im ej a, .im aB st, .im (eList cV) b, .im b6 p, .no, .no]/\ ⇑(f9 a [st] (b.take i))=i+1/\(∀y∈f9 a [st] (b.take i),⇑y=⇑a)) (bX O) ⟨_,Le.refl _,?_,B,?_,?_⟩ ?_ ?_)
 ·rw[kS];rfl
 ·rw[kS];rfl
 ·rw[kS];ext y e;simp[f9] at e;rw[e];show D
 ·ext i x c d h ⟨rfl,rfl,l,e⟩;let⟨m,n⟩:=E x (cD h);let hi:i<⇑b:=(dZ.1 h).1;generalize t:f9 a [st] (b.take i)=L at l e;obtain⟨o,u,rfl⟩:∃o u,L=o++ [u]:=⟨L.dropLast,L.getLastD [],by have:L≠ []:=⋯;rw[jP,DU this,mP,xZ]⟩;let w: ⇑u=⇑a:=e u ⋯;let g: ⇑(f9 a [st] (b.take i))=⇑[st]+i:=⋯;let j:=Uo h g;let H:(o++ [u]).getLastD []=u:=⋯;rw[t,f9,f9,H] at j;show⟨_, [4],aJ,aE (bZ (fi (eI (eC (_,u,_) (a3 O (xc (j:=0) B O (fX aw) (kg ⋯)) O) ⟨w,m,n⟩))) (λf=> ?_) (λf=> ?_))⟩
  ·let f:B0 a u x=false:=by simpa using f
   show AZ (gr (j:=0) (i:=3) B B (aA O ⟨(),B,λG v r=> ?_⟩));let A:=Um h g ∅;rw[t] at A;change ej.rep G v (f9 a [st] b);rw[A];show r
  ·have f:B0 a u x=true:=by simpa using f
   rw[ar f] at j;show cA (aE (eh (UC (xc (j:=0) B O (fX aw) (kg (b:=u) ⋯))) λq=> ?_));show aE (Ll (j:=1) (i:=x.2) (xc (j:=1) B O (aq (jH O)) (at_getD (d:=0) ∅)) O B (aq (mh O)) ∅ ?_);show aE (Ll (j:=1) (i:=x.1) (dD B) O B (aq (jH O)) ∅ ?_);show gr (j:=1) (i:=5) B B (lT (j:=0) O B O ?_ ⟨_, .eq (.eq (.eq (.eq (.no (.no .nil))))),?_,B,?_,?_⟩)
   ·rw[l,bM];lk
   ·rw[j];rfl
   ·cbv
   ·rw[j];ext y s;obtain z| z:=dc.1 s
    ·show e y z
    ·simp at z;rw[z];delta D6;simp[w]
 ·ext c d ⟨rfl,rfl,l,e⟩;rw[fe];show gr (j:=0) (i:=3) B B (aA O)
abbrev DZ:Nat×LN0->Ct:=λ(a,c)=>P1 [.im b0 a, .im aB c] (⇑c<=1000) b0 ((iX a c).getD 0)
instance [T:Tx Z]:bt "why_no_standing" 1 (b7 DZ):=by
 show bC 50 ["cell_count","numbers","pallets","number","pallet"] 2 (λ_ f i=>hX 2 [3] f (cf W) (λ_=>aL) (λ_=>(eV (bI gG W ai))) (λ_=>W)∘bx (bI gG (cb W) W) (pR ai) bB∘bx (b_ (dj (wO (K:=Z.K) B B) (ay (dg [4] f (cf W) (λ_=>aL) (λ_=>d_) (λ_=>(fN kl W dr)))))) (pR ai) bB∘bx (bI gG (dj Jj (ay (ky (Np (K:=Z.K) B B) (ay W)))) (cb W)) (pR ai) bB∘bx (hE (oT hW hW ai (bw jG (cb W) (cb W)) dr)) (pR ai) bB∘pR ai) ?_;ext⟨n,l⟩ b;dsimp only[DZ] at b⊢;let g:((l.filter λ(x:Nat)=> !decide ((x:Int)=0)).map λx=>x)=l.filter λp=>p !=0:=by rw[ng];apply jt;ext x _;rw[cE];simp
 let j:=OW l;show bo (N.eq (eJ (bX O) (λ(x:Nat)=> !decide ((x:Int)=0)) (λx=>x) (λa _=>⟨_,aJ,by walk_at "ev",λ_=>O⟩) (cN b)) g) ?_;let c: ⇑(l.filter λp=>p !=0)<=1000:=da (jq _ _) b;delta iX;show aE (bZ (b:=decide (⇑l≠n)) (b4.eq (bh (fK (aq (bU O)) (aq O))) (Ng _ _)) (λh=> ?_) (λh=>cA ?_))
 ·rw[ar ∅];show aA aw
 rw[aj ∅];show aE (bZ (b:=l.any λp=>decide (GarStand.PALLETS<p)) (b4.eq (eI (tF (ei (bX O) (λ(x:Nat)=>decide ((99:Int)<(x:Int))) (λa _=>⟨_,aJ,by walk_at "ev"⟩) (cN c)))) ?_) (λh=> ?_) (λh=>cA ?_))
 ·rw[vr,cE,iC,iC];erw[cz,ju,bne_iff_ne];walk
  ·ext⟨x,⟨d,_⟩,e⟩;show⟨x,d,by change 99<x;lk⟩
  ·ext⟨x,d,e⟩;let e:99<x:=e;show⟨x,⟨d,⋯⟩,⋯⟩
 ·rw[ar h];show aA aw
 rw[aj ⋯];show aE (bZ (b4.eq (bh (fK (aq (LS (MZ O ⋯))) (aq (bU O)))) (Ls _)) (λh=> ?_) (λh=>cA ?_))
 ·rw[aj ∅];show aA aw
 rw[ar ∅];show aE (bZ (b:=decide (⇑(oz l)=0\/yV<⇑(oz l))) (b4.eq (fi (bh (lR aw (jb (aq (bU O)) (aq (bU O))) aw))) ?_) (λh=> ?_) (λh=>cA ?_))
 ·rw[cE];erw[yY,Tz,EU,ju];change _↔(_\/3<_);lk
 ·rw[ar ∅];show aA aw
 ·rw[aj ⋯];show aA aw
abbrev sh:Nat×Nat×Known×Pl->Ct:=λ(a,c,d,g)=>P1 [.im (x9 a c) d, .im (d5 a c) g] (Ok a c g) b5 (bq (aT a d g))
instance [T:Tx Z]:bt "price_of" 1 (b7 sh):=by show bC 8 ["prices","place"] 2 (λ_ i d=>pR (aI (aI W (dm W ai)) (dm W ai))) ?_;ext⟨n,e,k,q⟩ a;dsimp only[sh] at a⊢;show MA (i:=0) B λh c=> ?_;let d:=lh a;let f:(rowsOf n e).idxOf q.holes<⇑(rowsOf n e):=qc d;let g:=c.at_ _ q.holes q.car (ke d) a.car;rw[aj a.ne] at g;let b:=c.row _ (by rw[c.len];show f);show aA (cw (cw O (aq (mh (iT O))) (at_getD (by rw[c.len];show f))) (aq (jH (iT O))) (by rw[<-g];show at_getD (show q.car<⇑(h.getD ((rowsOf n e).idxOf q.holes) []) by rw[b];show a.car))) ⟨(),B,λ_ _ r=>r⟩
def Y_(h:∀c∈r,c<n):nextOf r<=n:=by
 delta nextOf;cases e:r.getLast? with
 | none=>show eT _
 | some x=>show h x (List.mem_of_getLast? e)
abbrev Ff:NN0->Ct:=λ(a,c)=>P1 [.im b0 a, .im b0 c] (a<=20/\c<=3) (eList (l9 b0)) (rowsOf a c)
instance [T:Tx Z]:bt "rising_rows" 1 (b7 Ff):=by
 show bC 6 ["cell_count","length","rows","step","longer","row","least","cell"] 2 (λ_ m a=>aO (aY (ay (fI cQ)))∘dI (sk B gc (ay W)) aL (aO (aY cQ)∘dI (cf W) aL (aO (il (bI kl W ai) (bw fJ (dm W (bw jG W ai)) ai) ai)∘bP (fh (eX (K:=Z.K) B eB mH mG lU W (ay (dg [7] m (Uv B gc (bc W W)) (λ_=>aL) (λ_=>d_) (λ_=>(bw (UA (K:=Z.K) B) W (fI (ay W)))))))))∘bP (aO W))∘pR W) ?_;ext⟨n,e⟩ o;let⟨k,v⟩:=o;show aE (iQ (cv (e:=l9 b0) (bj (LP bN ∅) bN) ⋯) ?_);show aE (hB (λ_=> []) (λi=> [.im b0 n, .im b0 e, .im (eList (l9 b0)) (rowsOf n i), .no, .no, .no, .no, .no]) (sV (aq O) ⋯) B ?_ (λi x b=>⟨_, [3],aJ,?_⟩) ?_)
 ·rw[IA];show Le.refl _
 ·have q:i<e:=by have:=(dZ.1 b).1;simpa using this
  let c:x=i:=by rw[yI q] at b;show(bu b).symm
  subst c;show aE (eh (iu (e:=l9 b0) bN ∅) λp=> ?_);show aE (hB (λj=> [c8 p (l9 b0) (((rowsOf n x).take j).flatMap (L4 n))]) (λj=> [.im b0 n, .im b0 e, .im (eList (l9 b0)) (rowsOf n x), .im b0 x, .im b6 p, .no, .no, .no]) (bX O) ∅ (Le.refl _) (λj r a=>⟨_, [5],aJ,?_⟩) ?_)
  ·have d:=iZ.1 (cD a);let l: ⇑((rowsOf n x).take (j+1))*20<=160000:=by have:=ni k (show x<=3 by lk);rw[gw];lk
   show bo (e:=b0) (b:=nextOf r) ?_ ?_
   ·obtain z| ⟨f,y,z⟩:=List.eq_nil_or_concat r
    ·subst z;let g:x=0:=d.2.1.symm;subst g;show N.eq (gs (c:=ak) (b4.eq (bh (jg (aq O) aw)) B) (λh=>nomatch h) (λh=>dD (n:=0) B) (x:=0)) B
    ·rw[List.concat_eq_append] at z;subst z;let s: ⇑f+1=x:=∅;let t:nextOf (f++ [y])=y+1:=by delta nextOf;simp
     rw[t];show N.eq (gs (c:=aa) (x:=y+1) (y:=0) (b4.eq (bh (jg (aq O) aw)) ⋯) (λh=>N.nat (fj (aq (pA (b:=y) O (jb (aq O) aw) ?_)) aw) ∅) (λh=>nomatch h)) B;rw[show(x:Int)-1=((⇑f:Nat):Int) by lk];show fM ⋯
   ·show lS (j:=0) O B (N.eq (ei (er:=l9 b0) (Zs (aq O) (aq O) ?_ ?_) (λy=>r++ [y]) (λy _=>⟨_,aJ ∅,Xp O (LP (bj O bN) (by change 1<=aV;decide)) ∅ ?_⟩) ?_) (show _=L4 n r from B)) ?_ ⟨?_,?_⟩
    ·have:=Y_ d.2.2;lk
    ·lk
    ·rw[bM,d.2.1];simp;lk
    ·rw[yN];show cN (show _<=20 by lk)
    ·let w: ⇑(((rowsOf n x).take j).flatMap (L4 n))<= ⇑((rowsOf n x).take j)*n:=iH λr _=>Bi n r;let A:=Bi n r;let u: ⇑((rowsOf n x).take j)<=8000:=⋯;let C: ⇑((rowsOf n x).take j)*n<=8000*20:=Nat.mul_le_mul u k;rw[bM];lk
    ·rw[take_snoc a,jr,lE];rfl
    ·show .eq (.eq (.eq (.eq (.eq (.no (.no (.no .nil)))))))
  ·rw[fe,<-IC];show gr (j:=0) (i:=4) B B (iQ O ⟨B,?_⟩);show .eq (.eq (.eq (.no (.no (.no (.no (.no .nil)))))))
 ·rw[fm];show aA O
abbrev HP:Nat×Nat×LN0->Ct:=λ(a,c,d)=>P1 [.im b0 a, .im b0 c, .im aB d] (a<=20/\ ⇑d<=1000) e7 (x8 a c d)
instance [T:Tx Z]:bt "is_place" 1 (b7 HP):=by
 show bC 3 ["cell_count","car","holes","cell"] 3 (λ_ l m=>bx (l4.pt (je (hE (oT hW hW ai (cb W) dr)) (lb (BA (vm (K:=Z.K) B) W W B)))) (pR rd) bB∘bx (b_ (dj (wO (K:=Z.K) B B) (ay (dg [3] l (cf (bw gF (aY (ay W)) W)) (λ_=>aL) (λ_=>d_) (λ_=>(fN lq W W)))))) (pR rd) bB∘pR (fN (sS (K:=Z.K) B m.units) W (dj (aau (P:=Z.P) (w:=Z.w) B B B) (dM (ky (abK (K:=Z.K) (P:=Z.P) (w:=Z.w) B B B B) (ay W)) cQ)))) ?_;ext⟨n,c,h⟩ k;dsimp only[HP] at k⊢;let s:n<=20:=k.1;show aE (bZ (hJ (fi (bh (lR aw (aq (bU O)) aw))) λ_=>bh (tK O O)) (λb=> ?_) (λb=>cA ?_))
 ·refine aA oZ ⟨(),B,λG v r=> ?_⟩;have:x8 n c h=false:=by
   rw[GJ,Ne,oV];ext⟨o,p,f⟩;simp at b;obtain b| b:=b
   ·lk
   ·show f.ne b
  rw[this];show r
 let a:1<= ⇑h/\ ⇑h<=3/\c∉h:=⋯;show aE (bZ (b4.eq (eI (tF (ei (bX (fY (cv (bj O bN)) O ?_)) (λx=>decide (n<=x)) (λx _=>⟨_,aJ,N.eq (km (aq O) (aq O)) (Cg n x)⟩) ?_))) (vr _ _)) (λd=> ?_) (λd=>cA ?_))
 ·rw[bM];simp;lk
 ·rw[bM];simp;lk
 ·refine aA oZ ⟨(),B,λG v r=> ?_⟩;have:x8 n c h=false:=by
   rw[GJ,Ne,oV];ext⟨o,p,f⟩;let⟨x,g,i⟩:=iC.1 d;let i:n<=x:=∅;obtain z| z:=cp.1 g
   ·let q:c<n:=f.car;lk
   ·let q:x<n:=f.lt x z;lk
  rw[this];show r
 let e:∀x∈c::h,x<n:=λx g=>⋯;let j:∀x∈h,x<n:=λx g=>e x ∅;show aA (tE O (Td (ZE O a.2.1 λx g=>⋯) (zd n h) (Fx j))) ⟨(),B,λG v r=> ?_⟩;have:x8 n c h=decide (h=R5 n h):=by rw[cE,oV,cj,Rq j];show⟨λz=>z.2.2.asc,λz=>⟨a.1,a.2.1,⟨e c ∅,B,z,j,a.2.2⟩⟩⟩
 rw[this];show r
abbrev DX:ab×LL0×Nat×LN0->Ct:=λ(a,c,d,g)=>P2 [rObj a Z.CM (T6 c d)] [.im b6 a, .im ej c, .im b0 (d1 g)] (dH c/\g∈rowsOf ⇑c d) (eList fb) (D5 c d g)
def abB(h:LN0)(c:Nat):decide (kR ((d1 h:Int)/2^((c:Int).toNat)) 1=1)=h.contains c:=by rw[BS,gY,cE,cj,kG]
def Mf(h:LN0)(c:Nat):decide (kR ((d1 h:Int)/2^((c:Int).toNat)) 1=0)= !h.contains c:=by rw[Xy,gY];congr 1;rw[cE,cj,kG]
def TQ{h:LN0}(a:h.contains i=ak)(b:h.contains j=aa):mU (mU (d1 h:Int) (1*2^((i:Int).toNat))) (1*2^((j:Int).toNat))=(d1 (n0 h ⟨i,j⟩):Int):=by rw[qP,qP,wk,wk,SK ∅ ∅]
def JX(h:(bR n)[i]? =J x):x=i/\i<n:=⋯
instance [T:Tx Z]:fk Z.CM "shifts_from" 1 (b7 DX):=by
 show(eZ 1 2 1 "Maze.shifts_from" ["self","neighbours","mask","shifts","start","end","after"] 3 (λ_ w m=>aO (aY cQ)∘dI (sk B gc (ay (ba W))) aL (bP (bx (bI dG (bw px (bw tu W W) ai) ai) (bP (dI (cf (aI W W)) aL (bP (bx (bI dG (bw px (bw tu W W) ai) ai) (aO (bw w_ (bw w_ W (bw pk ai W)) (bw pk ai W))∘bP (fh (eX (K:=Z.K) B eB kE kD kb W (ay (fI (c_ W W (tX m.hu (ba W) W))))))) bB)))) bB))∘pR W) ?_).1;ext⟨p,b,e,h⟩ n;let⟨a,o⟩:=n;let l:=a.len;show aE (eh (iu (e:=fb) bN ∅) λq=> ?_);show aE (hB (λi=> [rObj p Z.CM (T6 b e),c8 q fb ((bR i).flatMap (A6 b e h))]) (λi=> [.im b6 p, .im ej b, .im b0 (d1 h), .im b6 q, .no, .no, .no]) (sV (aq (cF (j:=0) B O)) ⋯) B (Le.refl _) (λi x r=>⟨_, [4],aJ,?_⟩) ?_)
 ·let⟨rfl,s⟩:=JX r;let z: ⇑((bR x).flatMap (A6 b e h))<=20*20:=by let t: ⇑((bR x).flatMap (A6 b e h))<= ⇑(bR x)*20:=iH λi _=>IL a e h i;rw[fm] at t;lk
  show bZ (b4.eq (bh (dP (o_ (tD (aq O) (aq O) ∅) aw) aw)) (Mf h x)) (λc=> ?_) (λc=>cA ⟨?_,?_⟩)
  ·have c:h.contains x=false:=by simpa using c
   let d:A6 b e h x=((b.getD x []).filter λj=>h.contains j).map λj=>(x,j,(rowsOf ⇑b e).idxOf (n0 h ⟨x,j⟩)):=by delta A6;rw[aj (by rw[c];decide)]
   show hB (λj=> [rObj p Z.CM (T6 b e),c8 q fb ((bR x).flatMap (A6 b e h)++(((b.getD x []).take j).filter λj=>h.contains j).map λj=>(x,j,(rowsOf ⇑b e).idxOf (n0 h ⟨x,j⟩)))]) (λj=> [.im b6 p, .im ej b, .im b0 (d1 h), .im b6 q, .im b0 x, .no, .no]) (bX (cw O (aq O) (at_getD (d:= []) s))) ⋯ (.eq (.eq (.eq (.eq (.eq (.no (.no .nil))))))) (λj y g=>⟨_, [5],aJ,?_⟩) ⟨?_,?_⟩
   ·have u:=a.aX.lt x y (cD g);let v:=a.row x;show bZ (b4.eq (bh (dP (o_ (tD (aq O) (aq O) ∅) aw) aw)) (abB h y)) (λk=> ?_) (λk=>cA ⟨?_,?_⟩)
    ·have f:=to_row o c k (cD g);show bo (N.nat (sY (sY (aq O) (pz aw (aq O) ⟨∅,⋯,∅⟩)) (pz aw (aq O) ⟨∅,⋯,∅⟩)) (TQ c k))<| lT (j:=1) O B (wJ O O (LU (N.dk (cF (j:=0) B O B)) (aq O) (MM f) λG=>B)) ?_ ⟨?_,?_⟩
     ·let A:((((b.getD x []).take j).filter λj=>h.contains j).map λj=>(x,j,(rowsOf ⇑b e).idxOf (n0 h ⟨x,j⟩))).length<=20:=by lk
      rw[bM,dA];lk
     ·rw[take_snoc g,lH,fB,fA,ar k,<-qk];rfl
     ·show .eq (.eq (.eq (.eq (.eq (.no (.no .nil))))))
    ·rw[take_snoc g,lH,fA,aj ⋯,Ic,eS]
    ·show .eq (.eq (.eq (.eq (.eq (.no (.no .nil))))))
   ·rw[fe,<-d,zH,jr,lE]
   ·show .eq (.eq (.eq (.eq (.no (.no (.no .nil))))))
  ·let c:h.contains x=true:=by simpa using c
   let d:A6 b e h x= []:=by delta A6;rw[ar c]
   rw[zH,jr,lE,d,eS]
  ·show .eq (.eq (.eq (.eq (.no (.no (.no .nil))))))
 ·rw[fm,<-Ir];show gr (j:=1) (i:=3) B B (aA O)
abbrev Ey:ab×LL0×Nat->Ct:=λ(a,c,d)=>{M:= [rObj a Z.CM []],U:= [.im b6 a, .im ej c, .im b0 d],pre:=dH c/\d<=3,kq0:=λ_=> [rObj a Z.CM (ae7 c d)],be0:=Unit,e:=A8,b:=λ_=>()}
def VT(l:LN0):((l.zipIdx.map λx=>(x.2,x.1)).map λ(x:NN0)=>(x.2,x.1))=l.zipIdx:=by rw[bS];show ng _
instance [T:Tx Z]:oj "Maze" Z.CM 2 (b7 Ey):=by
 show(eZ 0 2 0 "Maze.__init__" ["self","neighbours","hole_count","row","number","mask"] 3 (λ_ i g=>ez W (cb W)∘ez W W∘ez W (dg [3] i (cf (aR g (bc (ba W) W))) (λ_=>aL) (λ_=>d_) (λ_=>(aR g (ay W))))∘ez W (ky (abr (K:=Z.K) B B) (ay (dg [4,5] i (kx (ay (ba W))) (λ_=>(dy 2 (bG aL (bG aL du)))) (λ_=>d_) (λ_=>(fI (bc W W))))))∘bP (ez W (dg [5] i (cf (ba W)) (λ_=>aL) (λ_=>d_) (λ_=>(cT Z.CM g W (bc W W)))))) ?_).2 B;ext⟨p,d,e⟩ l;let⟨b,j⟩:=l;let k:=b.len;let f:=ni b.len j;show aE (eW (j:=0) (bU O) B O (el B) ?_);show aE (eW (j:=0) O B O (el B) ?_);show aE (eW (j:=0) (ei (er:=b0) (bX (eC (C:=Ff) (_,_) (a2 (cF (j:=0) B O) O) ⟨b.len,j⟩)) d1 (λr g=>⟨_,aJ,eC (C:=Jp) (aa,_) (a1 O) (λc m=> ?_)⟩) ?_) B O (el B) ?_)
 ·have:=(iZ.1 g).2.2 c m;lk
 ·show cN f
 show aE (eW (j:=0) (N.eq (Xn (ei (er:=cV) (kf (cF (j:=0) B O)) (λx=>(x.2,x.1)) (λx q=>⟨_,ef aJ aJ,g_ O O⟩) ?_)) (show _=U4 ⇑d e from ?_)) B O (el B) ?_)
 ·rw[wj,aF];show cN f
 ·rw[VT];show UD (by let n:((J2 ⇑d e).zipIdx.map (·.1))=J2 ⇑d e:=⋯;show n▸Gk ⇑d e)
 let s:T6 d e=_:=B;show eW (j:=0) (N.eq (ei (er:=eList fb) (bX (N.lp (e':=O6) d1 (cF (j:=0) B O) λG v a _ r=>r)) (D5 d e) (λh o=>⟨_,aJ,?_⟩) ?_) (show _=i8 d ⇑d e from B)) B O (el B) ⟨(),B,λG=>B⟩
 ·show KI (Ci:=DX) (p,d,e,h) () (j:=0) B O B (df O (df (N.mask O) dn)) B ⟨b,o⟩ B (λ_=>B) (λ_=>B)
 ·show cN f
abbrev QS:LL0×Nat×Pl->Ct:=λ(a,c,d)=>P1 [.im (cB Z.CM a c) (), .im b0 d.car, .im aB d.holes] (dH a/\Ok ⇑a c d) (d5 ⇑a c) d
instance [T:Tx Z]:fk Z.CM "place" 2 (b7 QS):=by show(eZ 2 2 2 "Maze.place" ["self","car","holes"] 3 (λ_ j d=>pR (fI (bc W (tX d.hu (ba W) (aR d (ay W)))))) ?_).1;ext⟨b,e,q⟩ h;let⟨a,f⟩:=h;let g:=a.len;show aA (g_ O (LU (N.dk (bJ O)) (aq (eC (ak,_) (a1 O) (λc i=>by have:=f.lt c i;lk))) (MM (lh f)) λG=>B))
def Th(a:h.Pairwise (·<·))(b:∀c∈h,c<n):o5 (d1 h) (j7 (d1 h))=h:=by
 show s_ (uB _ jQ) a λx=> ?_;delta o5;erw[cz,dR];walk
 ·ext⟨_,z⟩;rw[gY,cj] at z;show z
 ·ext z;have:(d1 h).testBit x=true:=by rw[gY,cj];show z
  show⟨BR this,this⟩
def vo(h:∀c,m.testBit c=aa->c<n):j7 m<=n:=by
 delta j7 qf;cases a:m=0
 ·subst a;simp
 ·rw[aj ∅,XR];have:=h m.log2 (Nat.testBit_log2 a)
  cbv
abbrev RV:LL0×Nat×Pl->Ct:=λ(a,c,d)=>P1 [.im (cB Z.CM a c) (), .im (d5 ⇑a c) d] (dH a/\Ok ⇑a c d/\c<=3) aB (fQ d)
instance [T:Tx Z]:fk Z.CM "tell" 2 (b7 RV):=by show(eZ 4 2 4 "Maze.tell" ["self","place"] 2 (λ_ j g=>pR (bw gF (aY (ay (dm W ai))) (aR g (ay (aI (ba W) (dm W ai)))))) ?_).1;ext⟨d,e,q⟩ h;let⟨a,b,k⟩:=h;let f:=a.len;let l:=vo λc i=>Zi b.lt c i;show aA (fY (cv (bj (jH (iT O)) bN)) (N.eq (Ag (cw (bJ O) (aq (mh (iT O))) (fM (Kn (lh b)))) ⋯) (Th b.asc b.lt)) ?_);rw[b.len,bM];simp;lk
/---/def toldP(n e:Nat)(l:LN0):az Pl:=if ⇑l=e+1/\x8 n (l.headD 0) (l.drop 1)=aa then J ⟨l.headD 0,l.drop 1⟩else ah
abbrev Eb:LL0×Nat×LN0->Ct:=λ(a,c,d)=>P1 [.im (cB Z.CM a c) (), .im aB d] (dH a/\ ⇑d<=1000) (Z1 ⇑a c) (toldP ⇑a c d)
def BM(h:0<⇑l):n4 l 0=J (l.headD 0):=by
 cases l with
 | nil=>simp at h
 | cons a l=>show fV B
instance [T:Tx Z]:fk Z.CM "place_told" 3 (b7 Eb):=by
 show(eZ 3 2 3 "Maze.place_told" ["self","numbers"] 2 (λ_ j f=>bx (l4.pt (je (bI gG (cb W) (bw fJ ai (ba W))) (lb (hE (b_ (aR f (c_ (ba W) (aI W ai) (kc (lX (K:=Z.K) B) W (iN ai) nB)))))))) (pR qX) bB∘pR (cT Z.CM f W (bc (aI W ai) (kc (lX (K:=Z.K) B) W (iN ai) nB)))) ?_).1;ext⟨b,e,l⟩ g;dsimp only[Eb] at g⊢;let⟨a,k⟩:=g;cases c: ⇑l=e+1
 ·refine aE (bZ (b:= !x8 ⇑b (l.headD 0) (l.drop 1)) (b4.eq (hJ (c:=ak) (b4.eq (bh (fK (aq (bU O)) (fj aw (aq (bJ O))))) ?_) λ_=>fi (eI (eC (_,_,_) (a3 (bJ O) (cw O aw (BM ∅)) (N.eq (nP O (iq aw) ma) (qM l 1))) ⟨a.len,⋯⟩))) ∅) (λh=> ?_) (λh=>cA ?_))
  ·simp;lk
  ·show aA nE ⟨(),B,λG v r=> ?_⟩;have:toldP ⇑b e l=none:=by delta toldP;rw[aj];ext⟨_,z⟩;rw[z] at h;simp at h
   rw[this];show r
  ·let d:x8 ⇑b (l.headD 0) (l.drop 1)=true:=by simpa using h
   have:toldP ⇑b e l=J ⟨l.headD 0,l.drop 1⟩:=by delta toldP;rw[ar ⟨c,d⟩]
   rw[this];let i:=(oV.1 d).2.2;rw[show ⇑(l.drop 1)=e by simp;cbv] at i;show aA (eM (_,_,⟨_,_⟩) O (a2 (cw O aw (BM ∅)) (N.eq (nP O (iq aw) ma) (qM l 1))) ⟨a,i⟩)
 ·refine aE (bZ (b:=aa) (b4.eq (hJ (c:=aa) (d:=aa) (b4.eq (bh (fK (aq (bU O)) (fj aw (aq (bJ O))))) ?_) λh=>nomatch h) B) (λh=> ?_) (λh=>nomatch h))
  ·simp;lk
  ·show aA nE ⟨(),B,λG v r=> ?_⟩;have:toldP ⇑b e l=none:=by delta toldP;rw[aj];ext⟨z,_⟩;show c z
   rw[this];show r
abbrev Ec:LL0×Nat->Ct:=λ(a,c)=>P1 [.im (cB Z.CM a c) ()] (dH a/\c<=3) (eList (d5 ⇑a c)) (cy ⇑a c)
def Cm(a:n<=20)(b:e<=3)(c:Nat): ⇑(((rowsOf n e).filter λr=> !r.contains c).map λh=>(⟨c,h⟩:Pl))<=8000:=by rw[aF];show da (jq _ _) (ni a b)
instance [T:Tx Z]:fk Z.CM "all_places" 1 (b7 Ec):=by
 show(eZ 5 2 5 "Maze.all_places" ["self","listed","car","number","mask"] 1 (λ_ k p=>aO (aY cQ)∘dI (sk B gc (ay (ba W))) aL (bP (fh (eX (K:=Z.K) B eB mH mG lU W (ay (dg [3,4] k (kx (ay (ba W))) (λ_=>(dy 2 (bG aL (bG aL du)))) (λ_=>(eV (bI dG (bw px (bw tu W W) ai) ai))) (λ_=>(fI (bc W W))))))))∘pR W) ?_).1;ext⟨d,e⟩ l;let⟨b,f⟩:=l;let j:=b.len;let g:=ni b.len f;show aE (eh (iu (e:=d5 ⇑d e) bN ∅) λq=> ?_);show aE (hB (λi=> [c8 q (d5 ⇑d e) ((bR i).flatMap λc=>((rowsOf ⇑d e).filter λr=> !r.contains c).map λh=>(⟨c,h⟩:Pl))]) (λi=> [.im (cB Z.CM d e) (), .im b6 q, .no, .no, .no]) (sV (aq (bJ O)) ⋯) B (Le.refl _) (λi x m=>⟨_, [2],aJ,?_⟩) ?_)
 ·let⟨rfl,s⟩:=JX m;show lS (j:=0) O B (N.eq (eJ (er:=d5 ⇑d e) (kf (N.lp (e':=O6) d1 (bJ O B) λG v a _ r=>r)) (λy=> !y.2.contains x) (λy=>(⟨x,y.2⟩:Pl)) (λy n=>⟨_,ef aJ aJ,b4.eq (bh (dP (o_ (tD (aq (N.mask O)) (aq O) ∅) aw) aw)) (Mf y.2 x),λ_=>(g_ O O).to λG v r=> ?_⟩) ?_) (Ya (λr=> !r.contains x) λh=>(⟨x,h⟩:Pl))) ?_ ⟨?_,?_⟩
  ·change cV.rep G v (x,(rowsOf ⇑d e).idxOf y.2);rw[(Yb n).2];show r
  ·rw[wj];show cN g
  ·let o:=iH (l:=bR x) (f:=λc=>((rowsOf ⇑d e).filter λr=> !r.contains c).map λh=>(⟨c,h⟩:Pl)) (k:=8000) λc _=>Cm b.len f c;let t:=Cm b.len f x;rw[fm] at o;rw[bM];lk
  ·rw[zH,jr,lE];rfl
  ·show .eq (.eq (.no (.no (.no .nil))))
 ·rw[fm,<-places_eq];show gr (j:=0) (i:=1) B B (aA O)
abbrev zm:LL0×Nat×Pl->Ct:=λ(a,c,d)=>P1 [.im (cB Z.CM a c) (), .im (d5 ⇑a c) d] (dH a/\Ok ⇑a c d) (eList (xi ⇑a c)) (T5 a d)
instance [T:Tx Z]:fk Z.CM "steps" 1 (b7 zm):=by
 show(eZ 6 2 6 "Maze.steps" ["self","place","car","start","end","after"] 2 (λ_ d i=>aO (dm W ai)∘pR (dg [3,4,5] d (cf (aI (ba W) (dm W ai))) (λ_=>(dy 3 (bG aL (bG aL (bG aL du))))) (λ_=>d_) (λ_=>(fI (c_ W W (fI (bc (il (bI dG W W) W W) W))))))) ?_).1;ext⟨c,e,q⟩ f;let⟨b,g⟩:=f;show bo (jH (iT O))<| aA (ei (bX (N.lp (e':=ai4 ⇑c e q.holes) (λx=>(x.from_,x.to_,(rowsOf ⇑c e).idxOf (n0 q.holes x))) (cw (bJ O) (aq (mh (iT O))) (fM (Rt (lh g)))) λG v a _ r=>r)) (λx=>(x.from_,x.to_,bH q x)) (λx j=>⟨_,qS (e:=b0) (f:=b0) (g:=b0) (a:=(x.from_,x.to_,(rowsOf ⇑c e).idxOf (n0 q.holes x))) aJ aJ aJ,?_⟩) ?_)
 ·show wJ O O ((g_ (gs (b4.eq (bh (dP (aq O) (aq O))) (Cj _ _)) (λ_=>O) (λ_=>O)) O).to λG v r=> ?_);change cV.rep G v (if q.car=x.from_ then x.to_ else q.car,(rowsOf ⇑c e).idxOf (n0 q.holes x));let h:(if decide (x.from_=q.car)=aa then x.to_ else q.car)=if q.car=x.from_ then x.to_ else q.car:=⋯;rw[<-h];show r
 ·have:=zU b e q.holes;delta D5 at this;rw[aF] at this;show cN this
abbrev DQ:LL0×Nat×LN0×LN0->Ct:=λ(a,g,h,i)=>{U:= [.im (cB Z.CM a g) (), .im aB h, .im aB i],pre:=dH a/\g<=3/\(∀c∈h,c<1000)/\∀c∈i,c<1000,ga0:=ab,kq0:=λd=> [j1 d (c0 (j3 h i (rowsOf ⇑a g)))],be0:=ab,e:=b6,b:=λd=>d}
def tq{b:Type}{l:Y b}{i:Nat}{x:Nat×b}(h:(l.zipIdx.map λx=>(x.2,x.1))[i]? =J x):l[i]? =J x.2/\x.1=i/\l.zipIdx[i]? =J (x.2,x.1):=by
 rw[cP,yw] at h;rw[yw];cases e:l[i]? with
 | none=>rw[e] at h;cases h
 | some a=>rw[e] at h;cases h;show⟨B,jZ i,B⟩
def aaz{n e i:Nat}{x:Nat×LN0}(h:((rowsOf n e).zipIdx.map λx=>(x.2,x.1))[i]? =J x):(rowsOf n e)[i]? =J x.2/\x.1=i:=⟨(tq h).1,(tq h).2.1⟩
instance [T:Tx Z]:fk Z.CM "places_that_meet" 2 (b7 DQ):=by
 show(eZ 8 2 8 "Maze.places_that_meet" ["self","goals","wanted","goal_mask","wanted_mask","layer","number","mask","cars"] 3 (λ_ C h=>aO (aR h (ay W))∘aO (aR h (ay W))∘aO vT∘dI (kx (ay (ba W))) (dy 2 (bG aL (bG aL du))) (aO (bw px W (fx aao W))∘bP (bx (l4.pt (nJ (bI dG (bw px W W) W) (ny (bI gG W ai)))) (bP (qR h.hu W W W B)) bB))∘pR W) ?_).1;ext⟨c,e,g,f⟩ l;let⟨b,n,o,s⟩:=l;let t:=ni b.len n;show bo (eC (ak,_) (a1 O) o)<| bo (eC (ak,_) (a1 O) s) ?_
 show aE (eh NB λd=> ?_);show aE (hB (λi=> [j1 d (c0 (j3 g f ((rowsOf ⇑c e).take i)))]) (λi=> [.im (cB Z.CM c e) (), .im aB g, .im aB f, .im b0 (d1 g), .im b0 (d1 f), .im b6 d, .no, .no, .no]) (kf (N.lp (e':=O6) d1 (bJ O) λG v a _ r=>r)) B (Le.refl _) (λi x w=> ?_) ?_)
 ·let⟨h,m⟩:=aaz w;let D:i<(rowsOf ⇑c e).length:=(dZ.1 h).1;let j:j3 g f ((rowsOf ⇑c e).take (i+1))=j3 g f ((rowsOf ⇑c e).take i)++if d1 x.2 &&& d1 f=d1 f/\p8 g x.2≠0 then [(i,p8 g x.2)] else []:=by rw[take_snoc h,RI,gw,uX ∅]
  show⟨_, [6,7],ef aJ aJ,bo (N.nat (n:=p8 g x.2) (o_ (aq O) (abn (aq (N.mask O)))) (bitAnd_not _ _)) ?_⟩;show bZ (b:=decide (d1 x.2 &&& d1 f=d1 f/\p8 g x.2≠0)) (b4.eq (jE (c:=decide (d1 x.2 &&& d1 f=d1 f)) (b4.eq (bh (dP (o_ (aq (N.mask O)) (aq O)) (aq O))) ?_) λ_=>bh (fK (aq O) aw)) ?_) (λk=> ?_) (λk=>cA ⟨?_,?_⟩)
  ·rw[BU,Cj]
  ·rw[cE];simp
  ·have k:=eN k;rw[ar k] at j;show Bz (j:=0) O O B (aq O) (λG u r=>r) ?_ ⟨?_,?_⟩
   ·rw[MV];have:=Hv g f ((rowsOf ⇑c e).take i);rw[gw] at this;rw[bM];lk
   ·rw[j,Zp,m,R3.sH]
    ·rfl
    ·ext q y z;let⟨p,l,rfl⟩:=a_.1 y;let A:=UM l;rw[gw] at A;let E:=vA z;lk
   ·show .eq (.eq (.eq (.eq (.eq (.eq (.no (.no (.no .nil))))))))
  ·lk
  ·show .eq (.eq (.eq (.eq (.eq (.eq (.no (.no (.no .nil))))))))
 ·rw[wj,fe];show aA O ⟨d,B,λ_ _ r=>r⟩
def DV(d:N M U t (cB Z.CM b e) ())(h:N M U u aB g)(i:N M U v aB f)(a:dH b)(j:e<=3)(k:∀c∈g,c<1000)(l:∀c∈f,c<1000):
 r8 M U (u5 Z.CM "places_that_meet" (b7 DQ) [] E0 t (b8 u (b8 v c7))) λp=>j1 p (c0 (j3 g f (rowsOf ⇑b e))):=
 YV (b,e,g,f) d B (df h (df i dn)) B ⟨a,j,k,l⟩ B λc G v r=>⟨c,r,B⟩
abbrev ym:LL0×Nat×ab×Y NN0×ab×LN0->Ct:=λ(a,c,g,h,i,j)=>{M:= [j1 g (c0 h),c8 i b0 j],U:= [.im (cB Z.CM a c) (), .im b6 g, .im b6 i],pre:=dH a/\c<=3/\ ⇑j=(rowsOf ⇑a c).length/\(∀p∈h,p.1<(rowsOf ⇑a c).length)/\ ⇑h<=8000,ga0:=ab,kq0:=λd=> [j1 g (c0 h),c8 i b0 (u1 (i8 a ⇑a c) h j).1,j1 d (c0 (u1 (i8 a ⇑a c) h j).2)],be0:=ab,e:=b6,b:=λd=>d}
def aan{a i j:Nat}:mU (mU (a:Int) (1*2^((i:Int).toNat))) (1*2^((j:Int).toNat))=((a^^^2^i^^^2^j:Nat):Int):=by rw[qP,qP,wk,wk]
instance [T:Tx Z]:fk Z.CM "next_layer" 1 (b7 ym):=by
 show(eZ 10 2 10 "Maze.next_layer" ["self","layer","unpriced","following","number","cars","start","end","after","moved"] 3 (λ_ nd hr=>aO vT∘wx (dI (vR W) (dy 2 (bG aL (bG aL du))) (bP (dI (cf (aI (ba W) W)) (dy 3 (bG aL (bG aL (bG aL du)))) (aO W∘bx (bI dG (bw px (bw tu W W) ai) ai) (bP (aO (bw w_ (bw w_ W (bw pk ai W)) (bw pk ai W)))) bB∘tY (aI W W) Zw∘bP (bx (bI gG W ai) (BB W W (AE (K:=Z.K) B) W LK set_list∘bP (qR hr.hu W W (bw abR (vU hr.hu W W ai ⟨B,B,B,B⟩) W) B)) bB)))))∘pR W) ?_).1;ext⟨g,e,d,f,u,t⟩ Q;dsimp only[ym] at Q⊢;let⟨b,he,hul,ji,ud⟩:=Q;let pX:=b.len;generalize v:i8 g ⇑g e=n;show aE (eh NB λa=> ?_);show let z:=λi=>(tasks n (f.take i)).foldl o3 (t, []);?_;show aE (AY (j:=0) f B (λo=>O) (λo i A C=>A= [o9 d o (.dK (c0 f)),c8 u b0 (z i).1,j1 a (c0 (z i).2)]/\C= [.im (cB Z.CM g e) (), .im b6 d, .im b6 u, .im b6 a, .no, .no, .no, .no, .no, .no]) ⟨_,Le.refl _,λo=>⟨B,B⟩⟩ (λo i A C h=>∅) ?_ ?_)
 ·ext o i ⟨k,c⟩ A C hx ⟨rfl,rfl⟩;let hk:k<(rowsOf ⇑g e).length:=ji _ (cD hx);let hzs:z (i+1)=((n.getD k []).map λs=>(c,s)).foldl o3 (z i):=by change(tasks n (f.take (i+1))).foldl o3 (t, [])=_;rw[take_snoc hx,Sh,mM]
  let ae_: ⇑(n.getD k [])<=400:=by rw[<-v];show He b e k
  let hki:k<⇑n:=by rw[<-v];delta i8;rw[aF];show hk
  have NY: ⇑(tasks n (f.take i))<=8000*400:=by
   let L: ⇑(tasks n (f.take i))<= ⇑(f.take i)*400:=by show iH λp Q=> ?_;rw[aF,<-v];show He b e p.1
   let h2: ⇑(f.take i)<=8000:=⋯;show da L (yz _ h2)
  show let y:=λj=>(((n.getD k []).take j).map λs=>(c,s)).foldl o3 (z i);?_;show⟨_, [4,5],ef aJ aJ,hB (λj=> [o9 d o (.dK (c0 f)),c8 u b0 (y j).1,j1 a (c0 (y j).2)]) (λj=> [.im (cB Z.CM g e) (), .im b6 d, .im b6 u, .im b6 a, .im b0 k, .im b0 c, .no, .no, .no, .no]) (bX (cw (bJ O) (aq O) (by rw[v];show at_getD (d:= []) hki))) B (Le.refl _) (λj s hs=> ?_) ⟨_, .eq (.eq (.eq (.eq (.no (.no (.no (.no (.no (.no .nil))))))))),?_,B⟩⟩
  ·let⟨st,m,l⟩:=s;let hm:=cD hs;rw[<-v] at hm;let⟨D,E,H⟩:=Ss b hm;let D:st<⇑g:=D;let E:m<⇑g:=E;let H:l<(rowsOf ⇑g e).length:=H;let I:y (j+1)=o3 (y j) (c,st,m,l):=by change(((n.getD k []).take (j+1)).map λs=>(c,s)).foldl o3 (z i)=_;rw[take_snoc hs,fB,mM];rfl
   let hyl: ⇑(y j).1=(rowsOf ⇑g e).length:=by rw[Hb];rw[Hb];show hul
   let hyf: ⇑(y j).2<=8000*400+400:=by let L:=Ge (((n.getD k []).take j).map λs=>(c,s)) (z i);let h2:=Ge (tasks n (f.take i)) (t, []);rw[aF,gw] at L;let h3: ⇑(z i).2<=0+⇑(tasks n (f.take i)):=h2;let h4: ⇑(y j).2<=_:=L;lk
   show⟨_, [6,7,8],qS aJ aJ aJ,bo O ?_⟩;show Ym (ρ':= [.im (cB Z.CM g e) (), .im b6 d, .im b6 u, .im b6 a, .im b0 k, .im b0 c, .im b0 st, .im b0 m, .im b0 l, .im b0 (l6 c st m)]) (bZ (b4.eq (bh (dP (o_ (tD (aq O) (aq O) ∅) aw) aw)) (BS c st)) (λx=>iQ (N.nat (sY (sY (aq O) (pz aw (aq O) ⟨∅,⋯,∅⟩)) (pz aw (aq O) ⟨∅,⋯,∅⟩)) ?_) B) (λx=>cA ?_)) ?_
   ·delta l6;rw[ar x];show aan
   ·have:c=l6 c st m:=by delta l6;rw[aj ∅]
    conv=>lhs;rw[show(En.im b0 c:En)=En.im b0 c from B]
    show congrArg (λq=>Out.nx _ [.im (cB Z.CM g e) (), .im b6 d, .im b6 u, .im b6 a, .im b0 k, .im b0 c, .im b0 st, .im b0 m, .im b0 l, .im b0 q]) this
   show aE (wm (a:=l6 c st m) (b:=(y j).1.getD l 0) (c:=l6 c st m &&& (y j).1.getD l 0) B (aq (xc (j:=1) B O (aq O) (at_getD ∅))) (BU _ _) ?_);show bZ (b4.eq (bh (fK (aq O) aw)) (Ng _ 0)) (λx=> ?_) (λx=>cA ⟨?_,?_⟩)
   ·have x:l6 c st m &&& (y j).1.getD l 0≠0:=eN x;let w:y (j+1)=((y j).1.set l ((y j).1.getD l 0-(l6 c st m &&& (y j).1.getD l 0)),putN (y j).2 l (d6 (y j).2 l||| (l6 c st m &&& (y j).1.getD l 0))):=by rw[I];delta o3;rw[aj x]
    show aE (A_ (j:=1) (g:=λi j=>i-j) (c:=(y j).1.getD l 0-(l6 c st m &&& (y j).1.getD l 0)) (O B) B (aq (O B)) (aq (O B)) ∅ ?_ ?_)
    ·have:l6 c st m &&& (y j).1.getD l 0<=(y j).1.getD l 0:=aab
     grind
    show Bz (j:=2) (v:= .int ((d6 (y j).2 l||| (l6 c st m &&& (y j).1.getD l 0):Nat):Int)) (N.nat (n:=d6 (y j).2 l||| (l6 c st m &&& (y j).1.getD l 0)) (Nc (aq (abd (y j).2 l (N.xV (j:=2) O rfl) O (dD rfl))) (aq O)) (MI _ _)) O rfl (aq O) (λG u r=>r) ?_ ⟨?_,?_⟩
    ·rw[MV,bM];lk
    ·rw[w,abc];rfl
    ·show .eq (.eq (.eq (.eq (.eq (.eq (.no (.no (.no (.no .nil)))))))))
   ·let x:l6 c st m &&& (y j).1.getD l 0=0:=by simpa using x
    let w:y (j+1)=y j:=by rw[I];delta o3;rw[ar x]
    rw[w]
   ·show .eq (.eq (.eq (.eq (.eq (.eq (.no (.no (.no (.no .nil)))))))))
  ·lk
 ·ext o A C ⟨rfl,rfl⟩;let hz:z ⇑f=u1 n f t:=by change(tasks n (f.take ⇑f)).foldl o3 (t, [])=_;rw[fe];rfl
  rw[hz];show aA O ⟨a,B,λ_ _ r=>r⟩
abbrev EL:ab×Y ab×Y (Y Int)×ab×Y NN0×NN0->Ct:=λ(a,d,g,h,j,k,l)=>{M:= [g7 a d b5 g,j1 h (c0 j)],U:= [.im b6 a, .im b6 h, .im b0 k],pre:=(∀p∈j,p.1<⇑g/\∀c,p.2.testBit c=aa->c<l)/\(∀i,i<⇑g-> ⇑(g.getD i [])=l)/\l<=20,kq0:=λ_=> [g7 a d b5 (n1 j7 g j (k:Int)),j1 h (c0 j)],be0:=Unit,e:=A8,b:=λ_=>()}
instance [T:Tx Z]:bt "write_prices" 2 (b7 EL):=by
 show bC 7 ["prices","layer","price","number","cars","cell"] 3 (λ_ Q C=>bP (wx (dI (vR W) (dy 2 (bG aL (bG aL du))) (bP (dI (cf (aR C (ay W))) aL (bP (Cb W (Cc (aI W W) W set_list)))))))) ?_;ext⟨r,x,e,d,b,l,n⟩ D;let⟨E,p,hn⟩:=D;show AY (j:=1) b B (λo=>O) (λo i f g=>f= [g7 r x b5 (n1 j7 e (b.take i) (l:Int)),o9 d o (.dK (c0 b))]/\g= [.im b6 r, .im b6 d, .im b0 l, .no, .no, .no]) ⟨_,Le.refl _,λo=>⟨B,B⟩⟩ (λo i f g h=>∅) ?_ ?_
 ·ext o i ⟨k,a⟩ f g y ⟨rfl,rfl⟩;let⟨s,z⟩:=E _ (cD y);let s:k<⇑e:=s;let H:j7 a<=n:=vo z;generalize t:n1 j7 e (b.take i) (l:Int)=R;let I: ⇑R=⇑e:=by rw[<-t,PY]
  let u: ⇑(R.getD k [])=n:=by rw[<-t];show PX j7 _ n _ e p k s
  show⟨_, [3,4],ef aJ aJ,hB (λj=> [g7 r x b5 (R.set k (u4 (R.getD k []) ((o5 a (j7 a)).take j) (l:Int))),o9 d o (.dK (c0 b))]) (λj=> [.im b6 r, .im b6 d, .im b0 l, .im b0 k, .im b0 a, .no]) (bX (Ag O (show j7 a<1000 by lk))) ?_ (Le.refl _) (λj c q=>⟨_, [5],aJ,?_⟩) ⟨_, .eq (.eq (.eq (.no (.no (.no .nil))))),?_,B⟩⟩
  ·rw[kS];have:R.set k (u4 (R.getD k []) [] (l:Int))=R:=by
    change R.set k (R.getD k [])=R;apply ox;ext m;rw[XN];cases L:k=m
    ·cbv
    ·rw[aj L]
   rw[this]
  ·let v:a.testBit c=true:=by have:=cD q;show(cz.1 this).2
   let w:=z c v;let A:(R.set k (u4 (R.getD k []) ((o5 a (j7 a)).take j) (l:Int))).getD k []=u4 (R.getD k []) ((o5 a (j7 a)).take j) (l:Int):=∅;show Sm (j:=0) (aq O) O B (aq O) (aq O) ∅ ?_ ⟨?_, .eq (.eq (.eq (.eq (.eq (.no .nil)))))⟩
   ·rw[A,vg,u];show w
   ·rw[A,List.set_set,take_snoc q,Rv];rfl
  ·rw[fe,take_snoc y,Pq,t]
 ·ext o f g ⟨rfl,rfl⟩;rw[fe];show⟨(),B,λG=>B⟩
abbrev OE:LL0×Nat×LN0×LN0->Ct:=λ(a,d,g,h)=>P1 [.im (cB Z.CM a d) (), .im aB g, .im aB h] (dH a/\d<=3/\(∀c∈g,c<⇑a)/\∀c∈h,c<1000) (eList (d5 ⇑a d)) ((cy ⇑a d).filter (kQ ⟨g,h⟩))
def Jh(d:∀c∈g,c<n)(e:p∈j3 g f a)(c:Nat)(b:p.2.testBit c=aa):c<n:=by let⟨h,_,_,_,i⟩:=ka.1 e;rw[i] at b;show d c ((qt g h c).1 b).1
instance [T:Tx Z]:fk Z.CM "meeting_places" 3 (b7 OE):=by
 show(eZ 9 2 9 "Maze.meeting_places" ["self","goals","wanted","listed","number","cars","car"] 3 (λ_ H y=>aO (aY cQ)∘dI (vR (WE (cT Z.CM y W (bc W W)))) (dy 2 (bG aL (bG aL du))) (bP (fh (eX (K:=Z.K) B eB mH mG lU W (ay (dg [6] H (cf (aR y (ay W))) (λ_=>aL) (λ_=>d_) (λ_=>(fI (bc W W))))))))∘pR (dj (Te (K:=Z.K) B B y.hu) (ay W))) ?_).1;ext⟨d,e,g,w⟩ z;let⟨b,D,x,I⟩:=z;let L:=b.len;let A:=ni b.len D;generalize f:j3 g w (rowsOf ⇑d e)=t;let Q: ⇑t<=8000:=by rw[<-f];show da (Hv _ _ _) A
 show aE (eh (iu (e:=cV) bN ∅) λq=> ?_);show aE (Ub t (by rw[<-f];show DV O O O b D (λc u=>by have:=x c u;lk) I) (λp o i l n=>l= [c8 q cV ((t.take i).flatMap λp=>(o5 p.2 (j7 p.2)).map λc=>(c,p.1)),o9 p o (.dK (c0 t))]/\n= [.im (cB Z.CM d e) (), .im aB g, .im aB w, .im b6 q, .no, .no, .no]) ⟨_,Le.refl _,λp o=>⟨B,B⟩⟩ (λp o i l n h=>∅) ?_ ?_)
 ·ext p o i ⟨k,j⟩ l n E ⟨rfl,rfl⟩;let hb:j7 j<= ⇑d:=vo λc u=>Jh x (by rw[f];show cD E) c u;let C: ⇑(o5 j (j7 j))<=20:=by show da (jq _ _) ⋯
  show⟨_, [4,5],ef (aJ ∅) (aJ ∅),lS (j:=0) (O B) B (ei (er:=cV) (bX (Ag (O B) ⋯)) (λc=>(c,k)) (λc _=>⟨_,aJ ∅,g_ (O B) (O B)⟩) (cN C)) ?_ ⟨_, .eq (.eq (.eq (.eq (.no (.no (.no .nil)))))),?_,B⟩⟩
  ·let h1: ⇑((t.take i).flatMap λp=>(o5 p.2 (j7 p.2)).map λc=>(c,p.1))<= ⇑(t.take i)*20:=by show iH λp z=> ?_;let hb:j7 p.2<= ⇑d:=vo λc u=>Jh x (by rw[f];show Fo z) c u;rw[aF];show da (jq _ _) ⋯
   rw[gw] at h1;rw[bM,aF];lk
  ·rw[take_snoc E,jr,lE];rfl
 ·ext p o l n ⟨rfl,rfl⟩;rw[fe];show lM 1 (gr (j:=0) (i:=3) B B ?_);let s:=UG (bits:=j7) (λm c h=>BR h) (e:=e) (f:=w) x;delta P6 at s;rw[f] at s;show aA (N.lp (e':=d5 ⇑d e) (S9 ⇑d e) (Xj O s ?_) λG v a _ r=>r);show(RG ⇑d e g w).imp λh=> ?_;delta A0 at h;delta lexLe P0
  grind
abbrev OS:vx×Nat×LN0×LN0->Ct:=λ(a,d,g,h)=>P1 [.im (cB Z.CM a.nears d) (), .im aB g, .im aB h] (dH a.nears/\d<=3/\(∀c∈g,c<⇑a.nears)/\∀c∈h,c<1000) (x9 ⇑a.nears d) (dB a d ⟨g,h⟩)
def Yu(n:Nat)(v:Int):(de n [v]).flatten=de n v:=by cbv
def Yh(a:Net P.nears)(b:mF P.nears (λt=>Ok ⇑P.nears e t/\kQ ⟨g,f⟩ t=aa) ⇑P.nears e d u [])(h:nR P.nears (λt=>Ok ⇑P.nears e t/\kQ ⟨g,f⟩ t=aa) ⇑P.nears e d o):ri ⇑P.nears e o (dB P e ⟨g,f⟩):=by
 let m:∀t:Pl,Ok ⇑P.nears e t/\kQ ⟨g,f⟩ t=aa->Ok ⇑P.nears e t:=λt h=>h.1;let k:=b.end_ a B m;let T:=told_of a (i_ P) e ⟨g,f⟩;rw[<-i_ P] at T;show⟨h.len,h.row,λi r c l n=> ?_⟩;cases j:c∈r
 ·rw[ar j];obtain⟨p,_,q,_⟩| ⟨_,s⟩:=h.val i r c l n
  ·show aN q (VS a B m j)
  ·show s
 ·rw[aj j];let v:Ok ⇑P.nears e ⟨c,r⟩:=wW (cD l) n j;have:=h.at_ k T v;delta X8 at this;rw[show(rowsOf ⇑P.nears e).idxOf r=i from oW (mX _ _) l] at this;show this
instance [T:Tx Z]:fk Z.CM "prices_for" 3 (b7 OS):=by
 show(eZ 7 2 7 "Maze.prices_for" ["self","goals","wanted","prices","mask","unpriced","layer","number","cars","price"] 3 (λ_ nd hr=>hX 3 [4] nd (cf (ba W)) (λ_=>aL) (λ_=>d_) (λ_=>(bw MJ (aY (ay (fx fH ai))) (ba W)))∘hX 5 [4] nd (cf (ba W)) (λ_=>aL) (λ_=>d_) (λ_=>(bw jG (bw jG (bw pk ai (ba W)) ai) W))∘aO (cT Z.CM hr W (bc W W))∘wx (dI (vR W) (dy 2 (bG aL (bG aL du))) (bP (BB W W (AE (K:=Z.K) B) W LK set_list)))∘aO ai∘xD (b_ W) (fh (aR hr (c_ W W W))∘aO (cT Z.CM hr W (bc W W))∘bP (tY ai BL))∘pR W) ?_).1;ext⟨P,e,g,H⟩ s;let⟨b,he,hg,hf⟩:=s;let pX:=b.len;let mx:=ni b.len he;let hS:∀t:Pl,Ok ⇑P.nears e t/\kQ ⟨g,H⟩ t=aa->Ok ⇑P.nears e t:=λt h=>h.1;show aE (Sj (er:=b5) (bX (N.lp (e':=O6) d1 (bJ O) λG v a _ r=>r)) (λ_=>de ⇑P.nears (-1)) (λh hh=>⟨_,aJ,?_⟩) (cN mx) λI ps=> ?_)
 ·have:=ML (M:= []) (U:=(L6 ([.im (cB Z.CM P.nears e) (), .im aB g, .im aB H, .no, .no, .no, .no, .no, .no, .no]:Y En) [4]).set 4 (.im O6 h)) (ta:=M3 (b8 (M9 (G9 λi=> .int (-i)) (j8 (.int 1))) c7)) (tb:=M5 Z.K (p3 0) "cell_count") (cv (e:=b5) (bj (fX aw) bN)) (aq (bJ O)) ⟨∅,⋯⟩ (by rw[bM];simp;lk);rw[fo,Yu] at this;show this
 show aE (eh (aaT (er:=b0) (bX (N.lp (e':=O6) d1 (bJ O) λG v a _ r=>r)) (C3 ⇑P.nears) (λh hh=>⟨_,aJ,N.nat (jb (jb (pz aw (aq (bJ O)) ⟨∅,⋯,∅⟩) aw) (aq (N.mask O))) ?_⟩) (cN mx)) λu=> ?_)
 ·let h1:=RH (iZ.1 hh).2.2;delta C3;rw[qP];omega
 show aE (eh (DV O O O b he (λc hc=>⋯) hf) λd=> ?_);let A:=Vo (kN:=P.nears) (e:=e) (f:=H) hg;let hP0:=QA (kN:=P.nears) (S:=λt=>Ok ⇑P.nears e t/\kQ ⟨g,H⟩ t=aa) (n:=⇑P.nears) (e:=e);let D:∀p∈j3 g H (rowsOf ⇑P.nears e),p.2<=((rowsOf ⇑P.nears e).map (C3 ⇑P.nears)).getD p.1 0:=λp s=>by let⟨h,h1,_,_,h4⟩:=ka.1 s;rw[dJ,cP,h1,h4];show QK hg (iZ.1 (cD h1)).2.2
 generalize hly:j3 g H (rowsOf ⇑P.nears e)=L at A D;generalize hfr:(rowsOf ⇑P.nears e).map (C3 ⇑P.nears)=Q at A D;let xQ: ⇑Q=(rowsOf ⇑P.nears e).length:=⋯;let NK:∀p∈L,p.1<⇑Q:=λp s=>by rw[xQ];show A.dict.lt p s
 show aE (AY (j:=2) L B (λo=>O) (λo i w y=>w= [g7 I ps b5 ((rowsOf ⇑P.nears e).map λ_=>de ⇑P.nears (-1)),c8 u b0 (less Q (L.take i)),o9 d o (.dK (c0 L))]/\y= [.im (cB Z.CM P.nears e) (), .im aB g, .im aB H, .im b6 I, .no, .im b6 u, .im b6 d, .no, .no, .no]) ⟨_,Le.refl _,λo=>⟨B,B⟩⟩ (λo i w y h=>∅) ?_ ?_)
 ·ext o i ⟨k,E⟩ w y hx ⟨rfl,rfl⟩;let hm:=cD hx;let hk:k<⇑Q:=NK _ hm;let DC:((L.take i).map (·.1)).Nodup:=by rw[Ak];show A.dict.nd.sublist (XJ _ _)
  let⟨g1,g2⟩:=less_get (L.take i) Q DC λp s=>NK p (Fo s);let hge:(less Q (L.take i)).getD k 0=Q.getD k 0:=by rw[g2 k,UY (Yg A.dict.nd hx),vB]
  let hle:E<=Q.getD k 0:=D _ hm;show⟨_, [7,8],ef (aJ ∅) (aJ ∅),A_ (j:=1) (g:=λi j=>i-j) (i:=k) (b:=E) (c:=(less Q (L.take i)).getD k 0-E) (O B) B (aq (O B)) (aq (O B)) ∅ ?_ ⟨_, .eq (.eq (.eq (.eq (.eq (.eq (.eq (.no (.no (.no .nil))))))))),?_,B⟩⟩
  ·grind
  ·rw[take_snoc hx,UL];rfl
 ·ext o w y ⟨rfl,rfl⟩;rw[fe];show bo (dD (n:=0) B)<| aE (vP (λm w y=>∃n q a l C,w= [g7 I ps b5 n,c8 u b0 q,j1 a (c0 l)]/\y= [.im (cB Z.CM P.nears e) (), .im aB g, .im aB H, .im b6 I, .no, .im b6 u, .im b6 a, .no, .no, .im b0 C]/\mF P.nears (λt=>Ok ⇑P.nears e t/\kQ ⟨g,H⟩ t=aa) ⇑P.nears e C q l/\nR P.nears (λt=>Ok ⇑P.nears e t/\kQ ⟨g,H⟩ t=aa) ⇑P.nears e C n/\m=2*q.sum+if l= [] then 0 else 1) ⟨_,_,_,d,L,0,B,B,A,hP0,B⟩ ?_)
  ext m w y ⟨n,q,a,l,C,rfl,rfl,f,Pd,rfl⟩;show⟨!l.isEmpty,b4.eq (abH (N.xV (j:=2) O B)) (by rw[WZ]),λhb=> ?_,λhb=> ?_⟩
  ·have ek:l≠ []:=by ext z;subst z;cases hb
   let acr:∀p∈l,∀c,p.2.testBit c=aa->c<⇑P.nears:=λp s c hc=>by let hk:=f.dict.lt p s;let h1:=f.lay p.1 (rowsOf ⇑P.nears e)[p.1] c (cW hk);rw[f.dict.mem s] at h1;show(Walk.ok b.aX B hS (h1.1 hc).1).car
   have ud: ⇑l<=8000:=by
    let h1:=iG f.dict.nd (n:=(rowsOf ⇑P.nears e).length) λx hx=>by let⟨p,s,rfl⟩:=a_.1 hx;show f.dict.lt p s
    rw[aF] at h1;lk
   let⟨B2,hs1,hs2⟩:=f.step b.aX B hS;let P2:=Pd.step (bits:=j7) (λm c h=>BR h) b.aX B hS f;show aE (Bx (κ1:= [g7 I ps b5 n,j1 a (c0 l)]++ [c8 u b0 q]) (.cons _ (.swap _ _ _)) (Ro (C:=EL) (I,ps,n,a,l,C,⇑P.nears) (df O (df O (df O dn))) ⟨λp s=>⟨by rw[Pd.len];show f.dict.lt p s,acr p s⟩,Pd.row,pX⟩ B λ_=> ?_));show aE (Bx (κ1:= [j1 a (c0 l),c8 u b0 q]++ [g7 I ps b5 (n1 j7 n l (C:Int))]) ?_ (Sk (Ci:=ym) (P.nears,e,a,l,u,q) (O B) B (df (O B) (df (O B) dn)) B ⟨b,he,f.len,λp s=>f.dict.lt p s,ud⟩ B λa2=> ?_))
   ·show(yp (l₁:= [g7 I ps b5 (n1 j7 n l (C:Int))]) (l₂:= [j1 a (c0 l),c8 u b0 q]))
   show lM 0 (Bx (κ1:= [g7 I ps b5 (n1 j7 n l (C:Int)),c8 u b0 (u1 (i8 P.nears ⇑P.nears e) l q).1,j1 a2 (c0 (u1 (i8 P.nears ⇑P.nears e) l q).2)]) (yp (l₁:= [c8 u b0 (u1 (i8 P.nears ⇑P.nears e) l q).1,j1 a2 (c0 (u1 (i8 P.nears ⇑P.nears e) l q).2)]) (l₂:= [g7 I ps b5 (n1 j7 n l (C:Int))])) ?_);show wm (a:=C) (b:=1) (c:=C+1) B aw ∅ ⟨_,_,?_,Le.refl _,_,_,a2,_,C+1,B,B,B2,P2,B⟩;rw[aj ek];cases hz:(u1 (i8 P.nears ⇑P.nears e) l q).2= []
   ·rw[ar hz,hs2 hz];cbv
   ·cbv
  ·let hz:l= []:=by cases l with| nil=>rfl| cons _ _=>cases hb
   subst hz;show GZ (j:=0) (i:=3) B B (lM 0 (lM 0 (aA O ⟨(),B,λG v r=>⟨n,r,Yh b.aX f Pd⟩⟩)))
abbrev Qh:Nat×Nat×Known×Y Pl->Ct:=λ(a,c,d,g)=>P1 [.im (x9 a c) d, .im (eList (d5 a c)) g] ((∀q∈g,Ok a c q)/\ ⇑g<=1000) b5 (bq (dS (g.filterMap (aT a d))))
instance [T:Tx Z]:bt "least_price" 2 (b7 Qh):=by show bC 11 ["prices","places","known","place"] 2 (λ_ f a=>hX 2 [3] f (cf W) (λ_=>aL) (λ_=>(eV (bI lq (aR a (bc W W)) ai))) (λ_=>(aR a (bc W W)))∘pR (BE (K:=Z.K) B B B gc W (fx fH ai))) ?_;ext⟨n,e,k,b⟩ g;let⟨c,h⟩:=g;apply bo (N.eq (eJ (bX O) (λq=>decide ((0:Int)<=bq (aT n k q))) (λq=>bq (aT n k q)) (λq d=>⟨_,aJ,bh (km (eC (_,_,_,_) (a2 O O) (c q d)) aw),λ_=>eC (_,_,_,_) (a2 O O) (c q d)⟩) (cN h)) (AB b (aT n k)));let⟨i,j⟩:=AA (l:=b.filterMap (aT n k)) B;show aA (BO O (fX aw) i j)
def Y0(n e:Nat)(k:Known)(c:Nat):Int:=bq (dS ((gh n e c).filterMap (aT n k)))
abbrev Pk:Nat×Nat×Known->Ct:=λ(a,c,d)=>P1 [.im (x9 a c) d, .im b0 a] (a<=20/\c<=3) bL ((bR a).map (Y0 a c d))
def Eh:∀{l:Y d},(∀a∈l,f a=g a)->l.filterMap f=l.filterMap g
 | [],_=>rfl
 | a::l,h=>by rw[lG,lG,h a (by simp),Eh λb c=>h b (by simp[c])]
def VR(h:ri n e b k):b=(rowsOf n e).map λr=>b.getD ((rowsOf n e).idxOf r) []:=by
 apply ox;ext i;rw[cP];cases c:i<⇑b
 ·let a:i<⇑(rowsOf n e):=by rw[<-h.len];show c
  rw[cW a,jT,oW (mX n e) (cW a),getD_at c]
 ·rw[rJ ∅,rJ (by rw[<-h.len];cbv)];rfl
def Yi(h:ri n e a k)(f:c<n):((a.filter λr=>decide ((0:Int)<=r.getD c 0)).map λr=>r.getD c 0)=((gh n e c).filterMap (aT n k)).map λ(d:Nat)=>(d:Int):=by
 let g:∀r∈rowsOf n e,(a.getD ((rowsOf n e).idxOf r) []).getD c 0=bq (if c∈r then ah else aT n k ⟨c,r⟩):=λr b=>by rw[h.at_ _ r c (ke b) f];split<;>rfl
 conv=>lhs;rw[VR h]
 rw[gx,bS];let i:(Ml (gk (λr=>decide ((0:Int)<=List.getD r c 0)) λr=>a.getD ((rowsOf n e).idxOf r) []) (rowsOf n e))=(rowsOf n e).filter λr=>decide ((0:Int)<=bq (if c∈r then ah else aT n k ⟨c,r⟩)):=by apply jt;ext r b;erw[gk];rw[g r b]
 rw[i];let j:(((rowsOf n e).filter λr=>decide ((0:Int)<=bq (if c∈r then ah else aT n k ⟨c,r⟩))).map (gk (λr=>List.getD r c 0) λr=>a.getD ((rowsOf n e).idxOf r) []))=((rowsOf n e).filter λr=>decide ((0:Int)<=bq (if c∈r then ah else aT n k ⟨c,r⟩))).map λr=>bq (if c∈r then ah else aT n k ⟨c,r⟩):=by cbv
 rw[j,AB,RA,FY,List.filterMap_filter];congr 1;apply Eh;ext r _;cases z:c∈r
 ·cbv
 ·cbv
instance [T:Tx Z]:bt "least_by_cell" 1 (b7 Pk):=by
 show bC 12 ["prices","cell_count","cell","row"] 2 (λ_ f g=>pR (dg [2] f (sk B gc (ay W)) (λ_=>aL) (λ_=>d_) (λ_=>(BE (K:=Z.K) B B B gc (dg [3] f (cf W) (λ_=>aL) (λ_=>(eV (bI lq (aI W W) ai))) (λ_=>(aI W W)) (ok:=KR (N:= ["prices","cell_count","cell","row"]) (sc:=af7 (ah9 (top 12)) (k8 (top 12))) (by decide+kernel))) (fx fH ai))))) ?_;ext⟨n,e,k⟩ l;let⟨h,m⟩:=l;let a:=ni h m;show MA (i:=0) B λq b=> ?_;show aA (ei (sV (aq O) ⋯) (Y0 n e k) (λc d=> ?_) ?_)
 ·let d:=dR.1 d;let⟨o,p⟩:=AA (l:=(gh n e c).filterMap (aT n k)) B;show⟨_,aJ,BO (N.eq (eJ (bX (O B)) (λr=>decide ((0:Int)<=r.getD c 0)) (λr=>r.getD c 0) (λr g=> ?_) ?_) (Yi b d)) (fX aw) o p⟩
  ·let⟨i,j,rfl⟩:=rK.1 g;let a:=b.row i j;rw[dJ,cW j,mP] at a;show⟨_,aJ,bh (km (cw O (aq O) (at_getD ∅)) aw),λ_=>cw O (aq O) (at_getD ∅)⟩
  ·rw[b.len];show cN a
 ·rw[fm];show cN h
def ai3(n e:Nat)(q:Pl):Enc bV:=⟨λG v x=>(xi n e).rep G v (x.from_,x.to_,bH q x),λs r=>(xi n e).mono s r⟩
def zc(h:N M U t (eList (xi ⇑b e)) (T5 b q)):N M U t (eList (ai3 ⇑b e q)) (i9 b q.holes):=
 N.lp (λx=>(x.from_,x.to_,bH q x)) h λG v a _ r=>r
def VP(a:Net b)(h:x∈i9 b q.holes):x∈VH b q:=by let⟨c,d,e⟩:=lO.1 h;show jB.2 ⟨e,a.sym _ _ d,c⟩
def xt(a:dH b)(c:Ok ⇑b e q)(h:x∈i9 b q.holes):Ok ⇑b e (bH q x):=jD a.aX B c (VP a.aX h)
def BX(a:dH b)(h:LN0): ⇑(i9 b h)<=400:=by have:=zU a 0 h;delta D5 at this;rw[aF] at this;show this
abbrev Ej:LL0×Nat×Known×Pl->Ct:=λ(a,c,d,g)=>P1 [.im (cB Z.CM a c) (), .im (x9 ⇑a c) d, .im (d5 ⇑a c) g] (dH a/\Ok ⇑a c g/\(aT ⇑a d g).isSome=aa) (eList D2) (uU a ⇑a d g)
instance [T:Tx Z]:bt "cheaper_shifts" 2 (b7 Ej):=by
 show bC 15 ["maze","prices","place","wanted","start","end","after"] 3 (λ_ i f=>aO (bw jG (aR f (bc W W)) ai)∘bx (bI gH W ai) (pR (aY cQ)) bB∘pR (dg [4,5,6] i (cf (cT Z.CM f W (ay W))) (λ_=>(dy 3 (bG aL (bG aL (bG aL du))))) (λ_=>(eV (bI dG (aR f (bc W W)) W))) (λ_=>(fI (bc W W))))) ?_;ext⟨b,e,k,q⟩ h;dsimp only[Ej] at h⊢;let⟨a,c,j⟩:=h;apply bo (jb (eC (_,_,_,_) (a2 O O) c) aw);let⟨d,g⟩:=Ee.1 j;rw[g];cases d with
 | zero=>apply cZ (b4.eq (bh (fz O aw)) B);rw[HE g];show aA (cv bN)
 | succ d=>
   apply dF (b4.eq (bh (fz O aw)) (by simp[bq]));rw[vZ a.aX c g];let l:bq (J (d+1))-1=(d:Int):=by change((d+1:Nat):Int)-1=_;cbv
   rw[l];show aA (eJ (er:=D2) (bX (zc (eM (C:=zm) (_,_,_) O (a1 O) ⟨a,c⟩))) (λx=>aT ⇑b k (bH q x)==J d) (λx=>x) (λx m=>⟨_,qS (e:=b0) (f:=b0) (g:=d5 ⇑b e) (a:=(x.from_,x.to_,bH q x)) aJ aJ aJ,b4.eq (bh (dP (eC (C:=sh) (_,_,_,_) (a2 O O) (xt a c m)) O)) (rZ _ d),λ_=>g_ O O⟩) (cN (BX a _))) ⟨(),B,λG v r=> ?_⟩;rw[ng] at r;show r
def O0(a:LL0)(x:bV)(s:Pl):Y Pl:=((i9 a s.holes).filter λy=>y==x).map (bH s)
abbrev EO:LL0×Nat×Y Pl×bV->Ct:=λ(a,c,d,g)=>P1 [.im (cB Z.CM a c) (), .im (eList (d5 ⇑a c)) d, .im D2 g] (dH a/\(∀q∈d,Ok ⇑a c q)/\ ⇑d<=1000) (eList (d5 ⇑a c)) (d.flatMap (O0 a g))
def vq(c:Net d)(x:bV)(s:Pl): ⇑(O0 d x s)<=1:=by
 delta O0;rw[aF];let i:(i9 d s.holes).Nodup:=(yD c s.holes).imp λh e=>by rw[e] at h;show e8.kz _ h
 let f:((i9 d s.holes).filter λy=>y==x).Nodup:=i.filter _;let g:∀z∈(i9 d s.holes).filter λy=>y==x,z=x:=λz j=>∅;generalize ((i9 d s.holes).filter λy=>y==x)=l at f g
 match l,f,g with
 | [],_,_=>show eT _
 | [_],_,_=>show br _
 | a::b::_,f,g=>cbv
instance [T:Tx Z]:bt "behind_shift" 2 (b7 EO):=by
 show bC 14 ["maze","places","shift","behind","place","start","end","after"] 3 (λ_ l g=>aO (aY cQ)∘dI (cf W) aL (bP (fh (eX (K:=Z.K) B eB mH mG lU W (ay (dg [5,6,7] l (cf (cT Z.CM g W (ay W))) (λ_=>(dy 3 (bG aL (bG aL (bG aL du))))) (λ_=>(eV (bI (sS (K:=Z.K) B g.units) (fI (bc W W)) W))) (λ_=>W))))))∘pR W) ?_;ext⟨c,e,d,x⟩ m;let⟨b,n,p⟩:=m;show aE (eh (iu (e:=d5 ⇑c e) bN ∅) λa=> ?_);show aE (hB (λi=> [c8 a (d5 ⇑c e) ((d.take i).flatMap (O0 c x))]) (λi=> [.im (cB Z.CM c e) (), .im (eList (d5 ⇑c e)) d, .im D2 x, .im b6 a, .no, .no, .no, .no]) (bX O) B (Le.refl _) (λi q h=>⟨_, [4],aJ,?_⟩) ?_)
 ·have f:=n q (cD h);show lS (j:=0) (m:=O0 c x q) O B (eJ (er:=d5 ⇑c e) (bX (zc (eM (C:=zm) (_,_,_) O (a1 O) ⟨b,f⟩))) (λy=>y==x) (bH q) (λy r=>⟨_,qS (e:=b0) (f:=b0) (g:=d5 ⇑c e) (a:=(y.from_,y.to_,bH q y)) aJ aJ aJ,b4.eq (bh (Nb (a:=(y.from_,y.to_)) (b:=(x.from_,x.to_)) (g_ O O) (O (e:=D2) B))) ?_,λ_=>O⟩) (cN (BX b _))) ?_ ⟨?_,?_⟩
  ·rw[cE,cj,eU];walk
   ·ext z;let⟨j,k⟩:=cq z;cases y;cases x;simp at j k;rw[j,k]
   ·ext z;rw[z]
  ·let o: ⇑((d.take i).flatMap (O0 c x))<= ⇑(d.take i)*1:=iH λs _=>vq b.aX x s;let t:=vq b.aX x q;rw[gw] at o;rw[bM];lk
  ·rw[take_snoc h,jr,lE];rfl
  ·show .eq (.eq (.eq (.eq (.no (.no (.no (.no .nil)))))))
 ·rw[fe];show gr (j:=0) (i:=3) B B (aA O)
abbrev D_:LL0×Nat×Known×Y Pl×Nat->Ct:=λ(a,c,d,g,h)=>P1 [.im (cB Z.CM a c) (), .im (x9 ⇑a c) d, .im (eList (d5 ⇑a c)) g] (dH a/\c<=3/\mD a c d/\(∀q∈g,Ok ⇑a c q)/\ ⇑g<=1000/\dS (g.filterMap (aT ⇑a d))=J h) (eList D2) (v7 a ⇑a d h (g.filter λq=>aT ⇑a d q==J h))
def y0(a:LL0)(k:Known)(d:Nat)(b:Y Pl):Nat->Y bV×Y Pl
 | 0=>([],b)
 | i+1=>((y0 a k d b i).1++ [x6 a ⇑a k (d-1-i) (y0 a k d b i).2],J1 a ⇑a k (d-1-i) (x6 a ⇑a k (d-1-i) (y0 a k d b i).2) (y0 a k d b i).2)
def Lq(a:LL0)(k:Known)(d:Nat)(b:Y Pl):∀i,i<=d->v7 a ⇑a k d b=(y0 a k d b i).1++v7 a ⇑a k (d-i) (y0 a k d b i).2
 | 0,_=>rfl
 | i+1,h=>by rw[Lq a k d b i (by cbv),show d-i=(d-1-i)+1 by lk,v7,y0,show d-(i+1)=d-1-i by lk,qk];rfl
def EK{kN:LL0}{k:Known}{d:Nat}{b:Y Pl}(h:b≠ []):(∃s∈b,x6 kN ⇑kN k d b=l8 kN ⇑kN k d s)/\∀s∈b,¬e8 (l8 kN ⇑kN k d s) (x6 kN ⇑kN k d b):=by
 let⟨a,l,rfl⟩:=rC h;delta x6;rw[bp];let⟨c,g⟩:=yQ (l.map (l8 kN ⇑kN k d)) (l8 kN ⇑kN k d a);walk
 ·rw[<-bp] at c;let⟨s,f,e⟩:=a_.1 c;show⟨s,f,e.symm⟩
 ·cbv
structure tH(kN:LL0)(e:Nat)(k:Known)(d:Nat)(here:Y Pl):Prop where
 ne:here≠ []
 ok:∀s∈here,Ok ⇑kN e s/\aT ⇑kN k s=J d
 len: ⇑here<=1000
def tH.step{b:LL0}(a:dH b){e:Nat}{k:Known}(i:mD b e k){d:Nat}{c:Y Pl}(h:tH b e k (d+1) c):tH b e k d (J1 b ⇑b k d (x6 b ⇑b k d c) c):=by
 let⟨S,j,T⟩:=i.ex;let⟨⟨s,f,l⟩,_⟩:=EK (kN:=b) (k:=k) (d:=d) h.ne;let m:=(ql a.aX (sf a.aX B j T (h.ok s f).1 (h.ok s f).2)).1;show⟨yM (qr.2 ⟨s,f,by rw[l];show m,B⟩),λt n=> ?_,?_⟩
 ·let⟨u,o,p,rfl⟩:=qr.1 n;let⟨g,q⟩:=(oK a.aX).1 p;show⟨jD a.aX B (h.ok u o).1 g,q⟩
 ·delta J1;apply da (jq _ _);let g:(c.flatMap λs=>((i9 b s.holes).filter λy=>y==x6 b ⇑b k d c).map (bH s)).length<= ⇑c*1:=iH λs _=>vq a.aX _ s;have:=h.len;lk
instance [T:Tx Z]:bt "first_least_row" 3 (b7 D_):=by
 show bC 13 ["maze","prices","places","price","here","place","row","left","shift","after"] 3 (λ_ D r=>aO (aR r (bc W W))∘hX 4 [5] D (cf W) (λ_=>aL) (λ_=>(eV (bI dG (aR r (bc W W)) W))) (λ_=>W)∘aO (aY cQ)∘dI (vC B gc (c_ (bw jG W ai) (fx fH ai) (fx fH ai))) aL (aO (dj (KO (K:=Z.K) B B r.hu) (ay (dg [5] D (cf W) (λ_=>aL) (λ_=>d_) (λ_=>(aI (aR r (c_ W W W)) ai)))))∘fh (eX (K:=Z.K) B eB kE kD kb W (ay W))∘bP (hX 4 [9] D (cf (aR r (c_ W W W))) (λ_=>aL) (λ_=>(eV (bI dG (aR r (bc W W)) W))) (λ_=>W)))∘pR W) ?_;ext⟨c,e,k,qs,d⟩ hp;dsimp only[D_] at hp⊢;let⟨b,he,E,A,H,hd⟩:=hp;let⟨I,hd2⟩:=oF hd;let⟨q0,u,j⟩:=js.1 I;let aco:=E.small b.aX b.len he (A q0 u) j;show bo (N.nat (n:=d) (eC (_,_,_,_) (a2 O O) ⟨A,H⟩) (by rw[hd];rfl))<| bo (N.eq (eJ (er:=d5 ⇑c e) (bX O) (λq=>aT ⇑c k q==J d) (λq=>q) (λq L=>⟨_,aJ,b4.eq (bh (dP (eC (C:=sh) (_,_,_,_) (a2 O O) (A q L)) (aq O))) (rZ _ d),λ_=>O⟩) (cN H)) (ng _)) ?_
 show aE (eh (iu (e:=D2) bN (by change 0<=aV;decide)) λa=> ?_);generalize p:(qs.filter λq=>aT ⇑c k q==J d)=f;let H0:tH c e k d f:=by rw[<-p];show⟨yM (cz.2 ⟨u,by simp[j]⟩),λs m=>⟨A s (cz.1 m).1,by simpa using(cz.1 m).2⟩,da (jq _ _) H⟩
 have Hi:∀i,i<=d->tH c e k (d-i) (y0 c k d f i).2/\ ⇑(y0 c k d f i).1=i:=by
  ext i;induction i with
  | zero=>ext _;show⟨H0,B⟩
  | succ i ih=>ext hi;let⟨v,Q⟩:=ih (by cbv);rw[show d-i=(d-1-i)+1 by lk] at v;rw[show d-(i+1)=d-1-i by lk];show⟨v.step b E,by rw[y0,dA,Q];rfl⟩
 let Dv:K7 ((d:Int)-1) (-1) (-1) d:=by have:=K7.neg (i:=(d:Int)-1) (j:= -1) (by lk) (by lk) (by cbv) (by cbv);rw[show(((d:Int)-1)- -1).toNat=d by cbv] at this;show this
 show aE (hB (λi=> [c8 a D2 (y0 c k d f i).1]) (λi=> [.im (cB Z.CM c e) (), .im (x9 ⇑c e) k, .im (eList (d5 ⇑c e)) qs, .im b0 d, .im (eList (d5 ⇑c e)) (y0 c k d f i).2, .no, .im b6 a, .no, .no, .no]) (wF (jb (aq O) aw) (fX aw) (fX aw) Dv) B (Le.refl _) (λi x hx=> ?_) ?_)
 ·have hi:i<d:=by have:=(dZ.1 hx).1;simpa using this
  have Dn:x=((d-1-i:Nat):Int):=by
   rw[cP,yI hi] at hx;have:(d:Int)-1+(i:Int)* -1=x:=bu hx
   grind
  subst Dn;let⟨h,mx⟩:=Hi i (by cbv);rw[show d-i=(d-1-i)+1 by grind] at h;generalize n:(y0 c k d f i).2=g at h;let⟨S,hS,T'⟩:=E.ex;let⟨⟨s0,hs0,e0⟩,w⟩:=EK (kN:=c) (k:=k) (d:=d-1-i) h.ne;show⟨_, [7],aJ,bo (e:=D2) (b:=x6 c ⇑c k (d-1-i) g) (LR (l:=g.map λs=>((l8 c ⇑c k (d-1-i) s).from_,(l8 c ⇑c k (d-1-i) s).to_)) (ei (er:=cV) (bX O) (λs=>((l8 c ⇑c k (d-1-i) s).from_,(l8 c ⇑c k (d-1-i) s).to_)) (λs m=>⟨_,aJ,?_⟩) (cN h.len)) ?_ ?_) ?_⟩
  ·let⟨C,h2⟩:=h.ok s m;let ek:=sf b.aX B hS T' C h2;show cw (e:=D2) (b:=l8 c ⇑c k (d-1-i) s) (eC (_,_,_,_) (a3 O O O) ⟨b,C,(by rw[h2];rfl)⟩) aw (fV ?_);rw[vZ b.aX C h2];delta l8;let⟨y,l,e2⟩:=rC ek;rw[e2];rfl
  ·rw[e0];show a_.2 ⟨s0,hs0,B⟩
  ·ext y hy z;let⟨s,m,rfl⟩:=a_.1 hy;show w s m z
  ·show aE (lT (j:=0) O B O (by rw[mx,bM];lk) ?_);show iQ (N.eq (eJ (er:=d5 ⇑c e) (bX (eC (C:=EO) (_,_,_,_) (a3 (O B) (O B) (O B)) ⟨b,(λq L=>(h.ok q L).1),h.len⟩)) (λt=>aT ⇑c k t==J (d-1-i)) (λt=>t) (λt ht=>⟨_,aJ,b4.eq (bh (dP (eC (C:=sh) (_,_,_,_) (a2 (O B) (O B)) ?_) (O B))) (rZ _ _),λ_=>O B⟩) ?_) (ng _)) ⟨?_,?_⟩
   ·let⟨s,m,ht⟩:=fS.1 ht;let⟨y,hy,rfl⟩:=a_.1 ht;show xt b (h.ok s m).1 (cz.1 hy).1
   ·let C:(g.flatMap (O0 c (x6 c ⇑c k (d-1-i) g))).length<= ⇑g*1:=iH λs _=>vq b.aX _ s;have:=h.len;rw[bM];lk
   ·rw[y0,n];rfl
   ·rw[y0,n];show .eq (.eq (.eq (.eq (.eq (.no (.eq (.no (.no (.no .nil)))))))))
 ·let o:=Lq c k d f d (br _);rw[AQ,v7,eS] at o;rw[aF,fm,<-o];show gr (j:=0) (i:=6) B B (aA O)
abbrev DW:LL0×Nat×Known×Pl×Nat->Ct:=λ(a,c,d,g,h)=>P1 [.im (cB Z.CM a c) (), .im (x9 ⇑a c) d, .im (d5 ⇑a c) g] (dH a/\c<=3/\mD a c d/\Ok ⇑a c g/\aT ⇑a d g=J h) b0 (B8 a ⇑a d h g % 1000000007)
structure nZ(kN:LL0)(e:Nat)(k:Known)(d:Nat)(L:Y (Pl×Nat))(T:Nat):Prop where
 nd:(L.map (·.1)).Nodup
 ok:∀p∈L,Ok ⇑kN e p.1/\aT ⇑kN k p.1=J d
 sum:wsum (B8 kN ⇑kN k d) L % 1000000007=T % 1000000007
def nZ.len{f:LL0}(c:dH f){e:Nat}(r:e<=3){k:Known}{d T:Nat}{L:Y (Pl×Nat)}(h:nZ f e k d L T): ⇑L<=160000:=by
 let i:(L.map λp=>XS ⇑f p.1).Nodup:=by have:=h.nd;rw[ye] at this⊢;have:=gS.1 this;show gS.2 (uv (λ{a b} j l g m=>g (code_inj (h.ok a j).1 (h.ok b l).1 m)) this)
 let n:=iG i λx o=>by let⟨p,q,rfl⟩:=a_.1 o;show pb (h.ok p q).1
 let s: ⇑f^(e+1)<=20^(e+1):=yK c.len _;let t:20^(e+1)<=20^4:=yy (by decide) (by cbv);rw[aF] at n;grind
def nZ.put{a:LL0}{e:Nat}{k:Known}{d T:Nat}{L:Y (Pl×Nat)}(h:nZ a e k d L T){t:Pl}(b:Ok ⇑a e t)(f:aT ⇑a k t=J d)(c:Nat):nZ a e k d (A9 L t ((m6 L t+c) % 1000000007)) (T+c*B8 a ⇑a k d t):=by
 show⟨Ur h.nd _ _,λp g=> ?_,?_⟩
 ·obtain z| z:=Wn g
  ·show h.ok p z
  ·rw[z];show⟨b,f⟩
 ·rw[Ze _ _ h.nd,Bt,h.sum,<-Bt]
def abG{t:TE}{n e:Nat}{q:Pl}(h:N M U t cV (cd n e q)):N M U t (d5 n e) q:=h
instance [T:Tx Z]:bt "count_least_rows" 2 (b7 DW):=by
 show bC 16 ["maze","prices","place","counts","left","following","here","count","start","end","after"] 3 (λ_ nd hr=>aO (WG hr.hu W ai)∘dI (vC B gc (c_ (bw jG (aR hr (bc W W)) ai) (fx fH ai) (fx fH ai))) aL (aO Kc∘wx (dI (Uw W) (dy 2 (bG aL (bG aL du))) (bP (dI (cf (cT Z.CM hr W (ay W))) (dy 3 (bG aL (bG aL (bG aL du)))) (bP (bx (bI dG (aR hr (bc W W)) W) (bP (qR hr.hu W W (bw Cd (bw fJ (vU hr.hu W W ai ⟨B,B,B,B⟩) W) dr) B)) bB)))))∘bP (aO W))∘pR (bw Cd (dj (ZO B) (dM (WB W) cQ)) dr)) ?_;ext⟨f,e,k,q,d⟩ s;dsimp only[DW] at s⊢;let⟨c,he,hk,ho,hd⟩:=s;let aco:=hk.small c.aX c.len he ho hd;generalize hM:B8 f ⇑f k d q=M0;show aE (eh (WL (λM=>O) (λM=>dD B)) λa0=> ?_);let Dv:K7 ((d:Int)-1) (-1) (-1) d:=by have:=K7.neg (i:=(d:Int)-1) (j:= -1) (by lk) (by lk) (by cbv) (by cbv);rw[show(((d:Int)-1)- -1).toNat=d by cbv] at this;show this
 show aE (k_ (λi D E=>∃a L,D= [m4 a (j6 ⇑f e L)]/\E= [.im (cB Z.CM f e) (), .im (x9 ⇑f e) k, .im (d5 ⇑f e) q, .im b6 a, .no, .no, .no, .no, .no, .no, .no]/\nZ f e k (d-i) L M0) (wF (N.eq (jb (eC (_,_,_,_) (a2 O O) ho) aw) (show _=(d:Int)-1 by rw[hd];rfl)) (fX aw) (fX aw) Dv) ⟨_,Le.refl _,a0, [(q,1)],B,B,?_⟩ ?_ ?_)
 ·show⟨by simp,λp s=> ?_,?_⟩
  ·cbv
  ·rw[<-hM];simp[wsum]
 ·ext i x D E H ⟨a,L,rfl,rfl,C⟩;let hi:i<d:=by have:=(dZ.1 H).1;simpa using this
  let Dn:x=((d-1-i:Nat):Int):=by rw[cP,yI hi] at H;have:(d:Int)-1+(i:Int)* -1=x:=bu H;lk
  subst Dn;let ud:=C.len c he;rw[show d-i=(d-1-i)+1 by lk] at C;generalize hlf:d-1-i=l at C;show⟨_, [4],aJ,aE (eh NA λb=> ?_)⟩;show aE (Ua (j:=0) (L.map λp=>(cd ⇑f e p.1,p.2)) B (λo=>O) (λo j t w=>∃F,t= [o9 a o (.dT (k7 (L.map λp=>(cd ⇑f e p.1,p.2)))),m4 b (j6 ⇑f e F)]/\w= [.im (cB Z.CM f e) (), .im (x9 ⇑f e) k, .im (d5 ⇑f e) q, .im b6 a, .im b5 (l:Int), .im b6 b, .no, .no, .no, .no, .no]/\nZ f e k l F (wsum (B8 f ⇑f k (l+1)) (L.take j))) ⟨_,Le.refl _,λo=>⟨[],B,B,?_⟩⟩ (λo j t w ⟨F,h,_⟩=>by rw[h];rfl) ?_ ?_)
  ·show⟨by simp,(λp s=>nomatch s),(by rw[kS];rfl)⟩
  ·ext o j y t w hy ⟨F,rfl,rfl,hF⟩;rw[cP] at hy;cases z:L[j]? with
   | none=>rw[z] at hy;cases hy
   | some p=>
     rw[z] at hy;cases bu hy;let⟨Oa,hpp⟩:=C.ok p (cD z);show⟨_, [6,7],ef aJ aJ,?_⟩;show k_ (λm I Q=>∃n,I= [o9 a o (.dT (k7 (L.map λp=>(cd ⇑f e p.1,p.2)))),m4 b (j6 ⇑f e n)]/\Q= [.im (cB Z.CM f e) (), .im (x9 ⇑f e) k, .im (d5 ⇑f e) q, .im b6 a, .im b5 (l:Int), .im b6 b, .im cV (cd ⇑f e p.1), .im b0 p.2, .no, .no, .no]/\nZ f e k l n (wsum (B8 f ⇑f k (l+1)) (L.take j)+p.2*((((i9 f p.1.holes).take m).filter λx=>aT ⇑f k (bH p.1 x)==J l).map λx=>B8 f ⇑f k l (bH p.1 x)).sum)) (bX (zc (eM (_,_,_) O (a1 (abG O)) ⟨c,Oa⟩))) ⟨_,Le.refl _,F,B,B,by rw[kS];simpa using hF⟩ ?_ ?_
     ·ext m x I Q H ⟨n,rfl,rfl,g⟩;let A:=xt c Oa (cD H);let xQ:=g.len c he;show⟨_, [8,9,10],qS aJ aJ aJ,bZ (b4.eq (bh (dP (eC (_,_,_,_) (a2 O O) A) O)) (rZ _ l)) (λhb=> ?_) (λhb=>cA ⟨_, .eq (.eq (.eq (.eq (.eq (.eq (.eq (.eq (.no (.no (.no .nil)))))))))),n,B,B,?_⟩)⟩
      ·let jM:aT ⇑f k (bH p.1 x)=J l:=by simpa using hb
       show Lk (j:=1) (i:=cd ⇑f e (bH p.1 x)) (v:= .int (((m6 n (bH p.1 x)+p.2) % 1000000007:Nat):Int)) (N.nat (n:=(m6 n (bH p.1 x)+p.2) % 1000000007) (xb (fj (aq (Zn (λp s=>(g.ok p s).1) A (N.Ox (j:=1) O B) O (dD B))) (aq O)) aw (by decide)) (by cbv)) O B (iT O) (λG u r=>r) ?_ ⟨_, .eq (.eq (.eq (.eq (.eq (.eq (.eq (.eq (.no (.no (.no .nil)))))))))),A9 n (bH p.1 x) ((m6 n (bH p.1 x)+p.2) % 1000000007),?_,B,?_⟩
       ·rw[BK,bM];lk
       ·rw[LI (λp s=>(g.ok p s).1) A];rfl
       ·rw[take_snoc H,lH,fA,ar hb,fB,zG];have:=g.put A jM p.2;rw[Ms,<-Nat.add_assoc];show this
      ·rw[take_snoc H,lH,fA,aj (by rw[hb];decide),Ic,eS];show g
     ·ext I Q ⟨n,rfl,rfl,g⟩;show⟨_, .eq (.eq (.eq (.eq (.eq (.eq (.no (.no (.no (.no (.no .nil)))))))))),n,B,B,?_⟩;rw[fe] at g;rw[take_snoc z,uY];have:wsum (B8 f ⇑f k (l+1)) [p]=p.2*(((i9 f p.1.holes).filter λx=>aT ⇑f k (bH p.1 x)==J l).map λx=>B8 f ⇑f k l (bH p.1 x)).sum:=by cbv
      rw[this];show g
  ·ext o t w ⟨F,rfl,rfl,hF⟩;rw[aF,fe] at hF;show lM 0 (iQ O ⟨_, .eq (.eq (.eq (.eq (.no (.no (.no (.no (.no (.no (.no .nil)))))))))),b,F,B,B,?_⟩);rw[show d-(i+1)=l by lk];show⟨hF.nd,hF.ok,hF.sum.trans C.sum⟩
 ·ext D E ⟨a,L,rfl,rfl,C⟩;rw[aF,fm,AQ] at C;show Bw 0 (xb (aq (ZD (j:=0) B O)) aw (by decide)) ⟨(),B,λG v r=> ?_⟩
  ·let h1:=C.sum;let h2:wsum (B8 f ⇑f k 0) L=(L.map (·.2)).sum:=(GU λp _=>B).trans (AU L);rw[h2] at h1;change v=_;rw[<-h1,show v=_ from r];congr 1
structure bW(P:aW):Prop where
 aX:dH P.nears
 cnt: ⇑P.nears=P.count
 mB:∀c∈P.cabins,c<⇑P.nears
 afm: ⇑P.cabins<=4
structure cH(P:aW)(s:LN0):Prop where
 len: ⇑s=⇑P.nears
 nd:(s.filter λp=>p !=0).Nodup
 lt:∀p∈s,p<=99
 holes:1<= ⇑(oz s)/\ ⇑(oz s)<=3
abbrev El(p:ab):Ct:={M:= [rObj p Z.CS []],U:= [.im b6 p],ga0:=ab,kq0:=λa=>stK Z.CM Z.CP Z.CS ⟨p,a,ah,ah⟩,be0:=Unit,e:=A8,b:=λ_=>()}
def WQ:ku Z.CM a G []:=⟨∅,λ_ h=>nomatch h⟩
def Ln(E:M[j]? =J (rObj p C F))(h:∀M,N M U I b6 p) [x:fO K C f](L: ⇑F<1000)(q:∀a,Q (.nx (M.set j (rObj p C (K1 f (.im b6 a) F))++ [o8 Z.CM a kN []]) U)):b9 M U (V3 K I Y4 f) Q:=λG H y s w l D k a m=>by
 have c:=To.own s w m (o8 Z.CM a kN []) (λb=>pB) ⟨[],bg,WQ,λ_ h=>nomatch h⟩;let d:(M++ [o8 Z.CM a kN []])[j]? =J (rObj p C F):=⋯;show h _ G _ y c.s c.w (l.mono c.g) _ λv o z g T=> ?_;let⟨⟨i,r,h1,A⟩,_⟩:=cu g.w d;let t:To (M++ [o8 Z.CM a kN []]) o z ((M++ [o8 Z.CM a kN []]).set j (rObj p C (K1 f (.im b6 a) F))) o (upd z p (.ins C i (n3 f (.ref a) r))):=
  To.put g.s g.w d (λ_ h=>h) (λb u n e=>by rw[aS n];show e) (λb hb=>⟨.ins C i (n3 f (.ref a) r),by rw[show b=p from hb];show bg,by ext _ h;cases h⟩) ⟨i,_,bg,A.put B⟩
 let e1:(M++ [o8 Z.CM a kN []]).set j (rObj p C (K1 f (.im b6 a) F))=M.set j (rObj p C (K1 f (.im b6 a) F))++ [o8 Z.CM a kN []]:=List.set_append_left _ _ (dZ.1 E).1;rw[e1] at t;show⟨p,C,i,r,T,h1,x.cl,x.na,by rw[A.len];show L,k _ (q a) o _ y ((c.trans g).trans t) ((l.mono (c.trans g).g).mono t.g)⟩
instance [T:Tx Z]:oj "State" Z.CS 1 (b7 El):=by show(eZ 14 81 0 "State.__init__" ["self"] 1 (λ_ b c=>ez W qX∘ez W qX∘bP (ez W vT)) ?_).2 B;ext p d;show aE (eW (j:=0) nE B O (el B) ?_);show aE (eW (j:=0) nE B O (el B) ?_);show Ln (kN:= []) (j:=0) B (λM=>O) (el B) λa=>⟨a,B,λG=>B⟩
abbrev QR:jl×aW->Ct:=λ(a,c)=>{M:=stK Z.CM Z.CP Z.CS a,U:= [.im b6 a.st, .im (tL Z.CP c) ()],ga0:=ab,kq0:=λb=>stK Z.CM Z.CP Z.CS ⟨a.st,b,J c,ah⟩,be0:=Unit,e:=A8,b:=λ_=>()}
instance [T:Tx Z]:fk Z.CS "hold" 1 (b7 QR):=by show(eZ 15 81 1 "State.hold" ["self","plan"] 2 (λ_ c d=>ez W W∘ez W qX∘bP (ez W vT)) ?_).1;ext⟨x,a⟩ e;show lM 1 (aE (eW (j:=0) O B O (el B) ?_));show aE (eW (j:=0) nE B O (el B) ?_);show Ln (kN:=a.nears) (j:=0) B (λM=>O) (el B) λb=>⟨b,B,λG=>B⟩
abbrev e_(st a:ab)(P:aW)(b:az LN0):Y Res:=stK Z.CM Z.CP Z.CS ⟨st,a,J P,b⟩
abbrev P3{a:Type}(st c:ab)(P:aW)(d:az LN0)(f:Y En)(pre:Prop)(e:Enc a)(b:a):Ct:=P2 (e_ st c P d) (.im b6 st::f) pre e b
abbrev P4(st a:ab)(P:aW)(c:az LN0)(d:Y En)(pre:Prop)(b:Y Int):Ct:=P3 st a P c [.im (D9 d) ()] pre bL b
def eO{l n:Type}{C:l->Ct}{st f:ab}{P:aW}{g:az LN0}{m:Str}{o:Y En}{q:Prop}{e:Enc n}{b:n}{j:TE}{k:TA}(i:l)(s:N M U j b6 st)(p:l7 M U k (C i).U.tail)(t:(C i).pre)(u:C i=P3 st f P g o q e b:=by show B)(a:M=e_ st f P g++κf:=by first| show(eS _).symm| rfl)(v:(ah0 Z.CP f (J P) g).lookup m=none:=by rfl):N M U (u5 Z.CS m (b7 C) [] E0 j k) e b:=by
 have:∀D,C i=D->D.U= .im b6 st::o->(c:D.ga0)->M=D.M++κf->(∀d,D.kq0 d=D.M)->(∀d,D.b d=D.b c)->N M U (u5 Z.CS m (b7 C) [] E0 j k) D.e (D.b c):=by ext _ rfl r c h w x;rw[r] at p;show KI (j:=0) i c (by rw[a];rfl) s v p r t h w x
 show this _ u B () a (λ_=>B) λ_=>B
abbrev OR:ab×ab×aW×LN0->Ct:=λ(a,c,d,g)=>P3 a c d (J g) [] (⇑g<1000) b0 (⇑(oz g))
instance [T:Tx Z]:fk Z.CS "holes_now" 2 (b7 OR):=by show(eZ 16 81 2 "State.holes_now" ["self"] 1 (λ_ c a=>pR (cb (aR a (ay (ba W))))) ?_).1;ext⟨st,d,e,f⟩ b;show aA (bU (eC _ (a1 (cF (j:=0) B O)) b))
abbrev Ea:So0 Nat->Ct:=λ(a,c,d,g,h)=>P3 a c d g [.im b0 h] (bW d/\h<=3) (cB Z.CM d.nears h) ()
instance [T:Tx Z]:fk Z.CS "maze_with" 4 (b7 Ea):=by
 show(eZ 18 81 4 "State.maze_with" ["self","hole_count"] 2 (λ_ j a=>bx (nL (IM a.hu W (ba W))) (bP (qR a.hu (ba W) W (lx a (bc (ba (ba W)) W)) B)) bB∘pR (tX a.hu (ba W) W)) ?_).1;ext⟨st,k,f,l,e⟩ g;let⟨i,c⟩:=g;show T_ (j:=1) B λb=> ?_;cases d:d2 b (.inl (e:Int))with
 | some v=>show dF (b4.eq (gK (AG (aq O) (MO (j:=1) B (cF (j:=0) B O)))) ∅)<| Lm (Va (j:=1) B (cF (j:=0) B O B) O d) (WR (j:=1) B) (abT (j:=1) B) ⟨(),B,λ_ _ r=>r⟩
 | none=>
   show cZ (b4.eq (gK (AG (aq O) (MO (j:=1) B (cF (j:=0) B O)))) ∅)<| VU (j:=1) c (wK (Ci:=Ey) (κs:= []) (λx=>(x,f.nears,e)) (df (bJ (C:=Z.CP) (cF (j:=0) B O) B) (df O dn)) (λ_=>B) (λ_=>⟨i.aX,c⟩) B (λ_=>B) (λ_ _=>B) (λ_ _ _ _ h=>h)) B (cF (j:=0) B O) O d ?_
   show Lm (Xk (j:=1) B (cF (j:=0) B O B) O ∅) (Zb (j:=1) B) (abS (j:=1) B) ⟨(),B,λ_ _ r=>r⟩
abbrev QQ:ab×ab×aW×LN0->Ct:=λ(a,c,d,g)=>P3 a c d (J g) [] (bW d/\cH d g) (cB Z.CM d.nears ⇑(oz g)) ()
def cH.small{P:aW}{s:LN0}(h:cH P s)(a:bW P): ⇑s<=20:=by have:=h.len;have:=a.aX.len;cbv
instance [T:Tx Z]:fk Z.CS "maze" 5 (b7 QQ):=by show(eZ 17 81 3 "State.maze" ["self"] 1 (λ_ i a=>pR (cT Z.CS a W (ay (iy Z.CS a W)))) ?_).1;ext⟨st,b,c,d⟩ g;let⟨e,f⟩:=g;let h:=f.small e;show aA (eO (st,b,c,J d,_) O (a1 (eO (st,b,c,d) O dn ⋯)) ⟨e,f.holes.2⟩)
def c6(s:LN0)(p:Nat):Pl:=⟨s.idxOf p,aK s⟩
def Xb(s:LN0)(p:Nat)(h:p∈s):s.findIdx? (λq=>q==p)=J (s.idxOf p):=by rw[O_];let a:=qc h;show⟨a,⋯,λj b=> ?_⟩;have:=Jc j s[j] b (cW ⋯);simpa using this
def placeOf_some(a:p≠0)(h:p∈s):F_ s p=J (c6 s p):=by delta F_;rw[aj a,Xb s p h];rfl
def Gs:c∈aK s↔c<⇑s/\s.getD c 0=0:=by delta aK;rw[cz,dR,eU]
def la(b: ⇑s=n)(e:p≠0)(h:p∈s):Ok n ⇑(aK s) (c6 s p):=by
 let a:=qc h;show⟨by rw[<-b];show a,B,uB _ jQ,λc f=> ?_,λz=> ?_⟩
 ·rw[<-b];show(Gs.1 f).1
 ·let d:s.getD (s.idxOf p) 0=0:=(Gs.1 z).2;rw[dJ,cW a,mP,List.getElem_idxOf a] at d;show e d
abbrev OZ:Sx0 (LN0×Nat)->Ct:=λ(a,c,d,g,h,i)=>P3 a c d (J g) [.im aB h, .im b0 i] (bW d/\cH d g/\ ⇑h=⇑d.nears/\ ⇑(aK h)=⇑(aK g)/\i≠0/\i∈h) (d5 ⇑d.nears ⇑(aK g)) (c6 h i)
instance [T:Tx Z]:fk Z.CS "place_in" 6 (b7 OZ):=by show(eZ 20 81 6 "State.place_in" ["self","standing","pallet"] 3 (λ_ k a=>pR (cT Z.CM a (iy Z.CS a W) (bc (eX (K:=Z.K) B eB uz yh (vE (K:=Z.K) B) W (ay W)) (aR a (ay W))))) ?_).1;ext⟨st,l,m,n,c,p⟩ f;let⟨b,g,h,i,j,d⟩:=f;let o:=b.aX.len;let e:=la h j d;rw[i] at e;show aA (eM (_,_,⟨c.idxOf p,aK c⟩) (eO (_,_,_,_) O dn ⟨b,g⟩) (a2 (sO O O d) (eC _ (a1 O) ⋯)) ⟨b.aX,e⟩)
abbrev Qk:Sx0 Nat->Ct:=λ(a,c,d,g,h)=>P3 a c d (J g) [.im b0 h] (bW d/\cH d g/\h≠0/\h∈g) (d5 ⇑d.nears ⇑(aK g)) (c6 g h)
instance [T:Tx Z]:fk Z.CS "place" 7 (b7 Qk):=by show(eZ 19 81 5 "State.place" ["self","pallet"] 2 (λ_ g b=>pR (cT Z.CS b W (bc (ba W) W))) ?_).1;ext⟨st,h,i,j,p⟩ c;let⟨d,a,e,f⟩:=c;show aA (eO (_,_,_,_,_,_) O (a2 (cF (j:=0) B O) O) ⟨d,a,a.len,B,e,f⟩)
def N9(P:aW)(g:LN0):LN0:=if g= [] then P.cabins else g
abbrev Fm:So0 LN0->Ct:=λ(a,c,d,g,h)=>P3 a c d g [.im aB h] True aB (N9 d h)
instance [T:Tx Z]:fk Z.CS "goals" 1 (b7 Fm):=by
 show(eZ 21 81 7 "State.goals" ["self","told_goals"] 2 (λ_ c d=>pR (il (b_ W) (ky (sL (K:=Z.K) B) (ay W)) (ky (sL (K:=Z.K) B) (ay (ba (ba W)))))) ?_).1;ext⟨st,e,a,f,g⟩ b;dsimp only[Fm] at b⊢;show aA (gs (bT O) (λ_=>sv O) (λ_=>sv (bJ (C:=Z.CP) (cF (j:=0) B O) B))) ⟨(),B,λG v r=> ?_⟩;have:(if(!g.isEmpty)=aa then g else a.cabins)=N9 a g:=by delta N9;cases g<;>simp
 rw[<-this];show r
def Kw{P:aW}(a:bW P){g:LN0}(b:∀c∈g,c<⇑P.nears):∀c∈N9 P g,c<⇑P.nears:=by
 delta N9;split
 ·show a.mB
 ·show b
abbrev OG:So0 (Nat×LN0×LN0)->Ct:=λ(a,d,g,h,i,j,k)=>P3 a d g h [.im b0 i, .im aB j, .im aB k] (bW g/\i<=3/\(∀c∈j,c<⇑g.nears)/\∀c∈k,c<⇑g.nears) (x9 ⇑g.nears i) (dB g i (dC g j k))
instance [T:Tx Z]:fk Z.CS "prices_with" 5 (b7 OG):=by show(eZ 23 81 9 "State.prices_with" ["self","hole_count","told_goals","wanted"] 4 (λ_ i b=>pR (cT Z.CM b (cT Z.CS b W (ay W)) (bc (cT Z.CS b W (ay W)) W))) ?_).1;ext⟨st,j,k,l,e,g,m⟩ f;let⟨a,d,h,n⟩:=f;let o:=a.aX.len;show aA (eM (_,_,_,_) (eO (_,_,_,_,_) O (a1 O) ⟨a,d⟩) (a2 (eO (_,_,_,_,_) O (a1 O) cM) O) ⟨a.aX,d,(Kw a h),(λc p=>⋯)⟩)
abbrev OL:Sx0 (LN0×LN0)->Ct:=λ(a,d,g,h,i,j)=>P3 a d g (J h) [.im aB i, .im aB j] (bW g/\cH g h/\(∀c∈i,c<⇑g.nears)/\∀c∈j,c<⇑g.nears) (x9 ⇑g.nears ⇑(aK h)) (qg g h i j)
instance [T:Tx Z]:fk Z.CS "prices_for" 6 (b7 OL):=by show(eZ 22 81 8 "State.prices_for" ["self","told_goals","wanted"] 3 (λ_ l a=>pR (cT Z.CS a W (c_ (iy Z.CS a W) W W))) ?_).1;ext⟨st,b,c,d,g,m⟩ h;let⟨e,f,i,j⟩:=h;let k:=f.small e;show aA (eO (st,b,c,J d,_,_,_) O (a3 (eO (st,b,c,d) O dn ⋯) O O) ⟨e,f.holes.2,i,j⟩)
def dw:N M U (M3 (b8 (j8 (.int i)) c7)) bL [i]:=cv (bj aw bN)
def ki:N M U (M3 c7) bL []:=cv bN
def p0(s l:LN0):Y Int:=if fP s l=aa then [] else [-3]
def gj:fP s l=aa↔l≠ []/\(∀p∈l,p≠0/\p∈s)/\l.Nodup:=by
 delta fP RW;rw[cn,cn,eQ,cj];walk
 ·simp
 ·simp
abbrev OX:Sx0 LN0->Ct:=λ(a,c,d,g,h)=>P3 a c d (J g) [.im aB h] (⇑h<=1000) bL (p0 g h)
instance [T:Tx Z]:bt "refuse_pallets" 2 (b7 OX):=by
 show bC 66 ["state","pallets","pallet"] 2 (λ_ e f=>bx (l4.pt (je (hE (b_ W)) (lb (b_ (aR f (ay W)))))) (pR (aY (ay dr))) bB∘bx (b_ (dj (wO (K:=Z.K) B B) (ay (dg [2] e (cf W) (λ_=>aL) (λ_=>d_) (λ_=>(Nw (fN dG W ai) (gE (wz (Qa (K:=Z.K) B) W (ba W) B)))))))) (pR (aY (ay dr))) bB∘pR (aY cQ)) ?_;ext⟨st,j,k,b,l⟩ a;show aE (bZ (hJ (fi (bT O)) λ_=>eI (eC _ (a1 O) ⋯)) (λh=> ?_) (λh=>cA ?_))
 ·have:p0 b l= [-3]:=by delta p0;rw[aj];rw[gj];ext⟨c,_,g⟩;simp[c,g] at h
  show aA dw ⟨(),B,λG v r=>∅⟩
 let c:l≠ []/\l.Nodup:=∅;show aE (bZ (b4.eq (eI (tF (ei (er:=e7) (bX O) (λp=>decide (p=0)|| !b.contains p) (λp _=>⟨_,aJ,NF (N.eq (dP (aq O) aw) (Cj p 0)) λ_=>KH O (cF (j:=0) B O)⟩) (cN a)))) (vr _ _)) (λh=> ?_) (λh=>cA ?_))
 ·have:p0 b l= [-3]:=by
   delta p0;rw[aj];rw[gj];ext⟨_,i,_⟩;let⟨p,a,d⟩:=iC.1 h;have:=i p a;simp at d;obtain z| z:=d
   ·show this.1 z
   ·show z this.2
  show aA dw ⟨(),B,λG v r=>∅⟩
 ·have:p0 b l= []:=by delta p0;rw[ar];rw[gj];show⟨c.1,λp a=> ?_,c.2⟩;have:=XQ.1 h p a;simp at this;show this
  show aA ki ⟨(),B,λG v r=>∅⟩
def F3(P:aW)(c:Nat):Y Int:=if P.count<=c then [-4] else []
abbrev Fg:So0 Nat->Ct:=λ(a,c,d,g,h)=>P3 a c d g [.im b0 h] True bL (F3 d h)
instance [T:Tx Z]:bt "refuse_cell" 1 (b7 Fg):=by
 show bC 67 ["state","cell"] 2 (λ_ d e=>pR (il (bI lq W (ba (ba W))) (aY (ay dr)) (aY cQ))) ?_;ext⟨st,f,a,g,c⟩ b;dsimp only[Fg] at b⊢;show aA (gs (b4.eq (bh (km (aq O) (aq (bJ (C:=Z.CP) (cF (j:=0) B O) B)))) (Cg _ _)) (λ_=>dw) (λ_=>ki)) ⟨(),B,λG v r=> ?_⟩;have:(if decide (a.count<=c)=aa then [-4] else [])=F3 a c:=by delta F3;simp
 rw[<-this];show r
def j9(P:aW)(e:Nat)(g f:LN0):Y Int:=if gT P.count e g f=aa then [] else [-4]
def jA:gT n e g f=aa↔(∀c∈g,c<n)/\(∀c∈f,c<n)/\g.Nodup/\f.Nodup/\ ⇑f<=e:=by delta gT;erw[cn,eQ,ju]
abbrev OI:So0 (Nat×LN0×LN0)->Ct:=λ(a,c,d,g,h,i,j)=>P3 a c d g [.im b0 h, .im aB i, .im aB j] (⇑i<=1000/\ ⇑j<=1000) bL (j9 d h i j)
instance [T:Tx Z]:bt "refuse_wish_with" 2 (b7 OI):=by
 show bC 69 ["state","hole_count","goals","wanted","cell"] 4 (λ_ j i=>bx (b_ (dj (wO (K:=Z.K) B B) (ay (dg [4] j (cf (bw gF W W)) (λ_=>aL) (λ_=>d_) (λ_=>(fN lq W (ba (ba W)))))))) (pR (aY (ay dr))) bB∘bx (l4.pt (je (b_ (aR i (ay W))) (je (b_ (aR i (ay W))) (lb (bI kl (cb W) W))))) (pR (aY (ay dr))) bB∘pR (aY cQ)) ?_;ext⟨st,p,a,q,e,g,b⟩ k;let⟨s,t⟩:=k;show aE (bZ (b4.eq (eI (tF (ei (er:=e7) (bX (fY O O ?_)) (λc=>decide (a.count<=c)) (λc _=>⟨_,aJ,N.eq (km (aq O) (aq (bJ (C:=Z.CP) (cF (j:=0) B O) B))) (Cg _ _)⟩) ?_))) (vr _ _)) (λh=> ?_) (λh=>cA ?_))
 ·rw[bM];lk
 ·rw[dA,bM];lk
 ·have:j9 a e g b= [-4]:=by
   delta j9;rw[aj];rw[jA];ext⟨d,l,_⟩;let⟨c,f,m⟩:=iC.1 h;let m:a.count<=c:=∅;obtain z| z:=dc.1 f
   ·have:=d c z;lk
   ·have:=l c z;lk
  show aA dw ⟨(),B,λG v r=>∅⟩
 let d:∀c∈g++b,c<a.count:=λc f=>⋯;show aE (bZ (hJ (eI (eC _ (a1 O) ⋯)) λ_=>hJ (eI (eC _ (a1 O) ⋯)) λ_=>bh (jg (aq (bU O)) (aq O))) (λh=> ?_) (λh=>cA ?_))
 ·have:j9 a e g b= [-4]:=by delta j9;rw[aj];rw[jA];ext⟨_,_,n,o,u⟩;simp[n,o] at h;lk
  show aA dw ⟨(),B,λG v r=>∅⟩
 ·have:j9 a e g b= []:=by delta j9;rw[ar];rw[jA];simp at h;show⟨λc f=>d c ∅,λc f=>d c ∅,h.1,h.2.1,∅⟩
  show aA ki ⟨(),B,λG v r=>∅⟩
abbrev Qe:Sx0 (LN0×LN0)->Ct:=λ(a,c,d,g,h,i)=>P3 a c d (J g) [.im aB h, .im aB i] (⇑g<1000/\ ⇑h<=1000/\ ⇑i<=1000) bL (j9 d ⇑(aK g) h i)
instance [T:Tx Z]:bt "refuse_wish" 3 (b7 Qe):=by show bC 68 ["state","goals","wanted"] 3 (λ_ f a=>pR (aR a (iz W (iy Z.CS a W) W W))) ?_;ext⟨st,h,i,j,g,k⟩ b;let⟨c,d,e⟩:=b;show aA (eC (_,_,_,_,_,_,_) (a4 O (eO (_,_,_,_) O dn c) O O) ⟨d,e⟩)
def F0(P:aW)(e:Nat):Y Int:=if jV P.count e=aa then [] else [-1]
abbrev OF:So0 Nat->Ct:=λ(a,c,d,g,h)=>P3 a c d g [.im b0 h] True bL (F0 d h)
instance [T:Tx Z]:bt "refuse_hole_count" 1 (b7 OF):=by
 show bC 70 ["state","hole_count"] 2 (λ_ b c=>bx (l4.pt (nJ (oT hW hW ai W dr) (ny (bI gH W (ba (ba W)))))) (pR (aY cQ)) bB∘pR (aY (ay dr))) ?_;ext⟨st,d,a,f,e⟩ g;show aE (bZ (b:=jV a.count e) (b4.eq (jE (bh (lR aw (aq O) aw)) λ_=>bh (fz (aq O) (aq (bJ (C:=Z.CP) (cF (j:=0) B O) B)))) ?_) (λh=> ?_) (λh=>cA ?_))
 ·delta jV yV;rw[cE];erw[cn,ju]
  omega
 ·have:F0 a e= []:=by delta F0;rw[ar h]
  show aA ki ⟨(),B,λG v r=>∅⟩
 ·have:F0 a e= [-1]:=by delta F0;rw[aj ∅]
  show aA dw ⟨(),B,λG v r=>∅⟩
def R6(P:aW)(c:Nat)(h:LN0):Y Int:=if x8 P.count c h=aa then [] else [-4]
abbrev PF:So0 (Nat×LN0)->Ct:=λ(a,c,d,g,h,i)=>P3 a c d g [.im b0 h, .im aB i] (d.count<=20/\ ⇑i<=1000) bL (R6 d h i)
instance [T:Tx Z]:bt "refuse_place" 2 (b7 PF):=by show bC 71 ["state","car","holes"] 3 (λ_ d b=>pR (il (b_ (aR b (c_ (ba (ba W)) W W))) (aY cQ) (aY (ay dr)))) ?_;ext⟨st,e,f,g,c,h⟩ a;show aA (gs (eI (eC (_,_,_) (a3 (bJ (C:=Z.CP) (cF (j:=0) B O) B) O O) ⟨a.1,a.2⟩)) (λ_=>ki) (λ_=>dw))
def F5(P:aW)(r:LN0):Y Int:=if J4 P.count r=aa then [] else [-4]
abbrev QN:So0 LN0->Ct:=λ(a,c,d,g,h)=>P3 a c d g [.im aB h] (⇑h<=1000) bL (F5 d h)
instance [T:Tx Z]:bt "refuse_row" 2 (b7 QN):=by show bC 72 ["state","numbers"] 2 (λ_ b a=>pR (il (b_ (aR a (bc (ba (ba W)) W))) (aY cQ) (aY (ay dr)))) ?_;ext⟨st,c,d,e,l⟩ f;show aA (gs (eI (eC (_,_) (a2 (bJ (C:=Z.CP) (cF (j:=0) B O) B) O) ⋯)) (λ_=>ki) (λ_=>dw))
def D4(n m:Nat):Y Int:=if(m:Int)-1<(n:Int)then [-5,(m:Int)-1] else []
abbrev Ex:Y NN0×LL0->Ct:=λ(a,c)=>P1 [.im (eList cV) a, .im ej c] True bL (D4 ⇑a ⇑c)
instance [T:Tx Z]:bt "refuse_undone" 1 (b7 Ex):=by
 show bC 73 ["shifts","along","done"] 2 (λ_ d e=>aO (bw jG (cb W) ai)∘pR (il (bI gH W (cb W)) (aY (bc dr W)) (aY cQ))) ?_;ext⟨b,a⟩ c;dsimp only[Ex] at c⊢;show bo (jb (aq (bU O)) aw)<| aA (gs (bh (fz O (aq (bU O)))) (λ_=>cv (bj aw (bj O bN))) (λ_=>ki)) ⟨(),B,λG v r=> ?_⟩
 have:(if decide ((⇑a:Int)-1<(⇑b:Int))=aa then [-5,(⇑a:Int)-1] else [])=D4 ⇑b ⇑a:=by delta D4;simp
 rw[<-this];show r
def J5(l:Y (Int×Int)):Y Int:=l.flatMap λx=> [x.1,x.2]
abbrev zi(l:Y (Int×Int)):Ct:=P1 [.im (eList (h8 b5 b5)) l] (⇑l<=1000000) bL (J5 l)
instance [T:Tx Z]:bt "numbers_of" 1 (b7 zi):=by
 show bC 79 ["pairs","numbers","one","other"] 1 (λ_ e f=>aO (aY cQ)∘dI (cf W) (dy 2 (bG aL (bG aL du))) (bP (fh (eX (K:=Z.K) B eB mH mG lU W (ay (aY (bc W W))))))∘pR W) ?_;ext l b;show aE (eh (iu (e:=b5) bN ∅) λa=> ?_);show aE (hB (λi=> [c8 a b5 (J5 (l.take i))]) (λi=> [.im (eList (h8 b5 b5)) l, .im b6 a, .no, .no]) (bX O) B (Le.refl _) (λi x c=>⟨_, [2,3],ef aJ aJ,?_⟩) ?_)
 ·show lS (j:=0) O B (cv (e:=b5) (bj O (bj O bN))) ?_ ⟨?_, .eq (.eq (.no (.no .nil)))⟩
  ·let d: ⇑(J5 (l.take i))<= ⇑(l.take i)*2:=iH λx _=>br 2;rw[gw] at d;let b: ⇑l<=1000000:=b;rw[bM];change _+2<=_;lk
  ·delta J5;rw[take_snoc c,jr,lE];rfl
 ·rw[fe];show gr (j:=0) (i:=1) B B (aA O)
def FH(h:N M U t (eList (h8 b5 b5)) l)(a: ⇑l<=1000000):N M U (v9 (b7 zi) [] E0 (b8 t c7)) bL (J5 l):=
 wL l () (df h dn) a B (λ_=>B) (λ_=>B)
abbrev ro(n e:Nat):Enc (Pl×Int):=h8 (d5 n e) b5
def N8(n e:Nat)(k:Known):Y (Pl×Int):=(cy n e).map λq=>(q,bq (aT n k q))
abbrev Pg:So0 (Nat×LN0×LN0)->Ct:=λ(a,d,g,h,i,j,k)=>P3 a d g h [.im b0 i, .im aB j, .im aB k] (bW g/\i<=3/\(∀c∈j,c<⇑g.nears)/\∀c∈k,c<⇑g.nears) (eList (ro ⇑g.nears i)) (N8 ⇑g.nears i (dB g i (dC g j k)))
def places_len(a:n<=20)(b:e<=3): ⇑(cy n e)<=160000:=by rw[places_eq];let h:=iH (l:=bR n) (f:=λc=>((rowsOf n e).filter λr=> !r.contains c).map λh=>(⟨c,h⟩:Pl)) (k:=8000) λc _=>Cm a b c;rw[fm] at h;lk
instance [T:Tx Z]:bt "priced_places" 6 (b7 Pg):=by show bC 77 ["state","hole_count","goals","wanted","prices","place"] 4 (λ_ f a=>aO (cT Z.CS a W (c_ W W W))∘pR (dg [5] f (cf (iy Z.CM a (cT Z.CS a W (ay W)))) (λ_=>aL) (λ_=>d_) (λ_=>(fI (bc W (aR a (bc W W))))))) ?_;ext⟨st,h,b,i,e,g,j⟩ k;let⟨c,d,l,m⟩:=k;show bo (eO (_,_,_,_,_,_,_) O (a3 O O O) ⟨c,d,l,m⟩)<| aA (ei (bX (eM (C:=Ec) (_,_) (eO (C:=Ea) (st,h,b,i,_) O (a1 O) ⟨c,d⟩) dn ⟨c.aX,d⟩)) (λq=>(q,bq (aT ⇑b.nears (dB b e (dC b g j)) q))) (λq n=>⟨_,aJ,g_ O (eC (_,_,_,_) (a2 O O) (gy.1 n))⟩) (cN (places_len c.aX.len d)))
def K2(P:aW)(s:LN0)(k:Known):Y (Nat×Int):=(s.filter λp=>p !=0).map λp=>(p,bq (aT ⇑P.nears k (c6 s p)))
abbrev Ei:Sx0 (LN0×LN0)->Ct:=λ(a,d,g,h,i,j)=>P3 a d g (J h) [.im aB i, .im aB j] (bW g/\cH g h/\(∀c∈i,c<⇑g.nears)/\∀c∈j,c<⇑g.nears) (eList (h8 b0 b5)) (K2 g h (qg g h i j))
instance [T:Tx Z]:bt "priced_pallets" 8 (b7 Ei):=by
 show bC 78 ["state","goals","wanted","prices","pallet"] 3 (λ_ i c=>aO (cT Z.CS c W (bc W W))∘pR (dg [4] i (cf (ba W)) (λ_=>aL) (λ_=>(eV (bI gG W ai))) (λ_=>(fI (bc W (aR c (bc W (cT Z.CS c W (ay W))))))))) ?_;ext⟨st,n,f,h,g,j⟩ k;let⟨d,b,l,m⟩:=k;let e:=b.small d;show bo (eO (_,_,_,_,_,_) O (a2 O O) ⟨d,b,l,m⟩)<| aA (eJ (er:=h8 b0 b5) (bX (cF (j:=0) B O)) (λp=>p !=0) (λp=>(p,bq (aT ⇑f.nears (qg f h g j) (c6 h p)))) (λp a=>⟨_,aJ,b4.eq (bh (fK (aq O) aw)) ?_,λo=>g_ O (eC (_,_,_,_) (a2 O (eO (_,_,_,_,_) O (a1 O) ⟨d,b,∅,a⟩)) (la b.len ∅ a))⟩) (cN e))
 rw[cE];simp
def w4(P:aW)(e:Nat)(g f:LN0):Y Int:=if F0 P e= [] then j9 P e g f else F0 P e
def D0(P:aW)(e:Nat)(g f:LN0):Y (Str×En):=if w4 P e g f= [] then [("priced", .im (eList (ro ⇑P.nears e)) (N8 ⇑P.nears e (dB P e (dC P g f)))),("refusal", .im bL [])] else [("priced", .im bL []),("refusal", .im bL (w4 P e g f))]
def qD{P:aW}(a:bW P){e:Nat}{g f:LN0}(h:w4 P e g f= []):jV P.count e=aa/\gT P.count e g f=true:=by
 delta w4 F0 j9 at h;cases b:jV P.count e=aa
 ·cbv
 ·cbv
def sZ:jV n e=aa↔1<=e/\e<=3/\e<n:=by delta jV yV;erw[cn,ju]
abbrev yk:ab×ab×ab×aW×az LN0×Nat×LN0×LN0->Ct:=λ(a,c,d,g,h,i,j,k)=>{M:=e_ c d g h++ [rObj a Z.CV []],U:= [.im b6 a, .im b6 c, .im b0 i, .im aB j, .im aB k],pre:=bW g/\ ⇑j<=1000/\ ⇑k<=1000,kq0:=λ_=>e_ c d g h++ [rObj a Z.CV (D0 g i j k)],be0:=Unit,e:=A8,b:=λ_=>()}
instance [T:Tx Z]:oj "Survey" Z.CV 7 (b7 yk):=by
 show(eZ 13 76 0 "Survey.__init__" ["self","state","hole_count","goals","wanted"] 5 (λ_ q a=>ez W (aY cQ)∘ez W (l_ (K:=Z.K) B (aR a (bc W W)) (gE (aR a (iz W W W W))))∘bP (bx (hE (b_ (ba W))) (bP (ez W (aR a (iz W W W W)))) bB)) ?_).2 B;ext⟨p,st,r,c,s,e,g,d⟩ f;dsimp only[yk] at f⊢;let⟨b,k,l⟩:=f;show aE (eW (j:=2) ki B O (el B) ?_);show aE (eW (j:=2) (a:=w4 c e g d) (lj (eC (_,_,_,_,_) (a2 O O) cM) λ_=>eC (_,_,_,_,_,_,_) (a4 O O O O) ⟨k,l⟩) B O (el B) ?_);cases a:w4 c e g d= []
 ·let⟨m,n⟩:=qD b a;let⟨_,o,_⟩:=sZ.1 m;let⟨i,j,_⟩:=jA.1 n;rw[<-b.cnt] at i j;show bZ (b:=aa) (b4.eq (fi (bT (cF (j:=2) B O))) ∅) (λ_=> ?_) (λh=>nomatch h);show eW (j:=2) (eC (κf:= [_]) (_,_,_,_,_,_,_) (a4 O O O O) ⟨b,o,i,j⟩) B O (el B) ⟨(),?_,λG=>B⟩;delta D0;rw[ar a,a];rfl
 ·show bZ (b:=ak) (b4.eq (fi (bT (cF (j:=2) B O))) ∅) (λh=>nomatch h) (λ_=>cA ⟨(),?_,λG=>B⟩);delta D0;rw[aj a];rfl
def wb{t u v w:TE}{st b:ab}{P:aW}{c:az LN0}{e:Nat}{g f:LN0}(a:M=e_ st b P c++κf)(h:N M U t b6 st)(d:N M U u b0 e)(i:N M U v aB g)(j:N M U w aB f)(k:bW P)(l: ⇑g<=1000)(m: ⇑f<=1000):
 N M U (B9 Z.CV (b7 yk) [] E0 (b8 t (b8 u (b8 v (b8 w c7))))) (o6 Z.CV (D0 P e g f)) ():=
 wK (λx=>(x,st,b,P,c,e,g,f)) (df h (df d (df i (df j dn)))) (λ_=>B) (λ_=>⟨k,l,m⟩) a (λ_=>B) (λ_ _=>B) (λ_ _ _ _ h=>h)
def h7(P:aW)(s l g f:LN0):Y Int:=if p0 s l= [] then j9 P ⇑(aK s) g f else p0 s l
def u6(P:aW)(s l g f:LN0):Y Int:=if dS ((l.map (c6 s)).filterMap (aT ⇑P.nears (qg P s g f)))=ah then [-5] else []
def z7(P:aW)(s l g f:LN0):Y (Str×En):=if h7 P s l g f= [] then [("places", .im (eList (d5 ⇑P.nears ⇑(aK s))) (l.map (c6 s))),("prices", .im (x9 ⇑P.nears ⇑(aK s)) (qg P s g f)),("refusal", .im bL (u6 P s l g f))] else [("places", .im bL []),("prices", .im bL []),("refusal", .im bL (h7 P s l g f))]
def ij(h:h7 P s l g f= []):fP s l=aa/\gT P.count ⇑(aK s) g f=true:=by
 delta h7 p0 j9 at h;cases a:fP s l=aa
 ·cbv
 ·cbv
abbrev yl:ab×ab×ab×aW×LN0×LN0×LN0×LN0->Ct:=λ(a,c,d,g,h,i,j,k)=>{M:=e_ c d g (J h)++ [rObj a Z.n9 []],U:= [.im b6 a, .im b6 c, .im aB i, .im aB j, .im aB k],pre:=bW g/\cH g h/\ ⇑i<=1000/\ ⇑j<=1000/\ ⇑k<=1000,kq0:=λ_=>e_ c d g (J h)++ [rObj a Z.n9 (z7 g h i j k)],be0:=Unit,e:=A8,b:=λ_=>()}
instance [T:Tx Z]:oj "Search" Z.n9 8 (b7 yl):=by
 show(eZ 12 75 0 "Search.__init__" ["self","state","pallets","goals","wanted","pallet"] 5 (λ_ v c=>ez W (aY cQ)∘ez W (aY cQ)∘ez W (l_ (K:=Z.K) B (aR c (bc W W)) (gE (aR c (c_ W W W))))∘bP (bx (hE (b_ (ba W))) (ez W (dg [5] v (cf W) (λ_=>aL) (λ_=>d_) (λ_=>(cT Z.CS c W (ay W))))∘ez W (cT Z.CS c W (bc W W))∘bP (bx (bI gH (aR c (bc (ba W) (ba W))) ai) (bP (ez W (aY (ay dr)))) bB)) bB)) ?_).2 B;ext⟨p,st,n,b,a,l,g,f⟩ o;dsimp only[yl] at o⊢;let⟨j,k,r,w,y⟩:=o;let z:=k.small j;show aE (eW (j:=2) ki B O (el B) ?_);show aE (eW (j:=2) ki B O (el B) ?_);show aE (eW (j:=2) (a:=h7 b a l g f) (lj (eC (κf:= [_]) (st,n,b,a,_) (a2 O O) r) λ_=>eC (κf:= [_]) (st,n,b,a,_,_) (a3 O O O) ⟨⋯,w,y⟩) B O (el B) ?_);cases c:h7 b a l g f= []
 ·let⟨A,C⟩:=ij c;let⟨D,e,E⟩:=gj.1 A;let⟨s,t,_⟩:=jA.1 C;rw[<-j.cnt] at s t;let m:∀q∈l.map (c6 a),Ok ⇑b.nears ⇑(aK a) q:=λq H=>by let⟨x,i,rfl⟩:=a_.1 H;show la k.len (e x i).1 (e x i).2
  show bZ (b:=aa) (b4.eq (fi (bT (cF (j:=2) B O))) ∅) (λ_=> ?_) (λh=>nomatch h);show aE (eW (j:=2) (ei (er:=d5 ⇑b.nears ⇑(aK a)) (bX O) (c6 a) (λx i=>⟨_,aJ,eO (κf:= [_]) (_,_,_,_,_) O (a1 O) ⟨j,k,(e x i).1,(e x i).2⟩⟩) (cN r)) B O (el B) ?_);show aE (eW (j:=2) (eO (κf:= [_]) (_,_,_,_,_,_) O (a2 O O) ⟨j,k,s,t⟩) B O (el B) ?_);show bZ (b:=(dS ((l.map (c6 a)).filterMap (aT ⇑b.nears (qg b a g f)))).isNone) (b4.eq (bh (fz (eC (_,_,_,_) (a2 (cF (j:=2) B O) (cF (j:=2) B O)) ⟨m,∅⟩) aw)) ?_) (λu=> ?_) (λu=>cA ⟨(),?_,λG=>B⟩)
  ·cases dS ((l.map (c6 a)).filterMap (aT ⇑b.nears (qg b a g f)))with
   | none=>rfl
   | some d=>show jw (by change¬((d:Int)<0);cbv)
  ·show eW (j:=2) dw B O (el B) ⟨(),?_,λG=>B⟩;have:u6 b a l g f= [-5]:=by delta u6;rw[ar (by simpa using u)]
   delta z7;rw[ar c,this];rfl
  ·have:u6 b a l g f= []:=by delta u6;rw[aj ⋯]
   delta z7;rw[ar c,this,c];rfl
 ·show bZ (b:=ak) (b4.eq (fi (bT (cF (j:=2) B O))) ∅) (λh=>nomatch h) (λ_=>cA ⟨(),?_,λG=>B⟩);delta z7;rw[aj c];rfl
def Bq{t u v w:TE}{st b:ab}{P:aW}{s l g f:LN0}(a:M=e_ st b P (J s)++κf)(h:N M U t b6 st)(c:N M U u aB l)(d:N M U v aB g)(e:N M U w aB f)(i:bW P)(j:cH P s)(k: ⇑l<=1000)(m: ⇑g<=1000)(n: ⇑f<=1000):
 N M U (B9 Z.n9 (b7 yl) [] E0 (b8 t (b8 u (b8 v (b8 w c7))))) (o6 Z.n9 (z7 P s l g f)) ():=
 wK (λx=>(x,st,b,P,s,l,g,f)) (df h (df c (df d (df e dn)))) (λ_=>B) (λ_=>⟨i,j,k,m,n⟩) a (λ_=>B) (λ_ _=>B) (λ_ _ _ _ h=>h)
def j0(k:Nat)(l:LN0):LL0:=(bR ((⇑l+k-1)/k)).map λi=>(l.drop (i*k)).take k
abbrev Fi:LN0×Nat->Ct:=λ(a,c)=>P1 [.im aB a, .im b0 c] (0<c/\c<=5/\ ⇑a<=10000000) ej (j0 c a)
instance [T:Tx Z]:bt "cut_entries" 1 (b7 Fi):=by
 show bC 44 ["numbers","length","at"] 2 (λ_ d g=>pR (dg [2] d (vC B gc (c_ ai (cb W) W)) (λ_=>aL) (λ_=>d_) (λ_=>(kc (lX (K:=Z.K) B) W (iN W) (iN (bw fJ W W)))))) ?_;ext⟨l,k⟩ b;replace b:0<k/\k<=5/\ ⇑l<=10000000:=b;let⟨e,h,j⟩:=b;let m:(⇑l+k-1)/k<=10000010:=da (aai _ _) ⋯;show aA (ei (er:=aB) (wF (n:=(⇑l+k-1)/k) aw (aq (bU O)) (aq O) (Nq e ⋯ ⋯)) (λ(i:Int)=>(l.drop i.toNat).take k) (λa f=>⟨_,aJ,?_⟩) ?_) ⟨(),B,λG v r=> ?_⟩
 ·let⟨i,n,rfl⟩:=a_.1 f;let c:(0+(i:Int)*(k:Int))=((i*k:Nat):Int):=∅;rw[c,fo];show N.eq (nP O (iq O) (iq (fj O (aq O)))) ?_;rw[show((i*k:Nat):Int)+(k:Int)=((i*k+k:Nat):Int) by rw[Int.natCast_add],BP];congr 1;cbv
 ·rw[aF,fm,bM];omega
 ·rw[bS] at r;show(congrArg (λx=>ej.rep G v x) (?_:_=j0 k l)).mp r;delta j0;apply iV;ext i _;let c:(0+(i:Int)*(k:Int))=((i*k:Nat):Int):=∅;erw[gk,c,fo]
def N.pT{t:TE}{a d:Type}{e:Enc a}{f:Enc d}{b:a}{c:d}(h:N M U t e b)(q:∀G v,e.rep G v b->f.rep G v c):N M U t f c:=λG H i s w l Q k=>h G H i s w l _ λv g j x r=>k v g j x (q g v r)
def G7(n e:Nat):Enc (Y (Pl×Nat)):=⟨λG v L=>W7.rep G v (j6 n e L),λs h=>W7.mono s h⟩
def N.dp{t:TE}{n e:Nat}{L:Y (Pl×Nat)}(h:N M U t (G7 n e) L):J0 M U t (j6 n e L):=N.dt h
def AX{t:TS}{j i:Nat}{p:ab}{n e:Nat}{L:Y (Pl×Nat)}{d:Out->Prop}(h:M[j]? =J (m4 p (j6 n e L)))(l:U[i]? =J (.im b6 p))(q:b9 (M.eraseIdx j) (U.set i (.im (G7 n e) L)) t d):b9 M U t d:=λG H a s w z D k=>by
 let⟨c,m⟩:=cu w h;let y:=(m p B).1;let x:To M G H (M.eraseIdx j) (upd G p (.dT (j6 n e L))) H:=To.xJ s w h (c5.sF y) (λb u e=>by
  cases f:b=p
  ·subst f;rw[bg] at e;cases e;show c
  ·rw[aS f] at e;show s b u e) (λb n=>aS n)
 let r:(G7 n e).rep (upd G p (.dT (j6 n e L))) (.ref p) L:=⟨p,B,bg⟩;let⟨v,c,A⟩:=z.get l;cases(show v=_ from A);let g:=(z.mono x.g).set r i;let C:a.set i (J (.ref p))=a:=set_same c;rw[C] at g;show q _ H a x.s x.w g D λo E=>(k o E).from x
/---/def toldL(n e a:Nat):Y (Pl×Nat)->LL0->Y (Pl×Nat)
 | L, []=>L
 | L,x::r=>match toldP n e x.dropLast with
   | none=>L
   | some q=>if(L.lookup q).isSome=aa\/a<=x.getLastD 0 then L else toldL n e a (L++ [(q,x.getLastD 0)]) r
structure h_(n e:Nat)(L:Y (Pl×Nat)):Prop where
 nd:(L.map (·.1)).Nodup
 ok:∀p∈L,Ok n e p.1
def h_.len{n e:Nat}(d:n<=20)(o:e<=3){L:Y (Pl×Nat)}(h:h_ n e L): ⇑L<=160000:=by
 let f:(L.map λp=>XS n p.1).Nodup:=by have:=h.nd;rw[ye] at this⊢;have:=gS.1 this;show gS.2 (uv (λ{a b} g i c j=>c (code_inj (h.ok a g) (h.ok b i) j)) this)
 let k:=iG f λx l=>by let⟨p,m,rfl⟩:=a_.1 l;show pb (h.ok p m)
 let q:n^(e+1)<=20^(e+1):=yK d _;let r:20^(e+1)<=20^4:=yy ∅ ∅;rw[aF] at k;grind
def lookup_none{L:Y (Pl×Nat)}:(L.lookup q).isSome=ak↔q∉L.map (·.1):=by
 induction L with
 | nil=>simp
 | cons a L b=>cbv
def h_.put{n e:Nat}{L:Y (Pl×Nat)}(h:h_ n e L){q:Pl}(g:Ok n e q)(c:(L.lookup q).isSome=ak)(v:Nat):h_ n e (L++ [(q,v)]):=by
 show⟨?_,λp d=> ?_⟩
 ·rw[fB,List.map_singleton,rP];show⟨h.nd,⋯,λa i b f e=> ?_⟩;rw[iW.1 f] at e;show lookup_none.1 c ⋯
 ·obtain z| z:=dc.1 d
  ·show h.ok p z
  ·cbv
def toldP_ok{n e:Nat}{l:LN0}{q:Pl}(h:toldP n e l=J q):Ok n e q:=by
 delta toldP at h;split at h
 ·rename_i c;cases h;let a:=(oV.1 c.2).2.2;rw[show ⇑(l.drop 1)=e by simp;simp[*]] at a;show a
 ·cases h
def toldL_ok:∀{a:LL0} {L:Y (Pl×Nat)},h_ n e L->h_ n e (toldL n e b L a)
 | [],L,h=>h
 | x::a,L,h=>by
   rw[toldL];cases d:toldP n e x.dropLast with
   | none=>show h
   | some q=>
     change h_ n e (if _ then _ else _);split
     ·show h
     ·rename_i c;show toldL_ok (h.put (toldP_ok d) ⋯ _)
abbrev Qg:LL0×Nat×Nat×LL0->Ct:=λ(a,c,d,g)=>P1 [.im (cB Z.CM a c) (), .im b0 d, .im ej g] (dH a/\c<=3/\∀y∈g,y≠ []/\ ⇑y<=1000) (G7 ⇑a c) (toldL ⇑a c d [] g)
def MU{t u:TE}{n e:Nat}{L:Y (Pl×Nat)}{q:Pl}(a:∀p∈L,Ok n e p.1)(b:Ok n e q)(h:N M U t (d5 n e) q)(c:J0 M U u (j6 n e L)):N M U (Z4 t u) e7 (L.lookup q).isSome:=
 N.eq (abj (iT h) c) (by rw[oY b a];cases L.lookup q<;>rfl)
instance [T:Tx Z]:bt "prices_told" 4 (b7 Qg):=by
 show bC 45 ["maze","limit","entries","told","entry","place"] 3 (λ_ nd t=>aO Kc∘dI (cf W) aL (aO (cT Z.CM t W (ay (kc (lX (K:=Z.K) B) W nB (iN (fx fH ai)))))∘bx (l4.pt (je (nL (wZ W)) (je (nL (MG t.hu W W)) (lb (bI lq (aI W (fx fH ai)) W))))) (bP JY) bB∘bP (qR t.hu W W (aI W (fx fH ai)) B))∘pR W) ?_;ext⟨c,e,d,g⟩ w;let⟨b,I,Q⟩:=w;show aE (eh NA λa=> ?_);show aE (k_ (λi j k=>∃L,j= [m4 a (j6 ⇑c e L)]/\k= [.im (cB Z.CM c e) (), .im b0 d, .im ej g, .im b6 a, .no, .no]/\h_ ⇑c e L/\toldL ⇑c e d [] g=toldL ⇑c e d L (g.drop i)) (bX O) ⟨_,Le.refl _, [],B,B,⟨∅,λ_ h=>nomatch h⟩,B⟩ ?_ ?_)
 ·ext i x j k E ⟨L,rfl,rfl,n,f⟩;let⟨A,Dq⟩:=Q x (cD E);let o:=dZ.1 E;rw[lB o.1,o.2,toldL] at f;let l:x.getLast? =J (x.getLastD 0):=by rw[jP];cases h:x.getLast? with| none=>show aN (Ef.1 h) A| some y=>rfl
  show⟨_, [4],aJ,bo (eM (_,_,_) O (a1 (N.eq (nP O ma (iq (fX aw))) (Xu x))) ⟨b,⋯⟩) ?_⟩;cases C:toldP ⇑c e x.dropLast with
  | none=>rw[C] at f;show cZ (b4.eq (hJ (c:=aa) (d:=aa) (bh (mj O λG v r=>by cases(show v=_ from r);rfl)) λh=>nomatch h) B) (AZ ?_);show AX (j:=0) (i:=3) B B (aA O ⟨(),B,λG v r=>∅⟩)
  | some q=>
    rw[C] at f;let D:=toldP_ok C;let H:∀M,N M [.im (cB Z.CM c e) (), .im b0 d, .im ej g, .im b6 a, .im aB x, .im (Z1 ⇑c e) (J q)] (p3 5) (d5 ⇑c e) q:=λM=>N.pT (O B) λG v r=>r;let s:∀M,N M [.im (cB Z.CM c e) (), .im b0 d, .im ej g, .im b6 a, .im aB x, .im (Z1 ⇑c e) (J q)] (d9 (E4 Z.K) (p3 4) (M9 (G9 λi=>V.int (-i)) (j8 (V.int 1)))) b0 (x.getLastD 0):=λM=>cw O (fX aw) (kg l);show aE (bZ (b:=(L.lookup q).isSome|| decide (d<=x.getLastD 0)) (b4.eq (hJ (c:=ak) (gK (mj O λG v r=>by let⟨p,_,_,rfl,_⟩:=r;rfl)) λ_=>hJ (gK (MU n.ok D (H _) (N.Ox O (j:=0) B))) λ_=>bh (km (aq (s _)) (aq O))) ?_) (λm=>AZ ?_) (λm=>cA ?_))
    ·lk
    ·let f:toldL ⇑c e d [] g=if(L.lookup q).isSome=aa\/d<=x.getLastD 0 then L else toldL ⇑c e d (L++ [(q,x.getLastD 0)]) (g.drop (i+1)):=f;rw[ar ⋯] at f;show AX (j:=0) (i:=3) B B (aA O ⟨(),B,λG v r=>⋯⟩)
    ·let m:(L.lookup q).isSome=ak/\x.getLastD 0<d:=by simpa using m
     let f:toldL ⇑c e d [] g=if(L.lookup q).isSome=aa\/d<=x.getLastD 0 then L else toldL ⇑c e d (L++ [(q,x.getLastD 0)]) (g.drop (i+1)):=f;rw[aj (λz=>z.elim (λz=>⋯) (λz=>aN m.2 (Nat.not_lt.2 z)))] at f;let ud:=n.len b.len I;show Lk (j:=0) (v:= .int (x.getLastD 0:Nat)) (i:=cd ⇑c e q) (s _) O B (iT (H _)) (λG u r=>r) (by rw[BK,bM];lk) ⟨_, .eq (.eq (.eq (.eq (.no (.no .nil))))),L++ [(q,x.getLastD 0)],?_,B,n.put D m.1 _,f⟩;change [m4 a (putK (j6 ⇑c e L) (k3 (cd ⇑c e q)) (.int (x.getLastD 0:Nat)))]=_;rw[LI n.ok D];delta A9;rw[aj];rw[iC];ext⟨p,w,z⟩;show lookup_none.1 m.1 (a_.2 ⟨p,w,eN z⟩)
 ·ext j k ⟨L,rfl,rfl,n,f⟩;rw[uM,toldL] at f;show AX (j:=0) (i:=3) B B (aA O ⟨(),B,λG v r=>∅⟩)
def C5(a:LL0)(b:Nat)(L:Y (Pl×Nat)):Nat->Y (Pl×Nat)->LN0
 | _, []=> []
 | i,x::r=>match(i9 a x.1.holes).find? λy=>decide (x.2+1<(L.lookup (bH x.1 y)).getD b)with
   | some y=> [3,i,y.from_,y.to_]
   | none=>C5 a b L (i+1) r
def u7(a:LL0)(b:Nat)(L:Y (Pl×Nat))(q:Pl)(c:Y Pl):LN0:=
 if(L.lookup q).isSome=aa then [1] else match c.find? λs=>(L.lookup s).getD b !=0 with
  | some s=>2::fQ s
  | none=>C5 a b L 0 L
abbrev EM:LL0×Nat×Nat×Y (Pl×Nat)×Pl×Y Pl->Ct:=λ(a,c,d,g,h,i)=>P1 [.im (cB Z.CM a c) (), .im b0 d, .im (G7 ⇑a c) g, .im (d5 ⇑a c) h, .im (eList (d5 ⇑a c)) i] (dH a/\c<=3/\h_ ⇑a c g/\Ok ⇑a c h/\(∀y∈i,Ok ⇑a c y)/\ ⇑i<=160000) aB (u7 a d g h i)
def Kr{n e:Nat}{L:Y (Pl×Nat)}(b:∀p∈L,Ok n e p.1){t:Pl}(c:Ok n e t){d tb f:TE}{a:Nat}(g:J0 M U d (j6 n e L))(i:N M U tb (d5 n e) t)(j:N M U f b0 a):N M U (P8 d tb f) b0 ((L.lookup t).getD a):=by
 show KG g (iT i) j λG v=>⟨λh=> ?_,λh r=> ?_⟩
 ·rw[oY c b] at h;cases q:L.lookup t with
  | none=>rw[q] at h;cases h
  | some w=>rw[q] at h;show(bu h).symm
 ·rw[oY c b] at h;cases q:L.lookup t with
  | none=>show r
  | some w=>rw[q] at h;cases h
def lookup_mem{L:Y (Pl×Nat)}(h:(L.map (·.1)).Nodup){x:Pl×Nat}(b:x∈L):L.lookup x.1=J x.2:=by
 induction L with
 | nil=>cases b
 | cons a L c=>lk
def ZC{a:Type}{l:Y a}{p:a->Bool}{j:Nat}{y:a}(h:l[j]? =J y)(c:p y=aa)(d:∀z∈l.take j,p z=ak):l.find? p=J y:=by
 let b:=dZ.1 h
 conv=>lhs;rw[<-ER j l,lB b.1,b.2,XO]
 rw[rO.2 (λz e=>∅),List.find?_cons_of_pos c];rfl
instance [T:Tx Z]:bt "why_unproved" 3 (b7 EM):=by
 show bC 46 ["maze","limit","told","place","meeting","unmet","one","number","here","start","end","after"] 5 (λ_ nd D=>bx (nL (MG D.hu W W)) (pR (aY (ay ai))) bB∘hX 5 [6] nd (cf W) (λ_=>aL) (λ_=>(eV (bI gG (vU D.hu W W W ⟨B,B,B,B⟩) ai))) (λ_=>W)∘bx (b_ W) (pR (bw gF (aY (ay ai)) (cT Z.CM D W (ay (aI W ai))))) bB∘dI (kx (ay (ky (SU B) (ay W)))) (dy 2 (bG aL (bG aL du))) (bP (dI (cf (cT Z.CM D W (ay W))) (dy 3 (bG aL (bG aL (bG aL du)))) (bP (bx (bI kl (vU D.hu W W W ⟨B,B,B,B⟩) (bw fJ (tX D.hu W W) ai)) (pR (aY (iz ai W W W))) bB))))∘pR (aY cQ)) ?_;ext⟨d,e,f,L,q,g⟩ hp;dsimp only[EM] at hp⊢;let⟨b,he,E,hq,hm,Od⟩:=hp;show aE (bZ (gK (MU E.ok hq O (N.dp O))) (λn=> ?_) (λn=>cA ?_))
 ·show aA (cv (bj (dD B) bN)) ⟨(),B,λG v r=> ?_⟩;have:u7 d f L q g= [1]:=by delta u7;rw[ar n]
  rw[this];show r
 let w:u7 d f L q g=match g.find? λs=>(L.lookup s).getD f !=0 with| some s=>2::fQ s| none=>C5 d f L 0 L:=by delta u7;rw[aj (by rw[n];decide)]
 show bo (N.eq (eJ (bX O) (λs=>(L.lookup s).getD f !=0) (λt=>t) (λt ht=>⟨_,aJ,b4.eq (bh (fK (aq (Kr E.ok (hm t ht) (N.dp O) O O)) aw)) ?_,λ_=>O⟩) (cN Od)) (ng _)) ?_
 ·rw[cE];simp
 rw[<-GH] at w;generalize hU:g.filter (λs=>(L.lookup s).getD f !=0)=c at w;show aE (bZ (bT O) (λn=> ?_) (λn=>cA ?_))
 ·cases c with
  | nil=>cases n
  | cons u c=>let hu:Ok ⇑d e u:=hm u (cz.1 (by rw[hU];simp)).1;show aA (N.eq (fY (cv (bj (dD B) bN)) (eM (_,_,_) O (a1 (cw O aw (fV B))) ⟨b,hu,he⟩) ?_) (show _=u7 d f L q g by rw[w];rfl));let h3:=hu.len;change 1+(⇑u.holes+1)<=aV;rw[bM];lk
 have hU0:c= []:=∅;subst hU0;replace w:u7 d f L q g=C5 d f L 0 L:=w;let A:N [] ([.im (cB Z.CM d e) (), .im b0 f, .im (G7 ⇑d e) L, .im (d5 ⇑d e) q, .im (eList (d5 ⇑d e)) g, .im (eList (d5 ⇑d e)) [], .no, .no, .no, .no, .no, .no]) (j5 Y6 (b8 (p3 2) c7)) (eList (d5 ⇑d e)) (L.map (·.1)):=by
  show N.lp (e':=d5 ⇑d e) (cd ⇑d e) (N.eq (Xl (l:=L.map λp=>(cd ⇑d e p.1,V.int (p.2:Int))) ?_) ?_) λG v a _ r=>r
  ·have:=N.dp (L:=L) (n:=⇑d) (e:=e) (M:= []) (U:= [.im (cB Z.CM d e) (), .im b0 f, .im (G7 ⇑d e) L, .im (d5 ⇑d e) q, .im (eList (d5 ⇑d e)) g, .im (eList (d5 ⇑d e)) [], .no, .no, .no, .no, .no, .no]) (t:=p3 2) O;delta j6 k7 at this;rw[bS] at this⊢;show this
  ·cbv
 show aE (k_ (λi k l=>k= []/\l= [.im (cB Z.CM d e) (), .im b0 f, .im (G7 ⇑d e) L, .im (d5 ⇑d e) q, .im (eList (d5 ⇑d e)) g, .no, .no, .no, .no, .no, .no, .no]/\C5 d f L 0 L=C5 d f L i (L.drop i)) (kf A) ⟨_, .eq (.eq (.eq (.eq (.eq (.no (.no (.no (.no (.no (.no (.no .nil))))))))))),B,B,B⟩ ?_ ?_)
 ·ext i ⟨i',h⟩ k l hi ⟨rfl,rfl,o⟩;rw[cP,yw,cP] at hi;obtain⟨x,hx,rfl,rfl⟩:∃x,L[i]? =J x/\i=i'/\x.1=h:=⋯;let H:=dZ.1 hx;rw[lB H.1,H.2,C5] at o;let I:=cD hx;let C:=E.ok x I;let hlk:L.lookup x.1=J x.2:=lookup_mem E.nd I;show⟨_, [7,8],ef aJ aJ,k_ (λj k l=>k= []/\l= [.im (cB Z.CM d e) (), .im b0 f, .im (G7 ⇑d e) L, .im (d5 ⇑d e) q, .im (eList (d5 ⇑d e)) g, .no, .no, .im b0 i, .im (d5 ⇑d e) x.1, .no, .no, .no]/\∀y∈(i9 d x.1.holes).take j,decide (x.2+1<(L.lookup (bH x.1 y)).getD f)=ak) (bX (eM (_,_,_) O (a1 O) ⟨b,C⟩)) ⟨_,Le.refl _,B,B,λy Q=>∅⟩ ?_ ?_⟩
  ·ext j ⟨st,en,af⟩ k l hj ⟨rfl,rfl,m⟩;delta T5 at hj;rw[cP] at hj;obtain⟨y,Q,rfl,rfl,rfl⟩:∃y,(i9 d x.1.holes)[j]? =J y/\y.from_=st/\y.to_=en/\bH x.1 y=af:=∅;let hym:=cD Q;let hmo:=xt b C hym;show⟨_, [9,10,11],qS aJ aJ aJ,bZ (b:=decide (x.2+1<(L.lookup (bH x.1 y)).getD f)) (b4.eq (bh (jg (aq (Kr E.ok hmo (N.dp O) O O)) (fj (aq (LQ (i:=cd ⇑d e x.1) (v:= .int (x.2:Nat)) (e:=b0) (N.dp O) (iT O) (by rw[oY C E.ok,hlk];rfl) λG=>B)) aw))) ?_) (λn=> ?_) (λn=>cA ?_)⟩
   ·lk
   ·show aA (cv (bj (dD B) (bj O (bj O (bj O bN))))) ⟨(),B,λG v r=> ?_⟩;let hf:(i9 d x.1.holes).find? (λy=>decide (x.2+1<(L.lookup (bH x.1 y)).getD f))=J y:=ZC Q n m;rw[hf] at o;change aB.rep G v (u7 d f L q g);rw[w,o];show r
   ·show⟨_, .eq (.eq (.eq (.eq (.eq (.no (.no (.eq (.eq (.no (.no (.no .nil))))))))))),B,B,λz hz=> ?_⟩;rw[take_snoc Q] at hz;obtain z1| z1:=dc.1 hz
    ·show m z z1
    ·cbv
  ·ext k l ⟨rfl,rfl,m⟩;delta T5 at m;rw[aF,fe] at m;let hf:(i9 d x.1.holes).find? (λy=>decide (x.2+1<(L.lookup (bH x.1 y)).getD f))=none:=rO.2 λy Q=>∅;rw[hf] at o;show⟨_, .eq (.eq (.eq (.eq (.eq (.no (.no (.no (.no (.no (.no (.no .nil))))))))))),B,B,o⟩
 ·ext k l ⟨rfl,rfl,o⟩;let e1: ⇑((L.map (·.1)).zipIdx.map λx=>(x.2,x.1))=⇑L:=⋯;rw[e1,uM,C5] at o;show aA (cv (e:=b0) bN) ⟨(),B,λG v r=> ?_⟩;change aB.rep G v (u7 d f L q g);rw[w,o];show r
abbrev iU:Enc cI:=eList ej
abbrev Mi(x:Str):Ct:=P1 [.im Q9 x] (⇑x.cps.toList<=1000) aB x.cps.toList
instance [T:Tx Z]:bt "codes" 1 (b7 Mi):=by
 show bC 28 ["word","sign"] 1 (λ_ d f=>pR (dg [1] d (aaH W) (λ_=>aL) (λ_=>d_) (λ_=>(dj lZ (ay W))))) ?_;ext x b;replace b: ⇑x.cps.toList<=1000:=b;show aA (N.eq (ei (abh O) (λs=>s.cps.getD 0 0) (λa e=>⟨_,aJ,mi O ?_ B⟩) (by rw[aF];show cN b)) ?_)
 ·let⟨c,_,rfl⟩:=a_.1 e;rfl
 ·rw[bS];show(iV λc _=>B).trans (vK _)
def wQ(h:N M U t Q9 x)(a: ⇑x.cps.toList<=1000):N M U (v9 (b7 Mi) [] E0 (b8 t c7)) aB x.cps.toList:=
 wL x () (df h dn) a B
abbrev OQ(x:Nat):Ct:=P1 [.im b0 x] True e7 (B7 x)
def IU(a x b:Nat):(decide ((a:Int)<=(x:Int)) && decide ((x:Int)<=(b:Int)))=(decide (a<=x) && decide (x<=b)):=by rw[cE];simp
instance [T:Tx Z]:bt "is_small_letter" 1 (b7 OQ):=by show bC 32 ["byte"] 1 (λ_ a b=>pR (Kd hW hW (dj lZ (ay jF)) W (dj lZ (ay jF)))) ?_;ext x c;show aA (N.eq (lR (aq (mi jc B B)) (aq O) (aq (mi jc B B))) (IU 97 x 122))
abbrev Jq(l:LN0):Ct:=P1 [.im aB l] True e7 (C0 l)
instance [T:Tx Z]:bt "is_name" 2 (b7 Jq):=by
 show bC 31 ["name","byte"] 1 (λ_ d b=>bx (l4.pt (je (hE (oT hW hW ai (cb W) dr)) (lb (hE (b_ (aR b (ay (aI W ai)))))))) (pR rd) bB∘pR (dj (BQ (K:=Z.K) B B) (ay (dg [1] d (cf W) (λ_=>aL) (λ_=>d_) (λ_=>(Nw (aR b (ay W)) (gE (Kd hW hW (dj lZ (ay jF)) W (dj lZ (ay jF)))))))))) ?_;ext l e;dsimp only[Jq] at e⊢;cases c:1<= ⇑l/\ ⇑l<=12
 ·refine aE (bZ (b4.eq (hJ (b4.eq (fi (gK (lR aw (aq (bU O)) aw))) ?_) λ_=>fi (eI (eC _ (a1 (cw O aw (BM ⋯))) trivial))) (JD _)) (λa=> ?_) (λa=>cA ?_))
  ·lk
  ·show aA oZ ⟨(),B,λG v r=> ?_⟩;have:C0 l=false:=by delta C0;rw[show B7 (l.headD 0)=ak by simpa using a];simp
   rw[this];show r
  ·show aA (N.eq (xf (ei (bX O) (λx=>B7 x|| O3 x) (λx g=>⟨_,aJ,NF (eC _ (a1 O) trivial) λ_=>N.eq (lR (aq (mi jc B B)) (aq O) (aq (mi jc B B))) (IU 48 x 57)⟩) (by rw[bM];lk))) ?_);let f:B7 (l.headD 0)=true:=⋯;change _=C0 l;delta C0;rw[f,gX c.1,gX c.2,vz];rfl
 ·refine aE (bZ (b:=aa) (b4.eq (hJ (c:=aa) (d:=aa) (b4.eq (fi (gK (lR aw (aq (bU O)) aw))) ?_) λh=>nomatch h) B) (λa=> ?_) (λa=>nomatch a))
  ·lk
  ·show aA oZ ⟨(),B,λG v r=> ?_⟩;have:C0 l=false:=by delta C0;simp;lk
   rw[this];show r
abbrev QP(l:LN0):Ct:=P1 [.im aB l] True e7 (C2 l)
instance [T:Tx Z]:bt "is_heading" 3 (b7 QP):=by show bC 30 ["line"] 1 (λ_ b a=>pR (nN (fN (sS (K:=Z.K) B a.units) (kc (lX (K:=Z.K) B) W nB (iN ai)) (aR a (ay jF))) (gE (aR a (ay (kc (lX (K:=Z.K) B) W (iN ai) nB)))))) ?_;ext l c;show aA (nQ (N.eq (tE (N.eq (nP O ma (iq aw)) (abu l 5)) (wQ jc ⋯)) (show _=decide (l.take 5= [112,97,114,107,32])from B)) λ_=>eC _ (a1 (N.eq (nP O (iq aw) ma) (qM l 5))) trivial)
abbrev XC(l:LN0):Ct:=P1 [.im aB l] (⇑l<=10000000) e7 (J9 l)
instance [T:Tx Z]:bt "is_row" 2 (b7 XC):=by
 show bC 33 ["line","sign"] 1 (λ_ b c=>pR (nN (fN kl (cb W) ai) (gE (dj (BQ (K:=Z.K) B B) (ay (dg [1] b (cf W) (λ_=>aL) (λ_=>d_) (λ_=>(wz (vm (K:=Z.K) B) W (aR c (ay jF)) B)))))))) ?_;ext l a;replace a: ⇑l<=10000000:=a;show aA (N.eq (nQ (jg (aq (bU O)) aw) λ_=>xf (ei (bX O) (λx=> [35,46,67,76].contains x) (λx d=>⟨_,aJ,tK O (wQ jc ⋯)⟩) (cN a))) ?_);change _=J9 l;delta J9;rw[vz];congr 1
 ·rw[cE];simp
 ·congr 1;funext x;erw[gk,id,U5,yO,GI,vd]
def S7(F:cI)(q:Nat×NN0):Prop:=q.1<⇑F/\q.2.1<⇑(F.getD q.1 [])/\q.2.2<⇑((F.getD q.1 []).getD q.2.1 [])
abbrev Vv:cI×(Nat×NN0)->Ct:=λ(a,c)=>P1 [.im iU a, .im fb c] (S7 a c) b0 (L3 a c)
instance [T:Tx Z]:bt "sign_at" 1 (b7 Vv):=by show bC 39 ["floors","square"] 2 (λ_ e f=>pR (aI (aI (aI W (dm W ai)) (dm W ai)) (dm W ai))) ?_;ext⟨F,q⟩ a;let⟨b,c,d⟩:=a;let t:N [] [.im iU F, .im fb q] (p3 1) (l9 b0) [q.1,q.2.1,q.2.2]:=N.rk O;show aA (cw (cw (cw O (aq (pA t aw (fV B))) (at_getD b)) (aq (pA t aw (fM B))) (at_getD c)) (aq (pA t aw (fM B))) (at_getD d))
abbrev OK(F:cI):Ct:=P1 [.im iU F] True e7 (M7 F)
def wC(h:F≠ []):F.getLast? =J (k5 F):=by delta k5;rw[jP];cases z:F.getLast? with| none=>show aN (Ef.1 z) h| some y=>rfl
def KD(h:F≠ []):F[0]? =J (F.headD []):=by cases F with| nil=>show aN B h| cons a l=>rfl
instance [T:Tx Z]:bt "has_too_few_rows" 1 (b7 OK):=by
 show bC 36 ["floors"] 1 (λ_ b c=>pR (nN (fN kl (cb W) ai) (gE (fN gH (cb (aI W (fx fH ai))) (cb (aI W ai)))))) ?_;ext F d;show aA (N.eq (nQ (N.eq (jg (aq (bU O)) aw) ?_) λh=> ?_) B)
 ·rw[cE];simp
 ·let a:F≠ []:=by ext z;subst z;simp at h
  show N.eq (fz (aq (bU (cw O (fX aw) (kg (wC a))))) (aq (bU (cw O aw (fV (KD a)))))) ?_;rw[cE];simp[C1]
abbrev Fh(F:cI):Ct:=P1 [.im iU F] True b0 (B5 F)
instance [T:Tx Z]:bt "floor_fault" 2 (b7 Fh):=by
 show bC 34 ["floors"] 1 (λ_ f d=>bx (l4.pt (nJ (b_ W) (ny (hE (b_ (aI W (fx fH ai))))))) (pR ai) bB∘bx (b_ (aR d (ay W))) (pR ai) bB∘bx (bI dG (cb W) dr) (pR ai) bB∘pR ai) ?_;ext F e;dsimp only[Fh] at e⊢;show aE (bZ (b:=decide (F≠ []/\k5 F= [])) (b4.eq (jE (c:= !F.isEmpty) (d:= !!(k5 F).isEmpty) (bT O) λh=>fi (bT (cw O (fX aw) (kg (wC ∅))))) ?_) (λa=> ?_) (λa=>cA ?_))
 ·rw[cE];simp
 ·let a:=eN a;show aA (dD (n:=1) B) ⟨(),B,λG v r=> ?_⟩;have:B5 F=1:=by delta B5;rw[ar a]
  rw[this];show r
 let b:=gR a;show aE (bZ (eI (eC _ (a1 O) trivial)) (λa=> ?_) (λa=>cA ?_))
 ·show aA (dD (n:=3) B) ⟨(),B,λG v r=> ?_⟩;have:B5 F=3:=by delta B5;rw[aj b,ar a]
  rw[this];show r
 let c:¬M7 F=true:=∅;show aE (bZ (b:=decide (⇑F=4)) (b4.eq (bh (dP (aq (bU O)) aw)) ?_) (λa=> ?_) (λa=>cA ?_))
 ·lk
 ·show aA (dD (n:=4) B) ⟨(),B,λG v r=> ?_⟩;have:B5 F=4:=by delta B5;rw[aj b,aj c,ar (eN a)]
  rw[this];show r
 ·show aA (dD (n:=0) B) ⟨(),B,λG v r=> ?_⟩;have:B5 F=0:=by delta B5;rw[aj b,aj c,aj (gR a)]
  rw[this];show r
def T9(i j:Nat)(r:LN0):Y (Nat×NN0):=(r.zipIdx.filter λs=>s.1 !=35).map λs=>(i,j,s.2)
def M6(i:Nat)(l:Y (LN0×Nat)):Y (Nat×NN0):=l.flatMap λr=>T9 i r.2 r.1
def N1(l:Y (LL0×Nat)):Y (Nat×NN0):=l.flatMap λf=>M6 f.2 f.1.zipIdx
def aaq(F:cI):N1 F.zipIdx=m5 F:=B
abbrev PH(F:cI):Ct:=P1 [.im iU F] (l5 F<=100000/\∀f∈F,∀r∈f,⇑r<=100000) (eList fb) (m5 F)
def Fz{a b:Type}(f:a->Y b)(l:Y a)(i:Nat): ⇑((l.take i).flatMap f)<= ⇑(l.flatMap f):=by
 conv=>rhs;rw[<-ER i l,jr,dA]
 lk
instance [T:Tx Z]:bt "cell_squares" 1 (b7 PH):=by
 show bC 38 ["floors","squares","level","floor","line","row","at","sign"] 1 (λ_ m k=>aO (aY cQ)∘dI (kx (ay W)) (dy 2 (bG aL (bG aL du))) (bP (dI (kx (ay W)) (dy 2 (bG aL (bG aL du))) (bP (fh (eX (K:=Z.K) B eB mH mG lU W (ay (dg [6,7] m (kx (ay W)) (λ_=>(dy 2 (bG aL (bG aL du)))) (λ_=>(eV (bI gG W (dj lZ (ay jF))))) (λ_=>(fI (c_ W W W))))))))))∘pR W) ?_;ext F n;let⟨o,k⟩:=n;let b: ⇑(N1 F.zipIdx)<=100000:=by rw[aaq,mW];show o
 show aE (eh (iu (e:=fb) bN ∅) λa=> ?_);show aE (hB (λi=> [c8 a fb (N1 (F.zipIdx.take i))]) (λi=> [.im iU F, .im b6 a, .no, .no, .no, .no, .no, .no]) (kf O) B (Le.refl _) (λi x p=> ?_) ?_)
 ·let⟨e,q,f⟩:=tq p;let l:N1 (F.zipIdx.take (i+1))=N1 (F.zipIdx.take i)++M6 x.1 x.2.zipIdx:=by rw[take_snoc f];delta N1;rw[jr,lE]
  let c: ⇑(N1 (F.zipIdx.take (i+1)))<=100000:=da (Fz _ _ _) b;rw[l,dA] at c;generalize v:N1 (F.zipIdx.take i)=A at l c;show⟨_, [2,3],ef aJ aJ,hB (λj=> [c8 a fb (A++M6 x.1 (x.2.zipIdx.take j))]) (λj=> [.im iU F, .im b6 a, .im b0 x.1, .im ej x.2, .no, .no, .no, .no]) (kf O) (by rw[kS];change _= [c8 a fb (A++ [])];rw[eS]) (Le.refl _) (λj y r=> ?_) ⟨?_, .eq (.eq (.no (.no (.no (.no (.no (.no .nil)))))))⟩⟩
  ·let⟨g,s,h⟩:=tq r;let t:M6 x.1 (x.2.zipIdx.take (j+1))=M6 x.1 (x.2.zipIdx.take j)++T9 x.1 y.1 y.2:=by rw[take_snoc h];delta M6;rw[jr,lE]
   let d: ⇑(M6 x.1 (x.2.zipIdx.take (j+1)))<= ⇑(M6 x.1 x.2.zipIdx):=Fz _ _ _;rw[t,dA] at d;let u:=k x.2 (cD e) y.2 (cD g);show⟨_, [4,5],ef aJ aJ,lS (j:=0) O B (N.eq (eJ (er:=fb) (kf O) (λz=>z.2 !=35) (λz=>(x.1,y.1,z.1)) (λz w=>⟨_,ef aJ aJ,b4.eq (bh (fK (aq O) (aq (mi (n:=35) jc B B)))) ?_,λ_=>wJ O O O⟩) ?_) (show _=T9 x.1 y.1 y.2 from ?_)) ?_ ⟨?_, .eq (.eq (.eq (.eq (.no (.no (.no (.no .nil)))))))⟩⟩
   ·lk
   ·rw[aF,uE,bM];lk
   ·delta T9;rw[gx,bS];rfl
   ·rw[dA,bM];lk
   ·cbv
  ·lk
 ·rw[aF,uE,show F.zipIdx.take ⇑F=F.zipIdx from rE ⋯];show gr (j:=0) (i:=1) B B (aA O)
def Br(a b:Nat):(if((a:Int)-(b:Int))<0 then-((a:Int)-(b:Int))else((a:Int)-(b:Int)))=((dist a b:Nat):Int):=by delta dist;split<;>lk
abbrev Ek:cI×(Nat×NN0)×(Nat×NN0)->Ct:=λ(a,c,d)=>P1 [.im iU a, .im fb c, .im fb d] (S7 a c/\S7 a d) e7 (B1 a c d)
def N.i0(h:N M U t fb a):N M U (d9 (C7 K) t (j8 (.int 0))) b0 a.1:=pA (N.rk h) aw (fV B)
def N.i1(h:N M U t fb a):N M U (d9 (C7 K) t (j8 (.int 1))) b0 a.2.1:=pA (N.rk h) aw (fM B)
def N.i2(h:N M U t fb a):N M U (d9 (C7 K) t (j8 (.int 2))) b0 a.2.2:=pA (N.rk h) aw (fM B)
instance [T:Tx Z]:bt "are_neighbours" 2 (b7 Ek):=by
 show bC 41 ["floors","one","other"] 3 (λ_ i c=>bx (bI dG (dm W ai) (dm W ai)) (pR (fN dG (bw fJ (dj Bp (ay (bw jG (dm W ai) (dm W ai)))) (dj Bp (ay (bw jG (dm W ai) (dm W ai))))) ai)) bB∘bx (l4.pt (je (bI gG (dj Bp (ay (bw jG (dm W ai) (dm W ai)))) ai) (lb (bI (YO (K:=Z.K) B c.units) (kc (Lr (K:=Z.K) B) W (iN ai) nB) (kc (Lr (K:=Z.K) B) W (iN ai) nB))))) (pR rd) bB∘pR (nN (fN dG (aR c (bc W W)) (dj lZ (ay jF))) (gE (fN dG (aR c (bc W W)) (dj lZ (ay jF)))))) ?_;ext⟨F,a,b⟩ e;dsimp only[Ek] at e⊢;let⟨g,d⟩:=e;show aE (bZ (b:=decide (a.1=b.1)) (b4.eq (bh (dP (aq (N.i0 O)) (aq (N.i0 O)))) ⋯) (λh=> ?_) (λh=>cA ?_))
 ·let h:=eN h;show aA (N.eq (dP (fj (N.eq (xg (jb (aq (N.i1 O)) (aq (N.i1 O)))) (Br a.2.1 b.2.1)) (N.eq (xg (jb (aq (N.i2 O)) (aq (N.i2 O)))) (Br a.2.2 b.2.2))) aw) ?_);change _=B1 F a b;delta B1;rw[ar h,cE,cj,cj];lk
 let f:=gR h;show aE (bZ (b:=decide (dist a.1 b.1≠1\/a.2≠b.2)) (b4.eq (hJ (bh (fK (N.eq (xg (jb (aq (N.i0 O)) (aq (N.i0 O)))) (Br a.1 b.1)) aw)) λ_=>bh (abl (MY (N.rk O) (iq aw) ma (by change¬(HT.d3 3 0 (J 1)=0/\HT.d3 3 3 ah=3);decide)) (MY (N.rk O) (iq aw) ma (by change¬(HT.d3 3 0 (J 1)=0/\HT.d3 3 3 ah=3);decide)))) ?_) (λh=> ?_) (λh=>cA ?_))
 ·rw[show cut [a.1,a.2.1,a.2.2] (J 1) ah= [a.2.1,a.2.2] from qM _ 1,show cut [b.1,b.2.1,b.2.2] (J 1) ah= [b.2.1,b.2.2] from qM _ 1];rw[cE];let⟨_,a1,a2⟩:=a;let⟨_,j,k⟩:=b;simp;lk
 ·show aA oZ ⟨(),B,λG v r=> ?_⟩;have:B1 F a b=false:=by delta B1;rw[aj f,ar (eN h)]
  rw[this];show r
 ·show aA (N.eq (nQ (dP (aq (eC (_,_) (a2 O O) g)) (aq (mi (n:=76) jc B B))) λ_=>dP (aq (eC (_,_) (a2 O O) d)) (aq (mi (n:=76) jc B B))) ?_);change _=B1 F a b;delta B1;rw[aj f,aj (gR h),cE];simp;lk
def Cu(h:q∈m5 F):S7 F q:=by
 delta m5 at h;let⟨f,c,h⟩:=fS.1 h;let⟨r,d,h⟩:=fS.1 h;let⟨s,a,rfl⟩:=a_.1 h;let a:=(cz.1 a).1;let b:=jO.1 c;let e:=jO.1 d;let g:=jO.1 a;let i:F.getD f.2 []=f.1:=by rw[dJ,b];rfl
 let j:f.1.getD r.2 []=r.1:=by rw[dJ,e];rfl
 show⟨(dZ.1 b).1,?_,?_⟩
 ·lk
 ·lk
def T4(F:cI)(a:Nat×NN0):LN0:=((m5 F).zipIdx.filter λp=>B1 F a p.1).map λp=>p.2
abbrev Pj:cI×(Nat×NN0)->Ct:=λ(a,c)=>P1 [.im iU a, .im (eList fb) (m5 a), .im fb c] (S7 a c/\l5 a<=100000) aB (T4 a c)
instance [T:Tx Z]:bt "neighbours_of" 3 (b7 Pj):=by
 show bC 40 ["floors","squares","square","cell","other"] 3 (λ_ b c=>pR (dg [3,4] b (kx (ay W)) (λ_=>(dy 2 (bG aL (bG aL du)))) (λ_=>(eV (b_ (aR c (c_ W W W))))) (λ_=>W))) ?_;ext⟨F,a⟩ d;let⟨e,f⟩:=d;show aA (N.eq (eJ (kf O) (λz=>B1 F a z.2) (λz=>z.1) (λz g=>⟨_,ef aJ aJ,eI (eC (_,_,_) (a3 O O O) ⟨e,(Cu ?_)⟩),λ_=>O⟩) ?_) ?_)
 ·lk
 ·rw[aF,uE,mW,bM];have:l5 F<=100000:=f;lk
 ·change _=T4 F a;delta T4;rw[gx,bS];rfl
structure nY(F:cI):Prop where
 cells:l5 F<=100000
 rows:∀f∈F,∀r∈f,⇑r<=100000
abbrev GA:cI×LN0->Ct:=λ(a,c)=>P1 [.im iU a, .im aB c] (nY a) b0 (N6 a c)
def LB(r:LN0): ⇑(m5 [[r]])=⇑(r.filter λx=>x !=35):=by rw[mW];delta l5;simp
instance [T:Tx Z]:bt "row_fault" 2 (b7 GA):=by
 show bC 35 ["floors","row","first_floor"] 2 (λ_ l d=>bx (hE (b_ W)) (pR ai) bB∘aO (aI W ai)∘bx (l4.pt (nJ (b_ W) (ny (bI gG (cb W) (cb (aI W ai)))))) (pR ai) bB∘bx (l4.pt (nJ (bI kl (cb W) ai) (ny (bI dG (cb (aI W (fx fH ai))) (cb W))))) (pR ai) bB∘bx (l4.pt (je (bI kl (cb W) dr) (lb (l4.pt (nJ (bI dG (cb W) dr) (ny (bI dG (cb W) ai))))))) (pR ai) bB∘bx (bI kl (bw fJ (cb (aR d (ay W))) (cb (aR d (ay (aY (ay (aY (ay W)))))))) dr) (pR ai) bB∘pR ai) ?_;ext⟨F,r⟩ e;dsimp only[GA] at e⊢;let g:nY F:=e;delta N6;cases c:F= []
 ·rw[ar c];show cZ (b4.eq (fi (bT O)) ∅) (aA (dD (n:=1) B))
 rw[aj c];show dF (b4.eq (fi (bT O)) ∅)<| bo (cw O aw (fV (KD c))) ?_
 show aE (bZ (b:=decide (F.headD []≠ []/\ ⇑r≠ ⇑((F.headD []).headD []))) (b4.eq (jE (c:= !(F.headD []).isEmpty) (d:=decide (⇑r≠ ⇑((F.headD []).headD []))) (bT O) λh=>b4.eq (bh (fK (aq (bU O)) (aq (bU (cw (b:=(F.headD []).headD []) O aw (fV (by cases z:F.headD [] with| nil=>rw[z] at h;cases h| cons _ _=>rfl))))))) ⋯) ?_) (λa=> ?_) (λa=>cA ?_))
 ·rw[cE];simp
 ·rw[ar (eN a)];show aA (dD (n:=2) B)
 rw[aj (gR a)];show aE (bZ (b:=decide (1<⇑F/\ ⇑(k5 F)=C1 F)) (b4.eq (jE (c:=decide (1<⇑F)) (d:=decide (⇑(k5 F)=C1 F)) (b4.eq (bh (jg (aq (bU O)) aw)) ⋯) λh=>b4.eq (bh (dP (aq (bU (cw O (fX aw) (kg (wC c))))) (aq (bU O)))) (by delta C1;rw[cE,cj,cj];lk)) ?_) (λa=> ?_) (λa=>cA ?_))
 ·rw[cE];simp
 ·rw[ar (eN a)];show aA (dD (n:=3) B)
 rw[aj (gR a)];show aE (bZ (b:=decide (8<⇑r\/(C1 F=8/\ ⇑F=1))) (b4.eq (hJ (c:=decide (8<⇑r)) (d:=decide (C1 F=8/\ ⇑F=1)) (b4.eq (bh (jg (aq (bU O)) aw)) ⋯) λh=>b4.eq (jE (bh (dP (aq (bU O)) aw)) λ_=>bh (dP (aq (bU O)) aw)) (by delta C1;rw[cE,cn,cj,cj,cj];lk)) ?_) (λa=> ?_) (λa=>cA ?_))
 ·rw[cE];simp
 ·rw[ar (eN a)];show aA (dD (n:=4) B)
 let i:=gR a;rw[aj i];let j: ⇑r<=8:=∅;let b:∀f∈ [[r]],∀x∈f,⇑x<=100000:=λf m x n=>⋯;let k: ⇑(r.filter λx=>x !=35)<= ⇑r:=jq _ _;show aE (bZ (b:=decide (20<l5 F+⇑(r.filter λx=>x !=35))) (b4.eq (bh (jg (fj (aq (bU (eC _ (a1 O) ⟨g.cells,g.rows⟩))) (aq (bU (eC [[r]] (a1 (cv (e:=ej) (bj (cv (e:=aB) (bj O bN)) bN))) ⟨(by rw[<-mW,LB];lk),b⟩)))) aw)) ?_) (λa=> ?_) (λa=>cA ?_))
 ·rw[LB,mW,cE,cj,cj];omega
 ·rw[ar (eN a)];show aA (dD (n:=4) B)
 ·rw[aj (gR a)];show aA (dD (n:=0) B)
def O5(F:cI)(i:Nat)(l:LN0):Nat:=if i=0 then(if C2 l=aa then 0 else 1)else B6 F l
abbrev FI:cI×Nat×LN0->Ct:=λ(a,c,d)=>P1 [.im iU a, .im b0 c, .im aB d] (nY a/\ ⇑d<=10000000) b0 (O5 a c d)
instance [T:Tx Z]:bt "line_fault" 4 (b7 FI):=by
 show bC 29 ["floors","number","line"] 3 (λ_ f b=>bx (bI dG W ai) (pR (il (b_ (aR b (ay W))) ai ai)) bB∘bx (bI (sS (K:=Z.K) B b.units) W (aR b (ay jF))) (pR (aR b (ay W))) bB∘bx (b_ (aR b (ay W))) (pR (aR b (bc W W))) bB∘pR ai) ?_;ext⟨F,i,l⟩ c;dsimp only[FI] at c⊢;let⟨d,e⟩:=c;delta O5 B6;show aE (bZ (b:=decide (i=0)) (b4.eq (bh (dP (aq O) aw)) ∅) (λa=> ?_) (λa=>cA ?_))
 ·rw[ar (eN a)];show aA (gs (eI (eC _ (a1 O) trivial)) (λ_=>dD (n:=0) B) (λ_=>dD (n:=1) B))
 rw[aj (gR a)];show aE (bZ (b:=decide (l=F9)) (bh (tE O (wQ jc ⋯))) (λa=> ?_) (λa=>cA ?_))
 ·rw[ar (eN a)];show aA (eC _ (a1 O) trivial)
 rw[aj (gR a)];show aE (bZ (eI (eC _ (a1 O) e)) (λa=> ?_) (λa=>cA ?_))
 ·rw[ar a];show aA (eC (_,_) (a2 O O) d)
 ·rw[aj ∅];show aA (dD (n:=1) B)
abbrev Fe(t:LN0):Ct:={U:= [.im aB t],pre:=⇑t<=10000000,ga0:=ab,kq0:=λp=> [c8 p aB (i4 10 t)],be0:=ab,e:=b6,b:=λp=>p}
instance [T:Tx Z]:bt "split_lines" 1 (b7 Fe):=by
 show bC 27 ["text","lines","line","byte"] 1 (λ_ p q=>aO (aY cQ)∘aO (aY cQ)∘dI (cf W) aL (bP (bx (bI dG W dr) (fh (eX (K:=Z.K) B eB kE kD kb W (ay W))∘bP (aO (aY cQ))) (bP (fh (eX (K:=Z.K) B eB kE kD kb W (ay W))))))∘fh (eX (K:=Z.K) B eB kE kD kb W (ay W))∘pR W) ?_;ext t h;let s: ⇑t<=10000000:=h;show aE (eh (iu (e:=aB) bN ∅) λa=> ?_);show aE (eh (iu (e:=b0) bN ∅) λb=> ?_);show aE (k_ (λi d e=>∃b L l,d= [c8 a aB L,c8 b b0 l]/\e= [.im aB t, .im b6 a, .im b6 b, .no]/\F2 [] [] t=F2 L l (t.drop i)/\ ⇑L<=i/\ ⇑l<=i) (bX O) ⟨_,Le.refl _,b, [], [],B,B,B,br _,br _⟩ ?_ ?_)
 ·ext i x d e j ⟨b,L,l,rfl,rfl,c,k,m⟩;let f:=dZ.1 j;rw[lB f.1,f.2,F2] at c;let n:=f.1;show⟨_, [3],aJ,bZ (b:=decide (x=10)) (b4.eq (bh (dP (aq O) aw)) ⋯) (λg=> ?_) (λg=> ?_)⟩
  ·rw[ar (eN g)] at c;show gr (j:=1) (i:=2) B B (aE (lT (j:=0) (O B) B (O B) (by rw[bM];lk) (eh (iu (e:=b0) bN ∅) λo=> ?_)));show⟨_, .eq (.eq (.eq (.no .nil))),o,L++ [l], [],B,B,c,∅,eT _⟩
  ·rw[aj (gR g)] at c;show lT (j:=1) O B O (by rw[bM];lk)<| ⟨_, .eq (.eq (.eq (.no .nil))),b,L,l++ [x],B,B,c,∅,∅⟩
 ·ext d e ⟨b,L,l,rfl,rfl,c,k,m⟩;rw[uM,F2,Sr] at c;show gr (j:=1) (i:=2) B B (aE (lT (j:=0) (O B) B (O B) (by rw[bM];lk) (aA (O B) ⟨a,?_,λG v r=>r⟩)));change [c8 a aB (L++ [l])]= [c8 a aB (i4 10 t)];rw[c]
def U2(F:cI):Y (Str×En):= [("cell_count", .im b0 ⇑(m5 F)),("cabins", .im aB (A5 F)),("neighbours", .im ej (v8 F))]
def Wx(P:vx):U2 (d4 P.floors)=U3 P:=by delta U2 U3;rw[<-count_eq,<-Jk,<-vX]
abbrev yt:ab×cI->Ct:=λ(a,c)=>{M:= [rObj a Z.CP []],U:= [.im b6 a, .im iU c],pre:=nY c,kq0:=λ_=> [rObj a Z.CP (U2 c)],be0:=Unit,e:=A8,b:=λ_=>()}
instance [T:Tx Z]:oj "Plan" Z.CP 4 (b7 yt):=by
 show(eZ 11 25 0 "Plan.__init__" ["self","floors","squares","cell","square"] 2 (λ_ c b=>aO (aR b (ay W))∘ez W (cb W)∘ez W (dg [3,4] c (kx (ay W)) (λ_=>(dy 2 (bG aL (bG aL du)))) (λ_=>(eV (bI dG (aR b (bc W W)) (dj lZ (ay jF))))) (λ_=>W))∘bP (ez W (dg [4] c (cf W) (λ_=>aL) (λ_=>d_) (λ_=>(aR b (c_ W W W)))))) ?_).2 B;ext⟨p,F⟩ e;let a:nY F:=e;let f: ⇑(m5 F)<=100000:=by rw[mW];show a.cells
 show bo (eC _ (a1 O) ⟨a.cells,a.rows⟩)<| aE (eW (j:=0) (bU O) B O (el B) ?_)
 show aE (eW (j:=0) (N.eq (eJ (er:=b0) (kf O) (λz=>L3 F z.2==67) (λz=>z.1) (λz d=>⟨_,ef aJ aJ,b4.eq (bh (dP (aq (eC (_,_) (a2 O O) (Cu ?_))) (aq (mi (n:=67) jc B B)))) ?_,λ_=>O⟩) ?_) (show _=A5 F from ?_)) B O (el B) ?_)
 ·lk
 ·lk
 ·rw[aF,uE,bM];lk
 ·delta A5;rw[gx,bS];rfl
 show eW (j:=0) (ei (er:=aB) (bX O) (T4 F) (λz d=>⟨_,aJ,eC (_,_) (a3 O O O) ⟨(Cu d),a.cells⟩⟩) ?_) B O (el B) ⟨(),B,λG=>B⟩;rw[bM];lk
def v5(R:LN0):Y (Key×V):=R.map λ(i:Nat)=>(.inl (i:Int),V.bl aa)
def Cw:∀{R:LN0} {c:Nat},(d2 (v5 R) (.inl (c:Int))).isSome=aa↔c∈R
 | [],c=>by simp[v5,d2]
 | a::R,c=>by
   let b:=Cw (R:=R) (c:=c);change(d2 ((.inl (a:Int),V.bl aa)::v5 R) _).isSome=aa↔_;cases h:c=a
   ·subst h;rw[iF B];simp
   ·rw[ik (λz=>h ⋯),b];simp[h]
def abe{R:LN0}{c:Nat}(h:c∉R):putK (v5 R) (.inl (c:Int)) (.bl aa)=v5 (R++ [c]):=by
 rw[R3.sH]
 ·delta v5;rw[fB];rfl
 ·ext q a z;let⟨i,b,rfl⟩:=a_.1 a;have:=vA z;show h ⋯
def WM:r8 M U (ad9 [(j8 (.int 0),j8 (.bl aa))]) λp=>j1 p (v5 [0]):=λG H c s w l Q k p a=>by
 refine⟨bg, [(.inl 0, .bl aa)],B,⋯,?_⟩;let e:upd (upd H p (.dK [])) p (.dK (z0 [] [(.inl 0, .bl aa)]))=upd H p (.dK (v5 [0])):=by
  funext b;cases h:b=p
  ·subst h;rw[bg,bg];rfl
  ·rw[aS h,aS h,aS h]
 rw[e];show k p _ _ (To.own s w a (j1 p (v5 [0])) (λb=>pB) bg)
structure Mid(kN:LL0)(h j:Nat)(R wt:LN0):Prop where
 nd:R.Nodup
 zero:0∈R
 sound:∀i∈R,∃d,Reach kN d i
 lt:∀i∈R,i<⇑kN
 sub:∀i∈wt,i∈R
 here:h∈R
 closed:∀i∈R,i∈wt\/i=h\/∀j∈kN.getD i [],j∈R
 got:∀i∈(kN.getD h []).take j,i∈R
abbrev OY:LL0×Bool->Ct:=λ(a,c)=>P1 [.im ej a] ((∀i,∀j∈a.getD i [],j<⇑a)/\0<⇑a/\ ⇑a<=100000/\(c=aa↔F8 a)) e7 c
instance [T:Tx Z]:bt "hangs_together" 1 (b7 OY):=by
 show bC 42 ["neighbours","reached","waiting","here","cell"] 1 (λ_ nd hr=>aO (YJ (Wv ai rd Yy) B B (by simp) (by decide))∘aO (aY (ay ai))∘xD (b_ W) (aO (BF (K:=Z.K) B eB Rh Rg MP W)∘bP (dI (cf (aI W W)) aL (bP (bx (nL (IM hr.hu W W)) (qR hr.hu W W rd B∘bP (fh (eX (K:=Z.K) B eB kE kD kb W (ay W)))) bB))))∘pR (fN dG (dj Vk (ay W)) (cb W))) ?_;ext⟨g,wh⟩ hp;let⟨I,h0,hn,hw⟩:=hp;show aE (eh WM λa=> ?_);show aE (eh (iu (bj (dD B) bN) ⋯) λb=> ?_);show aE (vP (λm n o=>∃R p,n= [j1 a (v5 R),c8 b b0 p]/\o= [.im ej g, .im b6 a, .im b6 b, .no, .no]/\Cn g R p/\(∀i∈R,i<⇑g)/\m=2*(⇑g- ⇑R)+⇑p/\m<=2*⇑g) ⟨_, [0], [0],B,B,⟨⋯,∅,λi k=> ?_,λi k=>k,λi k=> .inl k⟩,λi k=> ?_,B,⋯⟩ ?_)
 ·rw[iW.1 k];show⟨0, .zero⟩
 ·lk
 ·ext m n o ⟨R,p,rfl,rfl,W,H,hm,rA⟩;let hRn:=iG W.nd H;show⟨!p.isEmpty,VQ (j:=1) B O,λC=> ?_,λC=> ?_⟩
  ·obtain⟨w,c,rfl⟩:∃w c,p=w++ [c]:=by let D:p≠ []:=⋯;show⟨p.dropLast,p.getLast D,(xZ D).symm⟩
   let hc:c∈R:=W.sub c ⋯;let L:=H c hc;show aE (MB (j:=1) (b:=c) (O B) B ⋯ ?_);rw[yx];show k_ (λj n o=>∃q l,n= [j1 a (v5 q),c8 b b0 l]/\o= [.im ej g, .im b6 a, .im b6 b, .im b0 c, .no]/\Mid g c j q l/\2*(⇑g- ⇑q)+⇑l<m) (bX (cw O (aq O) (at_getD (d:= []) L))) ⟨_,Le.refl _,R,w,B,B,⟨W.nd,W.zero,W.sound,H,λi k=>W.sub i ⋯,hc,λi k=> ?_,λi k=>⋯⟩,?_⟩ ?_ ?_
   ·obtain z| z:=W.closed i k
    ·lk
    ·show .inr (.inr z)
   ·lk
   ·ext j x n o Q ⟨q,l,rfl,rfl,f,A⟩;let E:=cD Q;let hxn:=I c x E;let afk:=iG f.nd f.lt;show⟨_, [4],aJ,bZ (gK (AG (aq O) (N.xV (j:=0) O B))) (λC=> ?_) (λC=>cA ?_)⟩
    ·have s:x∉q:=λz=>by rw[Cw.2 z] at C;cases C
     let hw2: ⇑l<=1000000:=⋯;show aE (Bz (j:=0) (v:= .bl aa) oZ (O B) B (aq (O B)) (λG u r=>r) (by delta v5;rw[aF,bM];lk) ?_);rw[abe s];show lT (j:=1) O B O (by rw[bM];lk) ⟨_, .eq (.eq (.eq (.eq (.no .nil)))),q++ [x],l++ [x],B,B,?_,?_⟩
     ·refine⟨?_,by simp[f.zero],λi k=> ?_,λi k=> ?_,λi k=> ?_,by simp[f.here],λi k=> ?_,λi k=> ?_⟩
      ·rw[rP];show⟨f.nd,⋯,λy hy z hz e=>s ⋯⟩
      ·obtain z| z:=dc.1 k
       ·show f.sound i z
       ·rw[iW.1 z];let⟨d,hd⟩:=f.sound c f.here;show⟨d+1, .succ hd E⟩
      ·obtain z| z:=dc.1 k
       ·show f.lt i z
       ·lk
      ·obtain z| z:=dc.1 k
       ·show dc.2 (.inl (f.sub i z))
       ·lk
      ·obtain z| z:=dc.1 k
       ·obtain y| y| y:=f.closed i z
        ·lk
        ·show .inr (.inl y)
        ·lk
       ·lk
      ·rw[take_snoc Q] at k;obtain z| z:=dc.1 k
       ·show dc.2 (.inl (f.got i z))
       ·lk
     ·rw[dA,dA,qe];have: ⇑q<⇑g:=by
       have:=iG (eR.2 ⟨s,f.nd⟩) λy hy=>by
        obtain z| z:=cp.1 hy
        ·rw[z];show hxn
        ·show f.lt y z
       rw[cX] at this;lk
      lk
    ·let s:x∈q:=Cw.1 ⋯;show⟨_, .eq (.eq (.eq (.eq (.no .nil)))),q,l,B,B,⟨f.nd,f.zero,f.sound,f.lt,f.sub,f.here,f.closed,λi k=> ?_⟩,A⟩;rw[take_snoc Q] at k;obtain z| z:=dc.1 k
     ·show f.got i z
     ·lk
   ·ext n o ⟨q,l,rfl,rfl,f,A⟩;let t:=f.got;rw[fe] at t;show⟨_,_,A, .eq (.eq (.eq (.no (.no .nil)))),q,l,B,B,⟨f.nd,f.zero,f.sound,f.sub,λi k=> ?_⟩,f.lt,B,⋯⟩;obtain z| z| z:=f.closed i k
    ·show .inl z
    ·rw[z];show .inr t
    ·show .inr z
  ·let Dr:p= []:=by cases p with| nil=>rfl| cons _ _=>cases C
   subst Dr;show lM 1 (Bw 0 (N.eq (dP (aq (ZJ (N.xV (j:=0) (O B) B))) (aq (bU (O B)))) (show _=wh from ?_)) ⟨(),B,λG v r=>r⟩);rw[cE,cj,hw,show ⇑(v5 R)=⇑R by delta v5;simp];let h1:=SG W.nd H;walk
   ·ext h i k;show(W.all i).1 (h1.1 ⋯ i k)
   ·ext h;have:=h1.2 λi k=>(W.all i).2 (h i k);lk
def Za(i j:Nat)(h:j∈(v8 F).getD i []):j<⇑(v8 F):=by
 delta v8 at h⊢;rw[aF];cases a:i<⇑(m5 F)
 ·lk
 ·cbv
def Hr(F:cI): ⇑(v8 F)=⇑(m5 F):=by delta v8;simp
abbrev GB:cI×LN0×Bool->Ct:=λ(a,c,d)=>P1 [.im iU a, .im aB c] (nY a/\(⇑(m5 a)≠0->(d=aa↔F8 (v8 a)))) b0 (A4 a c d)
def Nj(h:N M U t iU F)(a:nY F):N M U (B9 Z.CP (b7 yt) [] E0 (b8 t c7)) (o6 Z.CP (U2 F)) ():=
 wK (Ci:=yt) (κs:= []) (λx=>(x,F)) (df h dn) (λ_=>B) (λ_=>a) B (λ_=>B) (λ_ _=>B) (λ_ _ _ _ h=>h)
instance [T:Tx Z]:bt "end_fault" 6 (b7 GB):=by
 show bC 37 ["floors","rest","plan"] 2 (λ_ l d=>bx (l4.pt (je (b_ W) (je (hE (b_ W)) (lb (hE (b_ (aI W (fx fH ai)))))))) (pR ai) bB∘bx (b_ (aR d (ay W))) (pR ai) bB∘aO (lx d (ay W))∘bx (hE (oT hW hW ai (cb (ba W)) dr)) (pR ai) bB∘bx (hE (b_ (aR d (ay (ba W))))) (pR ai) bB∘pR ai) ?_;ext⟨F,c,i⟩ f;dsimp only[GB] at f⊢;let⟨g,j⟩:=f;delta A4;show aE (bZ (b:=decide (c≠ []\/F= []\/k5 F= [])) (b4.eq (hJ (bT O) λ_=>hJ (c:= !!F.isEmpty) (d:= !!(k5 F).isEmpty) (fi (bT O)) λh=>fi (bT (cw O (fX aw) (kg (wC ∅))))) ?_) (λa=> ?_) (λa=>cA ?_))
 ·rw[cE];simp
 ·rw[ar (eN a)];show aA (dD (n:=1) B)
 rw[aj (gR a)];show aE (bZ (eI (eC _ (a1 O) trivial)) (λa=> ?_) (λa=>cA ?_))
 ·rw[ar a];show aA (dD (n:=3) B)
 rw[aj ∅];show bo (Nj O g)<| aE (bZ (b:=decide (¬(1<= ⇑(A5 F)/\ ⇑(A5 F)<=4))) (b4.eq (fi (gK (lR aw (aq (bU (bJ O))) aw))) ?_) (λa=> ?_) (λa=>cA ?_))
 ·lk
 ·rw[ar (eN a)];show aA (dD (n:=5) B)
 have b:=gR a;rw[aj b];let e: ⇑(m5 F)≠0:=by
  ext z;have:A5 F= []:=by delta A5;rw[List.eq_nil_of_length_eq_zero z];rfl
  rw[this] at b;simp at b
 let k: ⇑(m5 F)<=100000:=by rw[mW];show g.cells
 show aE (bZ (fi (eI (eC (_,i) (a1 (bJ O)) ⟨Za,(by rw[Hr];lk),(by rw[Hr];cbv),(j e)⟩))) (λa=> ?_) (λa=>cA ?_))
 ·rw[ar ∅];show aA (dD (n:=6) B)
 ·rw[aj ⋯];show aA (dD (n:=0) B)
def Q6(b:ab):Enc (Except NN0 vx):=⟨λG v r=>match r with| .error k=>(h8 A8 aB).rep G v ((), [k.1,k.2])| .ok P=>(h8 (tL b P) aB).rep G v ((), []),λ{G c v a} h r=>by cases a with| error k=>show(h8 A8 aB).mono h r| ok P=>show(h8 (tL b P) aB).mono h r⟩
structure mE(F:cI):Prop where
 cells:l5 F<=20
 rows:∀f∈F,∀r∈f,⇑r<=8
def mE.ok{F:cI}(h:mE F):nY F:=⟨by have:=h.cells;lk,λf a r b=>by have:=h.rows f a r b;lk⟩
def Bk{F:cI}(h:F≠ []):F=F.dropLast++ [k5 F]:=by
 have:k5 F=F.getLast h:=by delta k5;rw[jP,DU h];rfl
 rw[this,xZ]
def Wf{F:cI}{l:LN0}(h:N6 F l=0):F≠ []/\ ⇑l<=8/\l5 F+⇑(l.filter λx=>x !=35)<=20:=by
 delta N6 at h;split at h
 ·cases h
 ·lk
def Tg{F:cI}(a:F≠ [])(l:LN0):l5 (F.dropLast++ [k5 F++ [l]])=l5 F+⇑(l.filter λx=>x !=35):=by
 conv=>rhs;rw[Bk a]
 rw[yj,yj];delta l5;simp;lk
def mE.next{F:cI}(h:mE F){l:LN0}(e:l≠F9)(a:B6 F l=0):F≠ []/\mE (F.dropLast++ [k5 F++ [l]]):=by
 delta B6 at a;rw[aj e] at a;split at a
 ·let⟨b,i,g⟩:=Wf a;show⟨b,⟨by rw[Tg b];show g,λf c r d=> ?_⟩⟩;let j:=Bk b;obtain z| z:=dc.1 c
  ·show h.rows f ⋯ r d
  ·rw[iW.1 z] at d;obtain y| y:=dc.1 d
   ·show h.rows (k5 F) ⋯ r y
   ·lk
 ·cases a
def mE.floor{F:cI}(h:mE F):mE (F++ [[]]):=⟨by
 rw[yj];have:=h.cells;delta l5 at this⊢;simp;show this,λf b r a=>by
 obtain z| z:=dc.1 b
 ·show h.rows f z r a
 ·rw[iW.1 z] at a;cases a⟩
def Kf(c:Nat):∀l,⇑(i4 c l)<= ⇑l+1/\∀p∈i4 c l,⇑p<= ⇑l
 | []=>by simp[i4]
 | x::l=>by
   let⟨e,f⟩:=Kf c l;rw[Hl];let b:=sI c l;cases d:i4 c l with
   | nil=>show aN d b
   | cons a r=>lk
abbrev RT(t:LN0):Ct:=P1 [.im aB t] (⇑t<=1000000/\∀x∈t,x<256) (Q6 Z.CP) (iY (toB t))
instance [T:Tx Z]:bt "read_plan" 7 (b7 RT):=by
 show bC 26 ["text","lines","rest","floors","number","line","kind"] 1 (λ_ nd d=>aO (aR d (ay W))∘aO (BF (K:=Z.K) B eB Rh Rg MP W)∘aO (aY cQ)∘dI (kx (ay W)) (dy 2 (bG aL (bG aL du))) (aO (aR d (c_ W W W))∘bx (bI gG W ai) (pR (fI (bc qX (aY (bc W W))))) bB∘bP (bx (bI (sS (K:=Z.K) B d.units) W (aR d (ay jF))) (bP (fh (eX (K:=Z.K) B eB kE kD kb W (ay (aY cQ))))) (bP (bx (bI kl W ai) (bP (fh (eX (K:=Z.K) B eB kE kD kb (aI W (fx fH ai)) (ay W)))) bB))))∘aO (aR d (bc W W))∘bx (bI gG W ai) (pR (fI (bc qX (aY (bc W (cb W)))))) bB∘pR (fI (bc (lx d (ay W)) (aY cQ)))) ?_;ext t hp;let⟨hl,ht⟩:=hp;let⟨A,b,m,acm,n⟩:=Hk ht;show aE (G_ (C:=Fe) (κf:= []) t (df O dn) ⋯ rfl λa=> ?_);change V7 _ _ (.nx [c8 a aB (i4 10 t)] _);rw[m];show aE (MB (j:=0) (b:=b) (O B) B ⋯ ?_);rw[yx];let⟨C,D⟩:=Kf 10 t;rw[m] at C D;rw[dA,qe] at C;show gr (j:=0) (i:=1) B B (aE (eh (SE (e:=aB)) λp=> ?_));show aE (k_ (λi H I=>∃ps F,H= [g7 p ps aB F]/\I= [.im aB t, .im ej A, .im aB b, .im b6 p, .no, .no, .no]/\mE F/\ ⇑F<=i/\(∀f∈F,⇑f<=i)/\(i=0->F= [])/\(i≠0->C2 (A.headD [])=aa/\A3 1 [] (A.drop 1)=A3 i F (A.drop i))) (kf O) ⟨_,Le.refl _, [], [],B,B,⟨⋯,λf hf=>nomatch hf⟩,br _,(λf hf=>nomatch hf),(λ_=>B),λh=>aN B h⟩ ?_ ?_)
 ·ext i x H I hx ⟨ps,F,rfl,rfl,L,hFl,Ot,Q,e⟩;let⟨Dq,NU,_⟩:=tq hx;let s:=dZ.1 Dq;let hxl:=D x.2 (dc.2 (.inl (cD Dq)));let u:=s.1;let⟨h,l,c⟩:∃h l,A=h::l:=by cases A with| nil=>simp at u| cons h l=>show⟨h,l,B⟩
  let⟨hc1,hc2⟩:=n h l c;let key:∀k,O5 F x.1 x.2=k->k≠0->iY (toB t)= .error (k,x.1):=by
   ext k hk DF;delta O5 at hk;rw[NU] at hk⊢;cases w:i=0
   ·lk
   ·rw[aj w] at hk;let⟨g,d⟩:=e w;rw[c] at g d;show(hc2 g).1 _ (d.trans ?_);rw[<-c,lB u,s.2,A3,ar ∅,hk]
  show⟨_, [4,5],ef aJ aJ,bo (RJ (i:=3) B (λG G' v r=>r) (eC (_,_,_) (a3 O O O) ⟨L.ok,⋯⟩)) ?_⟩;show aE (bZ (b:=decide (O5 F x.1 x.2≠0)) (b4.eq (bh (fK (aq O) aw)) ∅) (λj=> ?_) (λj=>cA ?_))
  ·show Bw 0 (g_ nE (cv (e:=b0) (bj O (bj O bN)))) ⟨(),B,λG v r=> ?_⟩;have:=key _ B (eN j);change(Q6 Z.CP).rep G v (iY (toB t));rw[this];show r
  let y:O5 F x.1 x.2=0:=⋯;delta O5 at y;rw[NU] at y;show bZ (b:=decide (x.2=F9)) (bh (tE O (wQ jc ⋯))) (λj=> ?_) (λj=> ?_)
  ·have o:=eN j;show Sn O (by rw[bM];lk) λz=>⟨_, .eq (.eq (.eq (.eq (.no (.no (.no .nil)))))),ps++ [z],F++ [[]],B,B,L.floor,∅,?_,(λh=>∅),λ_=> ?_⟩
   ·lk
   ·cases w:i=0
    ·rw[ar w] at y;split at y
     ·rename_i g;rw[o] at g;show aN g ⋯
     ·cases y
    ·rw[aj w] at y;let⟨g,d⟩:=e w;show⟨g,d.trans ?_⟩;rw[lB u,s.2,A3,aj ∅];delta L0;rw[ar o]
  ·have o:=gR j;show bZ (b:=decide (0<i)) (b4.eq (bh (jg (aq O) aw)) ⋯) (λj=> ?_) (λj=>cA ?_)
   ·let w:=eN j;rw[aj ⋯] at y;let⟨h0,hF'⟩:=L.next o y;let hs:=Bk h0;let hlm:k5 F∈F:=⋯;let ud:=Ot (k5 F) hlm;let⟨g,d⟩:=e ⋯;show Qx hs O O (by rw[bM];lk) ⟨_, .eq (.eq (.eq (.eq (.no (.no (.no .nil)))))),ps,F.dropLast++ [k5 F++ [x.2]],B,B,hF',?_,?_,(λh=>⋯),λ_=>⟨g,d.trans ?_⟩⟩
    ·lk
    ·lk
    ·rw[lB u,s.2,A3,aj ⋯];delta L0;rw[aj o]
   ·let w:i=0:=by have:=gR j;lk
    rw[ar w] at y;let e1:x.2=h:=⋯;let g:C2 h=true:=by lk
    show⟨_, .eq (.eq (.eq (.eq (.no (.no (.no .nil)))))),ps,F,B,B,L,⋯,(λf hf=>⋯),(λh=>⋯),λ_=>⟨⋯,⋯⟩⟩
 ·ext H I ⟨ps,F,rfl,rfl,L,hFl,Ot,Q,e⟩;rw[aF,uE] at Q e;show GZ (j:=0) (i:=3) B B ?_;show let E:Bool:=@decide (F8 (v8 F)) (Classical.propDecidable _);?_;let NV:E=aa↔F8 (v8 F):=by lk
  have q:(A4 F b E≠0->iY (toB t)= .error (A4 F b E,⇑A))/\(A4 F b E=0->∃P,iY (toB t)= .ok P/\F=d4 P.floors):=by
   cases c:A with
   | nil=>
     let hF0:=Q ⋯;let e1:A4 F b E=1:=by delta A4;rw[ar (.inr (.inl hF0))]
     rw[e1];show⟨λ_=>acm c,λh=>nomatch h⟩
   | cons h l=>let⟨g,d⟩:=e ⋯;rw[uM,A3,c] at d;rw[c] at g;let⟨_,h2⟩:=((n h l c).2 g).2 F d;let⟨h3,h4⟩:=h2 E λ_=>NV;show⟨h3,λz=>⋯⟩
  show bo (eC (_,_,E) (a2 O O) ⟨L.ok,(λ_=>NV)⟩) ?_;generalize A4 F b E=k at q;show aE (bZ (b:=decide (k≠0)) (b4.eq (bh (fK (aq O) aw)) ⋯) (λj=> ?_) (λj=>cA ?_))
  ·show aA (g_ nE (cv (e:=b0) (bj O (bj (bU O) bN)))) ⟨(),B,λG v r=> ?_⟩;change(Q6 Z.CP).rep G v (iY (toB t));rw[q.1 (eN j)];show r
  ·let⟨P,hP,hFP⟩:=q.2 ⋯;show aA (g_ (Nj O L.ok) (cv (e:=b0) bN)) ⟨(),B,λG v r=> ?_⟩;change(Q6 Z.CP).rep G v (iY (toB t));rw[hP];let e1:=Wx P;rw[<-hFP] at e1;change(h8 (o6 Z.CP (U3 P)) aB).rep G v ((), []);rw[<-e1];show r
def Qw{e:Type}{a:e->Ct}{C p:ab}{F:Y (Str×En)}{m:Str}{f:Y En}{g:TE}{h:TA}{j:Nat}{n:Out->Prop}(i:e)(o:M[j]? =J (rObj p C F))(t:N M U g b6 p)(u:F.lookup m=ah)(y:l7 M U h f)(z:(a i).U= .im b6 p::f)(A:(a i).pre)(b:M=(a i).M++κf)(q:∀c,n (.nx ((a i).kq0 c++κf) U)):b9 M U (L7 (u5 C m (b7 a) [] E0 g h)) n:=λG H L s w l D k=>MQ i o t u y z A b s w l λd v E I x r=>k _ (q d) E I _ x (l.mono x.g)
abbrev GD:ab×ab×aW×LN0->Ct:=λ(a,c,d,g)=>P4 a c d (J g) [] (bW d/\cH d g) (cG d g .told)
instance [T:Tx Z]:bt "call_told" 1 (b7 GD):=by show bC 86 ["state","given"] 2 (λ_ e f=>pR (bw gF (aY (ay ai)) (ba W))) ?_;ext⟨st,g,h,i⟩ a;let⟨b,c⟩:=a;let d:=c.small b;show aA (fY dw (N.ints (cF (j:=0) B O)) ?_);rw[aF,bM];change 1+_<=_;lk
abbrev vc:So0 Nat->Ct:=λ(a,c,d,g,h)=>P4 a c d g [.im b0 h] (bW d) (dW d (.near h))
instance [T:Tx Z]:bt "call_near" 2 (b7 vc):=by
 show bC 87 ["state","given"] 2 (λ_ g e=>pR (l_ (K:=Z.K) B (aR e (bc W (aI W ai))) (gE (bw gF (aY (ay ai)) (aI (ba (ba W)) (aI W ai)))))) ?_;ext⟨st,i,a,j,c⟩ b;dsimp only[vc] at b⊢;let d:bW a:=b;show aA (lj (m:=cC (a.near c)) (eC (_,_,_,_,_) (a2 O (bE (i:=0) O)) cM) λh=> ?_) ⟨(),B,λG v r=> ?_⟩
 ·have f:c<⇑a.nears:=by
   delta F3 at h;split at h
   ·cases h
   ·rename_i z;rw[d.cnt];cbv
  show fY dw (N.ints (cw (bJ (C:=Z.CP) (cF (j:=0) B O) B) (aq (bE (i:=0) O)) (at_getD (d:= []) f))) ?_;have:=d.aX.row c;rw[aF,bM];change 1+⇑(a.nears.getD c [])<=_;lk
 ·have:(if F3 a c= [] then cC (a.near c)else F3 a c)=dW a (.near c):=by
   delta F3 dW;cases h:a.count<=c
   ·erw[ar h];rfl
   ·erw[aj h];rfl
  rw[<-this];show r
def ae8(x:jl)(a:ab):Except NN0 aW->jl
 | .error _=>⟨x.st,a,x.po,x.so⟩
 | .ok P=>⟨x.st,a,J P,ah⟩
def ae9:Except NN0 aW->Y Int
 | .error e=> [-6,(e.1:Int),(e.2:Int)]
 | .ok P=>cC [P.count,⇑P.cabins]
abbrev r_:jl×LN0->Ct:=λ(a,c)=>{M:=stK Z.CM Z.CP Z.CS a,U:= [.im b6 a.st, .im (D9 [.im aB c]) ()],pre:=⇑c<=400/\∀b∈c,b<256,ga0:=ab,kq0:=λd=>stK Z.CM Z.CP Z.CS (ae8 a d (iY (toB c))),be0:=Y Int,e:=bL,b:=λ_=>ae9 (iY (toB c))}
instance [T:Tx Z]:bt "call_load" 8 (b7 r_):=by
 show bC 84 ["state","given","read","plan"] 2 (λ_ f c=>aO (aR c (ay (aI W ai)))∘aO (dm W ai)∘bx (nL (wZ W)) (pR (bw gF (aY (ay dr)) (dm W ai))) bB∘fh (cT Z.CS c W (ay W))∘pR (aY (c_ ai (ba W) (cb (ba W))))) ?_;ext⟨x,t⟩ d;dsimp only[r_] at d⊢;let⟨g,e⟩:=d;show bo (eC _ (a1 (bE O)) ⟨⋯,e⟩) ?_;generalize iY (toB t)=R;cases R with
 | error k=>
   let a:∀M U,U[2]? =J (.im (Q6 Z.CP) (.error k))->N M U (p3 2) (h8 A8 aB) ((), [k.1,k.2]):=λM U h=>N.pT (O h) λG v r=>r;show bo (jH (a _ _ B))<| cZ (gK (mj O λG v r=>by cases(show v=_ from r);rfl)) ?_
   show aA (fY dw (N.ints (mh (a _ _ B))) (by change 1+2<=aV;decide)) ⟨x.dz,B,λG v r=>r⟩
 | ok P=>
   let a:∀M U,U[2]? =J (.im (Q6 Z.CP) (.ok P))->N M U (p3 2) (h8 (tL Z.CP P) aB) ((), []):=λM U h=>N.pT (O h) λG v r=>r;show bo (jH (a _ _ B))<| dF (gK (mj O λG v r=>by let⟨p,_,_,rfl,_⟩:=r;rfl)) ?_
   show aE (Qw (x,P) (j:=0) B O B (df O dn) B cM B λb=> ?_);show aA (cv (bj aw (bj (aq (bJ O)) (bj (aq (bU (bJ O))) bN)))) ⟨b,B,λG v r=>r⟩
def F1(P:aW)(a:az LN0)(r:LN0):az LN0:=if(iX P.count r).isSome=aa then a else J r
def O2(P:aW)(r:LN0):Y Int:=match iX P.count r with
 | some k=>noAt 6 k
 | none=>cC []
abbrev zk:So0 LN0->Ct:=λ(a,c,d,g,h)=>{M:=e_ a c d g,U:= [.im b6 a, .im (D9 [.im aB h]) ()],pre:=⇑h<=1000,kq0:=λ_=>e_ a c d (F1 d g h),be0:=Y Int,e:=bL,b:=λ_=>O2 d h}
def Yc(h:iX n r=J k):k≠0:=by
 delta iX at h;split at h
 ·cases h;decide
 ·lk
instance [T:Tx Z]:bt "call_stand" 2 (b7 zk):=by
 show bC 85 ["state","given","why"] 2 (λ_ h e=>aO (aR e (bc (ba (ba W)) (aI W ai)))∘bx (bI gG W ai) (pR (aY (bc dr W))) bB∘ez W (ky (sL (K:=Z.K) B) (ay (aI W ai)))∘pR (aY (ay ai))) ?_;ext⟨st,c,a,d,l⟩ f;let g: ⇑l<=1000:=f;show bo (eC (_,_) (a2 (bJ (C:=Z.CP) (cF (j:=0) B O) B) (bE O)) g) ?_;cases b:iX a.count l with
 | some k=>
   let i:=Yc b;show cZ (b4.eq (bh (fK (aq O) aw)) ∅)<| aA (cv (bj aw (bj (aq O) bN))) ⟨(),?_,λG v r=> ?_⟩
   ·change _=e_ st c a (F1 a d l);delta F1;rw[b];rfl
   ·change bL.rep G v (O2 a l);delta O2;rw[b];show r
 | none=>
   show dF (b4.eq (bh (fK (aq O) aw)) B)<| aE (eW (j:=0) (sv (bE (i:=0) O)) B O (el B) ?_)
   show aA dw ⟨(),?_,λG v r=> ?_⟩
   ·change _=e_ st c a (F1 a d l);delta F1;rw[b];rfl
   ·change bL.rep G v (O2 a l);delta O2;rw[b];show r
def zV{P:aW}{s l g f:LN0}(h:h7 P s l g f≠ [])(z:Y Int):(if fP s l=ak then no 3 else iB P (eL s) g f z)=h7 P s l g f:=by
 delta h7 p0 j9 at h⊢;cases a:fP s l=aa
 ·rw[ar a,ar B] at h⊢;rw[aj ∅];delta iB eL;cases b:gT P.count ⇑(aK s) g f=aa
  ·cbv
  ·rw[aj b,aj b];rfl
 ·let c:fP s l=false:=by simpa using a
  rw[c];rfl
def wo{P:aW}{s l g f:LN0}(h:h7 P s l g f= [])(z:Y Int):(if fP s l=ak then no 3 else iB P (eL s) g f z)=z:=by let⟨b,a⟩:=ij h;rw[aj ∅];delta iB eL;rw[ar a]
def HB:∀{l:Y c},(∀a∈l,f a=g a)->l.filterMap f=l.filterMap g
 | [],_=>rfl
 | a::l,h=>by rw[lG,lG,h a (by simp),HB λx b=>h x (by simp[b])]
def JR{P:aW}(d:bW P){s l:LN0}(a:∀p∈l,p≠0/\p∈s):l.filterMap (rowFor P k s)=(l.map (c6 s)).filterMap λq=>(aT ⇑P.nears k q).map λc=>rowBy P.nears ⇑P.nears k c q:=by rw[FY];show HB λp b=> ?_;delta rowFor;rw[placeOf_some (a p b).1 (a p b).2,d.cnt];rfl
def JT{P:aW}(b:bW P){s l g f:LN0}(h:h7 P s l g f= [])(c:dS ((l.map (c6 s)).filterMap (aT ⇑P.nears (bz P s g f)))=ah):mN P s l g f=none:=by let⟨d,e⟩:=ij h;let⟨_,a,_⟩:=gj.1 d;delta mN;change iO (l.filterMap (rowFor P (bz P s g f) s))=ah;rw[JR b a];have:=uQ.1 c;rw[QZ] at this;rw[QZ.2 λq i=>⋯];rfl
def JS{P:aW}(e:bW P){s l g f:LN0}(m:cH P s)(h:h7 P s l g f= []){d:Nat}(n:dS ((l.map (c6 s)).filterMap (aT ⇑P.nears (bz P s g f)))=J d):mN P s l g f=J (v7 P.nears ⇑P.nears (bz P s g f) d ((l.map (c6 s)).filter λq=>aT ⇑P.nears (bz P s g f) q==J d)):=by let⟨o,v⟩:=ij h;let⟨_,a,_⟩:=gj.1 o;delta mN;change iO (l.filterMap (rowFor P (bz P s g f) s))=_;rw[JR e a];let⟨S,i,T⟩:=(tw e.aX.aX ⇑(aK s) (dC P g f)).ex;let⟨r,t⟩:=oF n;let⟨q,b,j⟩:=js.1 r;show QH e.aX.aX B i T (λq b=> ?_) ⟨q,b,j⟩ λq b c u=>t c (js.2 ⟨q,b,u⟩);let⟨p,k,rfl⟩:=a_.1 b;show la m.len (a p k).1 (a p k).2
def lg{P:aW}{s l:LN0}(c:cH P s)(a:∀p∈l,p≠0/\p∈s):∀q∈l.map (c6 s),Ok ⇑P.nears ⇑(aK s) q:=λq d=>by let⟨p,b,rfl⟩:=a_.1 d;show la c.len (a p b).1 (a p b).2
def YW(r:Y bV):J5 (r.map λx=>((x.from_:Int),(x.to_:Int)))=(iJ r).map λ(n:Nat)=>(n:Int):=by delta J5 iJ;rw[uL,qo];rfl
def FG{t:TE}{r:Y bV}(h:N M U t (eList D2) r)(b: ⇑r<=1000000):N M U (v9 (b7 zi) [] E0 (b8 t c7)) bL ((iJ r).map λ(n:Nat)=>(n:Int)):=
 N.eq (FH (N.CB (e':=D2) (λx=>((x.from_:Int),(x.to_:Int))) h λG v a _ r=>r) ∅) (YW r)
def zZ(r:Y bV): ⇑(iJ r)=2*⇑r:=by
 delta iJ;induction r with
 | nil=>rfl
 | cons a r b=>rw[jS,dA,b];erw[cX,lK];lk
def zh(a:LL0)(n:Nat)(k:Known):∀(d:Nat) (b:Y Pl),⇑(v7 a n k d b)=d
 | 0,_=>rfl
 | d+1,b=>by rw[v7,cX,zh a n k d]
def vW(P:aW)(s l g f:LN0):cG P s (.fetch l g f)=if fP s l=ak then no 3 else iB P (eL s) g f (match mN P s l g f with| none=>no 5| some r=>cC (⇑r::iJ r)):=B
abbrev FL:Sx0 (LN0×LN0×LN0)->Ct:=λ(a,c,d,g,h,i,j)=>P4 a c d (J g) [.im aB h, .im aB i, .im aB j] (bW d/\cH d g/\ ⇑h<=1000/\ ⇑i<=1000/\ ⇑j<=1000) (cG d g (.fetch h i j))
instance [T:Tx Z]:bt "call_fetch" 10 (b7 FL):=by
 show bC 89 ["state","given","search","row"] 2 (λ_ I e=>aO (lx e (iz W (aI W ai) (aI W ai) (aI W ai)))∘bx (b_ (ba W)) (pR (ba W)) bB∘aO (aR e (c_ (iy Z.CS e W) (ba W) (ba W)))∘pR (bw gF (aY (bc ai (cb W))) (aR e (ay W)))) ?_;ext⟨st,L,a,b,l,g,f⟩ w;let⟨i,j,x,y,A⟩:=w;let c:∀z,cG a b (.fetch l g f)=z->∀G v,bL.rep G v z->bL.rep G v (cG a b (.fetch l g f)):=λz h G v r=>∅;show bo (Bq B O (bE O) (bE O) (bE O) i j x y A) ?_;cases e:h7 a b l g f= []
 ·cases k:dS ((l.map (c6 b)).filterMap (aT ⇑a.nears (bz a b g f)))with
  | none=>
    let m:z7 a b l g f=_:=ar e;rw[m,show u6 a b l g f= [-5] by delta u6;rw[ar k]];show cZ (b4.eq (bT (bJ O)) B)<| aA (bJ O) ⟨(),B,c _ ?_⟩
    rw[vW,wo e,JT i e k];rfl
  | some d=>
    let m:z7 a b l g f=_:=ar e;rw[m,show u6 a b l g f= [] by delta u6;rw[aj ∅]];let⟨C,Q⟩:=ij e;let⟨_,n,_⟩:=gj.1 C;let t:mD a.nears ⇑(aK b) (bz a b g f):=tw i.aX.aX _ _;let u:d<160000:=by let⟨D,_⟩:=oF k;let⟨q,E,s⟩:=js.1 D;show t.small i.aX.aX i.aX.len j.holes.2 (lg j n q E) s
    show dF (b4.eq (bT (bJ O)) B)<| bo (eC (_,_,_,_,_) (a3 (eO (_,_,_,_) O dn ⟨i,j⟩) (bJ O) (bJ O)) ⟨i.aX,j.holes.2,t,(lg j n),∅,k⟩) ?_
    let o:=JS i j e k;let p:=zh a.nears ⇑a.nears (bz a b g f) d ((l.map (c6 b)).filter λq=>aT ⇑a.nears (bz a b g f) q==J d);generalize v7 a.nears ⇑a.nears (bz a b g f) d ((l.map (c6 b)).filter λq=>aT ⇑a.nears (bz a b g f) q==J d)=H at o p;show aA (fY (cv (bj aw (bj (aq (bU O)) bN))) (FG O ⋯) ?_) ⟨(),B,c _ ?_⟩
    ·rw[aF,zZ,bM,p];change 2+_<=_;lk
    ·rw[vW,wo e,o];rfl
 ·let m:z7 a b l g f=_:=aj e;rw[m];show cZ (b4.eq (bT (bJ O)) ∅)<| aA (bJ O) ⟨(),B,c _ ?_⟩
  rw[vW];show zV e _
def JM(s:LN0)(p:Nat):fP s [p]=RW s p:=by delta fP;simp
def oJ{P:aW}{s g f:LN0}{p:Nat}(h:h7 P s [p] g f≠ [])(z:Pl->Y Int):kK P s p g f z=h7 P s [p] g f:=by delta kK;rw[<-JM];show zV h _
def kd{P:aW}{s g f:LN0}{p:Nat}(h:h7 P s [p] g f= [])(z:Pl->Y Int):kK P s p g f z=z (c6 s p):=by let⟨b,e⟩:=ij h;let⟨_,a,_⟩:=gj.1 b;let⟨c,d⟩:=a p ∅;delta kK;rw[<-JM,placeOf_some c d];show wo h _
def IS(n:Nat)(k:Known)(s:LN0)(p:Nat):dS (([p].map (c6 s)).filterMap (aT n k))=aT n k (c6 s p):=by
 change dS ([c6 s p].filterMap (aT n k))=_;rw[lG,VG];cases aT n k (c6 s p)with
 | none=>rfl
 | some d=>rfl
def UZ{b:LL0}(a:dH b){e:Nat}{k:Known}{q:Pl}(f:Ok ⇑b e q)(g:e<=3):(uU b ⇑b k q).length<=10000:=by
 let h:=BX a q.holes;cases c:aT ⇑b k q with
 | none=>delta uU;rw[c];show eT _
 | some d=>
   cases d with
   | zero=>rw[HE c];show eT _
   | succ d=>rw[vZ a.aX f c];delta k9;show da (jq _ _) ⋯
def Aw(P:aW)(s:LN0)(p:Nat)(g f:LN0):cG P s (.firsts p g f)=kK P s p g f λq=>if(aT P.count (bz P s g f) q).isNone=aa then no 5 else cC (⇑(uU P.nears P.count (bz P s g f) q)::iJ (uU P.nears P.count (bz P s g f) q)):=B
abbrev Fj:Sx0 (Nat×LN0×LN0)->Ct:=λ(a,c,d,g,h,i,j)=>P4 a c d (J g) [.im b0 h, .im aB i, .im aB j] (bW d/\cH d g/\ ⇑i<=1000/\ ⇑j<=1000) (cG d g (.firsts h i j))
instance [T:Tx Z]:bt "call_firsts" 10 (b7 Fj):=by
 show bC 91 ["state","given","search","shifts"] 2 (λ_ x e=>aO (lx e (iz W (aY (ay (aI W ai))) (aI W ai) (aI W ai)))∘bx (b_ (ba W)) (pR (ba W)) bB∘aO (aR e (c_ (iy Z.CS e W) (ba W) (aI (ba W) ai)))∘pR (bw gF (aY (bc ai (cb W))) (aR e (ay W)))) ?_;ext⟨st,y,c,a,p,g,f⟩ q;let⟨j,l,s,t⟩:=q;let b:∀z,cG c a (.firsts p g f)=z->∀G v,bL.rep G v z->bL.rep G v (cG c a (.firsts p g f)):=λz h G v r=>∅;show bo (Bq B O (cv (bj (bE O) bN)) (bE O) (bE O) j l ⋯ s t) ?_;cases e:h7 c a [p] g f= []
 ·have i:=IS ⇑c.nears (bz c a g f) a p;cases m:aT ⇑c.nears (bz c a g f) (c6 a p)with
  | none=>
    rw[m] at i;let k:z7 c a [p] g f=_:=ar e;rw[k,show u6 c a [p] g f= [-5] by delta u6;rw[ar i]];show cZ (b4.eq (bT (bJ O)) B)<| aA (bJ O) ⟨(),B,b _ ?_⟩
    rw[Aw,kd e,<-j.cnt,m];rfl
  | some d=>
    rw[m] at i;let k:z7 c a [p] g f=_:=ar e;rw[k,show u6 c a [p] g f= [] by delta u6;rw[aj ⋯]];let⟨u,A⟩:=ij e;let⟨_,n,_⟩:=gj.1 u;let o:=lg l n (c6 a p) ∅;let w:=UZ j.aX (k:=bz c a g f) o l.holes.2;show dF (b4.eq (bT (bJ O)) B)<| bo (eC (_,_,_,c6 a p) (a3 (eO (_,_,_,_) O dn ⟨j,l⟩) (bJ O) (cw (bJ O) aw (fV B))) ⟨j.aX,o,∅⟩) ?_
    show aA (fY (cv (bj aw (bj (aq (bU O)) bN))) (FG O ⋯) ?_) ⟨(),B,b _ ?_⟩
    ·rw[aF,zZ,bM];change 2+_<=_;lk
    ·rw[Aw,kd e,<-j.cnt,m];rfl
 ·let k:z7 c a [p] g f=_:=aj e;rw[k];show cZ (b4.eq (bT (bJ O)) ⋯)<| aA (bJ O) ⟨(),B,b _ ?_⟩
  rw[Aw];show oJ e _
def BH(P:aW)(s:LN0)(p:Nat)(g f:LN0):cG P s (.ways p g f)=kK P s p g f λq=>match aT P.count (bz P s g f) q with| none=>no 5| some d=>cC [VB P.nears P.count (eL s) (bz P s g f) d [(q,1)] % WqgardSpec.MODULO]:=B
abbrev GC:Sx0 (Nat×LN0×LN0)->Ct:=λ(a,c,d,g,h,i,j)=>P4 a c d (J g) [.im b0 h, .im aB i, .im aB j] (bW d/\cH d g/\ ⇑i<=1000/\ ⇑j<=1000) (cG d g (.ways h i j))
instance [T:Tx Z]:bt "call_ways" 10 (b7 GC):=by
 show bC 92 ["state","given","search"] 2 (λ_ y f=>aO (lx f (iz W (aY (ay (aI W ai))) (aI W ai) (aI W ai)))∘bx (b_ (ba W)) (pR (ba W)) bB∘pR (aY (bc ai (aR f (c_ (iy Z.CS f W) (ba W) (aI (ba W) ai)))))) ?_;ext⟨st,A,b,a,p,g,e⟩ o;let⟨j,m,s,t⟩:=o;let c:∀z,cG b a (.ways p g e)=z->∀G v,bL.rep G v z->bL.rep G v (cG b a (.ways p g e)):=λz h G v r=>∅;show bo (Bq B O (cv (bj (bE O) bN)) (bE O) (bE O) j m ⋯ s t) ?_;cases f:h7 b a [p] g e= []
 ·have i:=IS ⇑b.nears (bz b a g e) a p;cases k:aT ⇑b.nears (bz b a g e) (c6 a p)with
  | none=>
    rw[k] at i;let l:z7 b a [p] g e=_:=ar f;rw[l,show u6 b a [p] g e= [-5] by delta u6;rw[ar i]];show cZ (b4.eq (bT (bJ O)) B)<| aA (bJ O) ⟨(),B,c _ ?_⟩
    rw[BH,kd f,<-j.cnt,k];rfl
  | some d=>
    rw[k] at i;let l:z7 b a [p] g e=_:=ar f;rw[l,show u6 b a [p] g e= [] by delta u6;rw[aj ⋯]];let⟨u,C⟩:=ij f;let⟨_,n,_⟩:=gj.1 u;let w:=lg m n (c6 a p) ∅;let x:mD b.nears ⇑(aK a) (bz b a g e):=tw j.aX.aX _ _;show dF (b4.eq (bT (bJ O)) B)<| aA (cv (bj aw (bj (aq (eC (_,_,_,c6 a p,_) (a3 (eO (_,_,_,_) O dn ⟨j,m⟩) (bJ O) (cw (bJ O) aw (fV B))) ⟨j.aX,m.holes.2,x,w,k⟩)) bN))) ⟨(),B,c _ ?_⟩
    rw[BH,kd f,<-j.cnt,k];change cC [VB b.nears ⇑b.nears ⇑(aK a) (bz b a g e) d [(c6 a p,1)] % 1000000007]=_;rw[ID j.aX.aX B d _ λq D=>∅];erw[wsum,Mr,Lf];rfl
 ·let l:z7 b a [p] g e=_:=aj f;rw[l];show cZ (b4.eq (bT (bJ O)) ∅)<| aA (bJ O) ⟨(),B,c _ ?_⟩
  rw[BH];show oJ f _
def rV(h:j9 P e g f≠ [])(z:Y Int):iB P e g f z=j9 P e g f:=by
 delta j9 at h⊢;delta iB;cases a:gT P.count e g f=aa
 ·cbv
 ·rw[aj a,aj a];rfl
def Am(h:j9 P e g f= []):gT P.count e g f=aa/\∀z,iB P e g f z=z:=by
 delta j9 at h;cases a:gT P.count e g f=aa
 ·show⟨a,λz=>by delta iB;rw[ar a]⟩
 ·rw[aj a] at h;cases h
def uP(o:az Nat):decide (bq o<0)=o.isNone:=by
 cases o with
 | none=>rfl
 | some d=>show jw (by change¬((d:Int)<0);cbv)
def MH(a:bW P)(s:LN0)(k:Known):K2 P s k=(oq P k s).map λx=>(x.1,bq x.2):=by delta K2 oq;rw[bS];apply iV;ext p b;let⟨c,e⟩:=cz.1 b;let d:p≠0:=∅;change _=(p,bq (gQ P k s p));delta gQ;rw[placeOf_some d c,<-a.cnt];rfl
def YN(l:Y (Nat×az Nat)): ⇑((l.map λx=>(x.1,bq x.2)).filter λx=>decide (x.2<0))=⇑(l.filter λx=>x.2.isNone):=by rw[gx,aF];congr 2;funext x;show uP x.2
def MK(P:aW)(s g f:LN0):cG P s (.all_ g f)=iB P ⇑(aK s) g f (tells ((⇑((oq P (bz P s g f) s).filter λ(x:Nat×az Nat)=>x.2.isNone):Int)::(oq P (bz P s g f) s).flatMap λ(x:Nat×az Nat)=> [(x.1:Int),bq x.2])):=B
abbrev HU:Sx0 (LN0×LN0)->Ct:=λ(a,c,d,g,h,i)=>P4 a c d (J g) [.im aB h, .im aB i] (bW d/\cH d g/\ ⇑h<=1000/\ ⇑i<=1000) (cG d g (.all_ h i))
instance [T:Tx Z]:bt "call_all" 9 (b7 HU):=by
 show bC 94 ["state","given","refusal","priced","pallet","price"] 2 (λ_ o e=>aO (aR e (c_ W (aI W ai) (aI W ai)))∘bx (b_ W) (pR W) bB∘aO (aR e (c_ W (aI W ai) (aI W ai)))∘pR (bw gF (aY (bc ai (cb (dg [4,5] o (cf W) (λ_=>(dy 2 (bG aL (bG aL du)))) (λ_=>(eV (bI gH W ai))) (λ_=>W))))) (aR e (ay W)))) ?_;ext⟨st,p,c,d,g,f⟩ q;let⟨i,l,s,t⟩:=q;let j:=l.small i;let b:∀z,cG c d (.all_ g f)=z->∀G v,bL.rep G v z->bL.rep G v (cG c d (.all_ g f)):=λz h G v r=>∅;show bo (eC (st,p,c,d,_,_) (a3 O (bE O) (bE O)) ⟨⋯,s,t⟩) ?_;cases e:j9 c ⇑(aK d) g f= []
 ·rw[e];let⟨u,w⟩:=Am e;let⟨m,n,_⟩:=jA.1 u;rw[<-i.cnt] at m n;show dF (b4.eq (bT O) B)<| bo (eC (_,_,_,_,_,_) (a3 O (bE O) (bE O)) ⟨i,l,m,n⟩) ?_
  let k: ⇑(K2 c d (bz c d g f))<=20:=by delta K2;rw[aF];show da (jq _ _) j
  show aA (fY (cv (bj aw (bj (aq (bU (eJ (bX O) (λx=>decide (x.2<0)) (λx=>x.1) (λx y=>⟨_,ef aJ aJ,bh (fz O aw),λ_=>O⟩) (cN k)))) bN))) (FH (N.CB (e':=h8 b0 b5) (λx=>((x.1:Int),x.2)) O λG v a _ r=>r) ⋯) ?_) ⟨(),B,b _ ?_⟩
  ·have: ⇑(J5 ((K2 c d (bz c d g f)).map λx=>((x.1:Int),x.2)))<= ⇑((K2 c d (bz c d g f)).map λx=>((x.1:Int),x.2))*2:=iH λx _=>br 2;rw[aF] at this;rw[bM];change 2+_<=_;lk
  ·rw[MK,w,MH i,aF,YN,bS];delta J5;rw[uL];rfl
 ·show cZ (b4.eq (bT O) ∅)<| aA O ⟨(),B,b _ ?_⟩
  rw[MK];show rV e _
def Kh(P:aW)(e:Nat)(g f:LN0):dW P (.stuck e g f)=qi P e g f λl=>cC (⇑(eP l)::((eP l).take 1).flatMap fQ):=B
def zT(h:w4 P e g f≠ [])(z:Y (Pl×az Nat)->Y Int):qi P e g f z=w4 P e g f:=by
 delta qi;delta w4 F0 at h⊢;cases a:jV P.count e=aa
 ·rw[a] at h⊢;show rV h _
 ·let b:jV P.count e=false:=by simpa using a
  rw[b];rfl
def By(a:bW P)(h:w4 P e g f= [])(z:Y (Pl×az Nat)->Y Int):qi P e g f z=z (cJ ⇑P.nears (dB P e (dC P g f)) (cy ⇑P.nears e)):=by let⟨c,b⟩:=qD a h;delta qi iB;rw[aj ∅,ar b,<-a.cnt]
def se(n e:Nat)(k:Known):N8 n e k=(cJ n k (cy n e)).map λx=>(x.1,bq x.2):=by delta N8 cJ;rw[bS];rfl
def BI:∀l:Y (Pl×az Nat),((l.map λx=>(x.1,bq x.2)).filter λx=>decide (x.2<0)).map (λx=>x.1)=eP l
 | []=>rfl
 | (a,ah)::l=>by let b:=BI l;delta eP at b⊢;rw[bp,EB (by rw[uP];rfl),bp,b];rfl
 | (a,J d)::l=>by let b:=BI l;delta eP at b⊢;rw[bp,EC (by rw[uP];show dQ),b];rfl
def YZ(h:q∈eP (cJ n k (cy n e))):Ok n e q:=by
 delta eP cJ at h;let⟨x,b,a⟩:=js.1 h;let⟨y,c,rfl⟩:=a_.1 b;let a:(if(aT n k y).isNone=aa then J y else ah)=J q:=a;split at a
 ·cases a;show gy.1 c
 ·cases a
abbrev zj:So0 (Nat×LN0×LN0)->Ct:=λ(a,c,d,g,h,i,j)=>P4 a c d g [.im b0 h, .im aB i, .im aB j] (bW d/\ ⇑i<=1000/\ ⇑j<=1000) (dW d (.stuck h i j))
instance [T:Tx Z]:bt "call_stuck" 9 (b7 zj):=by
 show bC 100 ["state","given","survey","stuck","place","price"] 2 (λ_ w f=>aO (lx f (iz W (aI W ai) (aI W ai) (aI W ai)))∘bx (b_ (ba W)) (pR (ba W)) bB∘hX 3 [4,5] w (cf (ba W)) (λ_=>(dy 2 (bG aL (bG aL du)))) (λ_=>(eV (bI gH W ai))) (λ_=>W)∘pR (bw gF (aY (bc ai (cb W))) (il (b_ W) (cT Z.CM f (cT Z.CS f W (ay (aI W ai))) (ay (aI W ai))) (aY cQ)))) ?_;ext⟨st,E,c,H,e,g,i⟩ y;let⟨k,A,C⟩:=y;let b:∀z,dW c (.stuck e g i)=z->∀G v,bL.rep G v z->bL.rep G v (dW c (.stuck e g i)):=λz h G v r=>∅;show bo (wb B O (bE O) (bE O) (bE O) k A C) ?_;cases f:w4 c e g i= []
 ·have p:D0 c e g i=_:=ar f;rw[p];let⟨D,I⟩:=qD k f;let⟨_,j,_⟩:=sZ.1 D;let s:=places_len k.aX.len j;show dF (b4.eq (bT (bJ O)) B) ?_;let l:=By k f;rw[se];generalize u:cJ ⇑c.nears (dB c e (dC c g i)) (cy ⇑c.nears e)=L at l;let t: ⇑L<=160000:=by rw[<-u];delta cJ;rw[aF];show s
  show bo (N.eq (eJ (bX (bJ O)) (λx=>decide (x.2<0)) (λx=>x.1) (λx Q=>⟨_,ef aJ aJ,bh (fz O aw),λ_=>O⟩) (by rw[aF];show cN t)) (BI L)) ?_;let m:∀q∈eP L,Ok ⇑c.nears e q:=λq o=>by rw[<-u] at o;show YZ o
  let d:dW c (.stuck e g i)=cC (⇑(eP L)::((eP L).take 1).flatMap fQ):=by rw[Kh];show l _
  generalize eP L=a at m d;cases a with
  | nil=>show aA (fY (cv (bj aw (bj (aq (bU (O B))) bN)) ⋯) (N.eq (gs (x:= []) (b4.eq (bT (O B)) B) (λh=>nomatch h) (λ_=>ki)) B) ⋯) ⟨(),B,b _ ?_⟩;rw[d];rfl
  | cons q a=>
    let o:=m q ∅;show aA (fY (m:=(fQ q).map λ(n:Nat)=>(n:Int)) (cv (e:=b5) (bj aw (bj (aq (bU (O B))) bN))) (N.eq (gs (y:= []) (b4.eq (bT (O B)) B) (λ_=>N.ints (eM (_,_,_) (eO (_,_,_,_,_) (O B) (a1 (bE (O B) B)) ⟨k,j⟩) (a1 (cw (O B) aw (fV B))) ⟨k.aX,o,j⟩)) (λh=>nomatch h)) B) ?_) ⟨(),B,b _ ?_⟩
    ·have:=o.len;rw[aF,bM];change 2+(⇑q.holes+1)<=_;lk
    ·rw[d];change cC (⇑(q::a)::(fQ q++ []))=_;rw[eS];rfl
 ·let p:D0 c e g i=_:=aj f;rw[p];show cZ (b4.eq (bT (bJ O)) ∅)<| aA (bJ O) ⟨(),B,b _ ?_⟩
  rw[Kh];show zT f _
def Bf(P:aW)(c:Nat)(h g f:LN0):dW P (.price c h g f)=if x8 P.count c h=ak then no 4 else iB P ⇑h g f (match aT P.count (dB P ⇑h (dC P g f)) ⟨c,h⟩with| none=>no 5| some d=>cC [d]):=B
abbrev zl:So0 (Nat×LN0×LN0×LN0)->Ct:=λ(a,c,d,g,h,i,j,k)=>P4 a c d g [.im b0 h, .im aB i, .im aB j, .im aB k] (bW d/\ ⇑i<=1000/\ ⇑j<=1000/\ ⇑k<=1000) (dW d (.price h i j k))
instance [T:Tx Z]:bt "call_price" 6 (b7 zl):=by
 show bC 97 ["state","given","car","holes","refusal","prices","price"] 2 (λ_ E e=>aO (aI W ai)∘aO (aI W ai)∘aO (l_ (K:=Z.K) B (aR e (c_ W W W)) (gE (aR e (iz W (cb W) (aI W ai) (aI W ai)))))∘bx (b_ W) (pR W) bB∘aO (cT Z.CS e W (c_ (cb W) (aI W ai) (aI W ai)))∘aO (aR e (bc W (cT Z.CM e (cT Z.CS e W (ay (cb W))) (bc W W))))∘pR (il (bI gH W ai) (aY (ay dr)) (aY (bc ai W)))) ?_;ext⟨st,p,a,q,c,h,g,j⟩ u;let⟨i,w,x,y⟩:=u;let b:∀z,dW a (.price c h g j)=z->∀G v,bL.rep G v z->bL.rep G v (dW a (.price c h g j)):=λz h G v r=>∅;show bo (bE O) (bo (bE O) ?_);show bo (lj (eC (st,p,a,q,_,_) (a3 O O O) ⟨(by have:=i.cnt;have:=i.aX.len;cbv),w⟩) λ_=>eC (st,p,a,q,_,_,_) (a4 O (bU O) (bE O) (bE O)) ⟨x,y⟩) ?_;cases k:x8 a.count c h=aa
 ·rw[show R6 a c h= [] by delta R6;rw[ar k],ar B];let l:∀z,(if x8 a.count c h=ak then no 4 else z)=z:=λz=>∅;cases e:j9 a ⇑h g j= []
  ·rw[e];let⟨A,C⟩:=Am e;let⟨s,t,_⟩:=jA.1 A;let⟨D,m,n⟩:=oV.1 k;rw[<-i.cnt] at s t n;show dF (b4.eq (bT O) B)<| bo (eO (_,_,_,_,_,_,_) O (a3 (bU O) (bE O) (bE O)) ⟨i,m,s,t⟩) ?_
   show bo (eC (_,_,_,_) (a2 O (eM (_,_,⟨_,_⟩) (eO (_,_,_,_,_) O (a1 (bU O)) ⟨i,m⟩) (a2 O O) ⟨i.aX,n⟩)) n) ?_;let f:dW a (.price c h g j)=match aT ⇑a.nears (dB a ⇑h (dC a g j)) ⟨c,h⟩with| none=>no 5| some d=>cC [d]:=by rw[Bf,l,C,i.cnt]
   generalize aT ⇑a.nears (dB a ⇑h (dC a g j)) ⟨c,h⟩=o at f;show aA (gs (b4.eq (bh (fz O aw)) (uP o)) (λ_=>dw) (λ_=>cv (bj aw (bj O bN)))) ⟨(),B,b _ ?_⟩;rw[f];cases o with
   | none=>rfl
   | some d=>rfl
  ·show cZ (b4.eq (bT O) ∅)<| aA O ⟨(),B,b _ ?_⟩
   rw[Bf,l];show rV e _
 ·let k:x8 a.count c h=false:=by simpa using k
  rw[show R6 a c h= [-4] by delta R6;rw[k];rfl,aj ∅];show cZ (b4.eq (bT O) B)<| aA O ⟨(),B,b _ ?_⟩
  rw[Bf,k];rfl
def m7(x:NN0):bV:=⟨x.1,x.2⟩
def Hn(a b:Nat)(r:LN0):f6 (a::b::r)=(a,b)::f6 r:=by delta f6;rw[show ⇑(a::b::r)/2=⇑r/2+1 by erw[cX];lk,rF,bp,bS];congr 1
def EJ:∀l:LN0,Tu l=if ⇑l % 2=0 then J ((f6 l).map m7)else ah
 | []=>rfl
 | [_]=>rfl
 | a::b::r=>by
   rw[Tu,EJ r,Hn];let e: ⇑(a::b::r) % 2=⇑r % 2:=⋯;rw[e];split
   ·rfl
   ·rfl
def rY(n:Nat)(l:LN0):mO n l=if J4 n l=aa then J ((f6 l).map m7)else none:=by
 delta mO J4;rw[EJ];cases a: ⇑l % 2=0
 ·cbv
 ·cbv
def xo(h:x.2<⇑s):can P s (m7 x)=B0 P.nears s x:=by change((P.near x.1).contains x.2 && (s.getD x.1 0 !=0 && (decide (x.2<⇑s) && s.getD x.2 0==0)))=_;rw[gX h,oI];rfl
def Iy(s:LN0)(x:NN0): ⇑(D6 s x)=⇑s:=by delta D6;simp
def vQ{P:aW}:∀(d:Y NN0) (i:Nat) (e:LL0) (u:LN0),⇑u=⇑P.nears->(∀y∈d,y.1<⇑P.nears/\y.2<⇑P.nears)->
 (∀w,does P i u (d.map m7)= .ok w->f9 P.nears (e++ [u]) d=e++along u (d.map m7)/\(along u (d.map m7)).getLast? =J w/\ ⇑(along u (d.map m7))=⇑d+1)/\
 (∀j,does P i u (d.map m7)= .error j->∃m,m<⇑d/\j=i+m/\ ⇑(f9 P.nears (e++ [u]) d)=⇑e+1+m)
 | [],i,e,u,_,_=>⟨λw h=>by cases h;show⟨B,B,B⟩,λj h=>by cases h⟩
 | x::d,i,e,u,k,g=>by
   let l:=g x (by simp);let n:(e++ [u]).getLastD []=u:=by simp
   let o:=xo (P:=P) (s:=u) (x:=x) (by cbv);rw[bp,does,f9,n,o];cases f:B0 P.nears u x=aa
   ·rw[ar f,ar f];let⟨p,q⟩:=vQ (P:=P) d (i+1) (e++ [u]) (D6 u x) (by rw[Iy];show k) λy r=>g y (by simp[r]);show⟨λw h=> ?_,λj h=> ?_⟩
    ·let⟨a,b,c⟩:=p w h;show⟨?_,?_,?_⟩
     ·rw[a,qk];rfl
     ·change(u::along (D6 u x) (d.map m7)).getLast? =J w;rw[List.getLast?_cons,b];rfl
     ·change ⇑(u::along (D6 u x) (d.map m7))=_;rw[cX,c,cX]
    ·let⟨m,a,b,c⟩:=q j h;show⟨m+1,?_,?_,?_⟩
     ·rw[cX];cbv
     ·lk
     ·lk
   ·rw[aj f,aj f];show⟨λw h=>(by cases h),λj h=> ?_⟩;cases h;show⟨0,by simp,B,by simp⟩
def C6(P:aW)(s r:LN0):LN0:=match mO P.count r with
 | none=>s
 | some l=>match does P 0 s l with
   | .error _=>s
   | .ok u=>u
def J3(P:aW)(s r:LN0):Y Int:=match mO P.count r with
 | none=>no 4
 | some l=>match does P 0 s l with
   | .error i=>noAt 5 i
   | .ok _=>cC [⇑l]
abbrev HR:Sx0 LN0->Ct:=λ(a,c,d,g,h)=>{M:=e_ a c d (J g),U:= [.im b6 a, .im (D9 [.im aB h]) ()],pre:=bW d/\cH d g/\ ⇑h<=1000,kq0:=λ_=>e_ a c d (J (C6 d g h)),be0:=Y Int,e:=bL,b:=λ_=>J3 d g h}
def Be{n:Nat}{l:LN0}(h:J4 n l=aa): ⇑l % 2=0/\∀y∈f6 l,y.1<n/\y.2<n:=by
 delta J4 at h;rw[cn,cj,eQ] at h;show⟨h.1,λy a=> ?_⟩;delta f6 at a;let⟨i,b,rfl⟩:=a_.1 a;let b:=dR.1 b;let g:∀j,j<⇑l->l.getD j 0<n:=λj c=>by have:=h.2 (l.getD j 0) (cD (getD_at c));show eN this
 show⟨g _ ⋯,g _ ⋯⟩
instance [T:Tx Z]:bt "call_run" 3 (b7 HR):=by
 show bC 88 ["state","given","refusal","shifts","along"] 2 (λ_ A d=>aO (aR d (bc W (aI W ai)))∘bx (b_ W) (pR W) bB∘aO (aR d (ay (aI W ai)))∘aO (aR d (c_ (ba (ba W)) (ba W) W))∘aO (aR d (bc W W))∘bx (b_ W) (pR W) bB∘ez W (aI W (fx fH ai))∘pR (aY (bc ai (cb W)))) ?_;ext⟨st,k,a,c,l⟩ q;let⟨s,p,t⟩:=q;show bo (eC (_,_,_,_,_) (a2 O (bE O)) t) ?_;cases d:J4 a.count l=aa
 ·let⟨u,f⟩:=Be d;rw[<-s.cnt] at f;let b:=rY a.count l;rw[ar d] at b;let x:=pairs_len l;rw[show F5 a l= [] by delta F5;rw[ar d]];show dF (b4.eq (bT O) B)<| bo (eC _ (a1 (bE O)) ⟨⋯,u⟩) ?_
  show bo (eC (_,_,_) (a3 (bJ (C:=Z.CP) (cF (j:=0) B O) B) (cF (j:=0) B O) O) ⟨p.len,f,⋯⟩)<| bo (eC (_,_) (a2 O O) cM) ?_
  let⟨n,h⟩:=vQ (f6 l) 0 [] c p.len f;cases g:does a 0 c ((f6 l).map m7)with
  | error j=>
    let⟨m,C,D,e⟩:=h j g;let e: ⇑(f9 a.nears [c] (f6 l))=m+1:=⋯;let o:D4 ⇑(f6 l) ⇑(f9 a.nears [c] (f6 l))= [-5,(j:Int)]:=by delta D4;rw[e,ar ⋯];congr 2;simp[*]
    rw[o];show cZ (b4.eq (bT O) B)<| aA O ⟨(),?_,λG v r=> ?_⟩
    ·change _=e_ st k a (J (C6 a c l));delta C6;rw[b];erw[g]
    ·change bL.rep G v (J3 a c l);delta J3;rw[b];erw[g];show r
  | ok w=>
    let⟨i,y,z⟩:=n w g;let i:f9 a.nears [c] (f6 l)=along c ((f6 l).map m7):=i;let o:D4 ⇑(f6 l) ⇑(f9 a.nears [c] (f6 l))= []:=by delta D4;rw[i,z,aj ∅]
    rw[o,i];show dF (b4.eq (bT O) B)<| aE (eW (j:=0) (cw O (fX aw) (kg y)) B O (el B) ?_)
    show aA (cv (bj aw (bj (aq (bU O)) bN))) ⟨(),?_,λG v r=> ?_⟩
    ·change _=e_ st k a (J (C6 a c l));delta C6;rw[b];erw[g];rfl
    ·change bL.rep G v (J3 a c l);delta J3;rw[b];erw[g,aF];show r
 ·rw[show F5 a l= [-4] by delta F5;rw[aj d]];let b:=rY a.count l;rw[aj d] at b;show cZ (b4.eq (bT O) B)<| aA O ⟨(),?_,λG v r=> ?_⟩
  ·change _=e_ st k a (J (C6 a c l));delta C6;rw[b]
  ·change bL.rep G v (J3 a c l);delta J3;rw[b];show r
def Sw(s:LN0):(bR ⇑s).map (λk=>s.getD k 0)=s:=by
 apply ox;ext i;rw[cP];cases h:i<⇑s
 ·cbv
 ·cbv
def Fd(s:LN0): ⇑(aK s)=s.count 0:=by
 delta aK
 conv=>rhs;rw[<-Sw s]
 rw[List.count,List.countP_map,List.countP_eq_length_filter];rfl
def zY(h:B0 a s x=aa)(d:x.1<⇑s)(b:x.2<⇑s):(D6 s x).Perm s:=by
 delta B0 at h;rw[cn,cn] at h;let⟨_,e,f⟩:=h;let e:s.getD x.1 0≠0:=⋯;let f:s.getD x.2 0=0:=⋯;let g:s[x.1]=s.getD x.1 0:=by rw[dJ,cW d];rfl
 let i:s[x.2]=0:=by rw[<-f,dJ,cW b];rfl
 let c:x.2≠x.1:=λz=>e ⋯;rw[List.perm_iff_count];ext v;delta D6;rw[aal ⋯,aal b,List.getElem_set_ne c,g,i];let j:0<s.count s[x.1]:=FZ.2 (rR d);let k:0<s.count s[x.2]:=FZ.2 (rR b);rw[g] at j;rw[i] at k;cases l:s.getD x.1 0=v
 ·lk
 ·lk
def cH.perm(h:cH P s)(a:u.Perm s):cH P u/\ ⇑(aK u)=⇑(aK s)/\∀p,p∈s->p∈u:=by
 let c: ⇑(aK u)=⇑(aK s):=by rw[Fd,Fd];show a.count_eq 0
 show⟨⟨by rw[a.length_eq];show h.len,?_,λp b=>h.lt p (a.mem_iff.1 b),by rw[c];show h.holes⟩,c,λp b=>a.mem_iff.2 b⟩;show(a.filter _).nodup_iff.2 h.nd
def Ah:∀(a:Y NN0) (i:Nat) (u w:LN0),⇑u=⇑P.nears->(∀y∈a,y.1<⇑P.nears/\y.2<⇑P.nears)->does P i u (a.map m7)= .ok w->(∀v∈RZ u (a.map m7),v.Perm u)/\w.Perm u
 | [],i,u,w,_,_,h=>by cases h;show⟨λv b=>by rw[iW.1 b],uR _⟩
 | x::a,i,u,w,f,c,h=>by
   let g:=c x (by simp);rw[bp,does] at h;split at h
   ·rename_i d;rw[xo (by cbv)] at d;let e:=zY d (by cbv) (by cbv);let⟨j,k⟩:=Ah a (i+1) (D6 u x) w (by rw[Iy];show f) (λy l=>c y (by simp[l])) h;show⟨λv b=> ?_,k.trans e⟩;obtain z| z:=cp.1 (show v∈u::RZ (D6 u x) (a.map m7)from b)
    ·rw[z]
    ·show(j v z).trans e
   ·cases h
def aay(d:bW P)(b:cH P s):cH P (C6 P s r):=by
 delta C6;rw[rY];cases c:J4 P.count r=aa
 ·rw[ar c];let⟨_,a⟩:=Be c;rw[<-d.cnt] at a;change cH P (match does P 0 s ((f6 r).map m7)with| .error _=>s| .ok u=>u);cases e:does P 0 s ((f6 r).map m7)with
  | error j=>show b
  | ok w=>show(b.perm (Ah _ 0 s w b.len a e).2).1
 ·rw[aj c];show b
def VX(b:bW P)(c:∀s,so=J s->cH P s):∀s,F1 P so r=J s->cH P s:=by
 ext s h;delta F1 at h;split at h
 ·show c s h
 ·rename_i a;cases h;let a:iX P.count r=none:=by cases z:iX P.count r with| none=>rfl| some k=>rw[z] at a;show aN B a
  delta iX at a;split at a
  ·cases a
  ·rename_i i;split at a
   ·cases a
   ·rename_i d;split at a
    ·rename_i e;split at a
     ·cases a
     ·rename_i f;show⟨by rw[b.cnt];cbv,e,λp g=> ?_,?_⟩
      ·let j:¬(99<p):=λz=>d (iC.2 ⟨p,g,gX z⟩)
       cbv
      ·delta yV at f;lk
    ·cases a
def vV(P:aW)(s:LN0)(p:Nat)(g f r:LN0):cG P s (.weigh p g f r)=kK P s p g f λ_=>match mO P.count r with
 | none=>no 4
 | some x=>match does P 0 s x with
   | .error i=>noAt 5 i
   | .ok _=>tells ((if((along s x).map λu=>gQ P (bz P s g f) u p).getLast? =J (J 0)/\((along s x).map λu=>gQ P (bz P s g f) u p).head? =J (J ⇑x)then 1 else 0)::((along s x).map λu=>gQ P (bz P s g f) u p).map bq):=B
abbrev FJ:Sx0 (Nat×LN0×LN0×LN0)->Ct:=λ(a,c,d,g,h,i,j,k)=>P4 a c d (J g) [.im b0 h, .im aB i, .im aB j, .im aB k] (bW d/\cH d g/\ ⇑i<=1000/\ ⇑j<=1000/\ ⇑k<=1000) (cG d g (.weigh h i j k))
def Tp(s:LN0)(x:Y bV):∃t,along s x=s::t:=by cases x with| nil=>show⟨[],B⟩| cons a r=>show⟨_,B⟩
instance [T:Tx Z]:bt "call_weigh" 7 (b7 FJ):=by
 show bC 93 ["state","given","pallet","refusal","shifts","along","prices","told","standing","is_least"] 2 (λ_ nd f=>aO (aI W ai)∘aO (l_ (K:=Z.K) B (aR f (bc W (aY (ay W)))) (l_ (K:=Z.K) B (aR f (c_ W (aI W ai) (aI W ai))) (gE (aR f (bc W (aI W ai))))))∘bx (b_ W) (pR W) bB∘aO (aR f (ay (aI W ai)))∘aO (aR f (c_ (ba (ba W)) (ba W) W))∘aO (aR f (bc W W))∘bx (b_ W) (pR W) bB∘aO (cT Z.CS f W (bc (aI W ai) (aI W ai)))∘hX 7 [8] nd (cf W) (λ_=>aL) (λ_=>d_) (λ_=>(aR f (bc W (cT Z.CS f W (bc W W)))))∘aO (nN (fN dG (aI W ai) (cb W)) (gE (fN dG (aI W (fx fH ai)) ai)))∘pR (bw gF (aY (bc ai (il (b_ W) ai ai))) W)) ?_;ext⟨st,dz,a,b,p,g,c,l⟩ hp;let⟨I,C,hg,hf,hl⟩:=hp;let Du:=C.small I;let e:∀z,cG a b (.weigh p g c l)=z->∀G v,bL.rep G v z->bL.rep G v (cG a b (.weigh p g c l)):=λz h G v r=>∅;show bo (bE O)<| bo (lj (eC (st,dz,a,b, [p]) (a2 O (cv (bj O bN))) ⋯) λ_=>lj (eC (st,dz,a,b,_,_) (a3 O (bE O) (bE O)) ⟨⋯,hg,hf⟩) λ_=>eC (st,dz,a,J b,_) (a2 O (bE O)) hl) ?_
 cases f:h7 a b [p] g c= []
 ·let⟨h1,h2⟩:=ij f;let⟨_,hst,_⟩:=gj.1 h1;let⟨E,H⟩:=hst p ∅;let⟨h4,h5,_⟩:=jA.1 h2;rw[<-I.cnt] at h4 h5;let e1:p0 b [p]= []:=by delta p0;rw[ar h1]
  let e2:j9 a ⇑(aK b) g c= []:=by delta j9;rw[ar h2]
  rw[e1,e2,ar B,ar B];cases n:J4 a.count l=aa
  ·let⟨h2',t⟩:=Be n;rw[<-I.cnt] at t;let k:=rY a.count l;rw[ar n] at k;let ub:=pairs_len l;rw[show F5 a l= [] by delta F5;rw[ar n]];show dF (b4.eq (bT O) B)<| bo (eC _ (a1 (bE O)) ⟨⋯,h2'⟩) ?_
   show bo (eC (_,_,_) (a3 (bJ (C:=Z.CP) (cF (j:=0) B O) B) (cF (j:=0) B O) O) ⟨C.len,t,⋯⟩)<| bo (eC (_,_) (a2 O O) cM) ?_
   let⟨aQ,L⟩:=vQ (f6 l) 0 [] b C.len t;cases Q:does a 0 b ((f6 l).map m7)with
   | error j=>
     let⟨m,hm,hj,D⟩:=L j Q;let D: ⇑(f9 a.nears [b] (f6 l))=m+1:=⋯;let e3:D4 ⇑(f6 l) ⇑(f9 a.nears [b] (f6 l))= [-5,(j:Int)]:=by delta D4;rw[D,ar ⋯];congr 2;simp[*]
     rw[e3];show cZ (b4.eq (bT O) B)<| aA O ⟨(),B,e _ ?_⟩
     rw[vV,kd f,k];erw[Q];rfl
   | ok w=>
     let⟨ha,hb,hc⟩:=aQ w Q;let⟨q,afb⟩:=Ah (f6 l) 0 b w C.len t Q;let ha:f9 a.nears [b] (f6 l)=along b ((f6 l).map m7):=ha;let e3:D4 ⇑(f6 l) ⇑(f9 a.nears [b] (f6 l))= []:=by delta D4;rw[ha,hc,aj ∅]
     rw[e3,ha];let i:cG a b (.weigh p g c l)=_:=(vV a b p g c l).trans (kd f _);rw[k] at i;erw[Q,aF] at i;let⟨tl,NY⟩:=Tp b ((f6 l).map m7);generalize hA:along b ((f6 l).map m7)=A at i hb hc q NY;show dF (b4.eq (bT O) B)<| bo (eO (_,_,_,_,_,_) O (a2 (bE O) (bE O)) ⟨I,C,h4,h5⟩) ?_
     let hk:∀u∈A,bq (aT ⇑a.nears (bz a b g c) (c6 u p))=bq (gQ a (bz a b g c) u p):=λu hu=>by delta gQ;rw[placeOf_some E ((C.perm (q u hu)).2.2 p H),<-I.cnt];rfl
     show bo (N.eq (ei (er:=b5) (bX O) (λu=>bq (gQ a (bz a b g c) u p)) (λu hu=>⟨_,aJ,?_⟩) ?_) (bS.symm:_=((A.map λu=>gQ a (bz a b g c) u p).map bq))) ?_
     ·let s:=C.perm (q u hu);let ho:Ok ⇑a.nears ⇑(aK b) (c6 u p):=by rw[<-s.2.1];show la s.1.len E (s.2.2 p H)
      show N.eq (eC (_,_,_,_) (a2 O (eO (_,_,_,_,_,_) O (a2 O O) ⟨I,C,s.1.len,s.2.1,E,(s.2.2 p H)⟩)) ho) (hk u hu)
     ·rw[hc,bM];lk
     let x:(A.map λu=>gQ a (bz a b g c) u p)[0]? =J (gQ a (bz a b g c) b p):=⋯;let y:(A.map λu=>gQ a (bz a b g c) u p).getLast? =J (gQ a (bz a b g c) w p):=by rw[yX,hb];rfl
     let hVl: ⇑(A.map λu=>gQ a (bz a b g c) u p)<=1001:=⋯;generalize (A.map λu=>gQ a (bz a b g c) u p)=V at i x y hVl;generalize gQ a (bz a b g c) b p=o0 at x;generalize gQ a (bz a b g c) w p=o1 at y;let hh0:V.head? =J o0:=by rw[List.head?_eq_getElem?];show x
     show bo (N.eq (nQ (dP (cw O aw (fV (by rw[cP,x];rfl))) (aq (bU O))) λ_=>dP (cw O (fX aw) (kg (by rw[yX,y];rfl))) aw) (show _=decide (V.getLast? =J (J 0)/\V.head? =J (J ⇑(f6 l)))from ?_)) ?_
     ·rw[y,hh0,cE,cn,cj,cj,cj];let xN:∀(o:az Nat) (m:Nat),bq o=(m:Int)↔o=J m:=λo m=>by
       cases o with
       | none=>show⟨λh=>by have:(-1:Int)=(m:Int):=h;cbv,λh=>nomatch h⟩
       | some d=>show⟨λh=>by have:(d:Int)=(m:Int):=h;rw[show d=m by lk],λh=>by cases h;rfl⟩
      rw[xN o0,show(0:Int)=((0:Nat):Int)from B,xN o1];walk
      ·lk
      ·lk
     ·refine aA (fY (cv (bj aw (bj (gs (eI O) (λ_=>aw) (λ_=>aw)) bN))) O ?_) ⟨(),B,e _ ?_⟩
      ·rw[aF,bM];change 2+_<=_;lk
      ·rw[i];cases s:V.getLast? =J (J 0)/\V.head? =J (J ⇑(f6 l))
       ·rw[ar s,gX s];rfl
       ·rw[aj s,jw s];rfl
  ·rw[show F5 a l= [-4] by delta F5;rw[aj n]];let k:=rY a.count l;rw[aj n] at k;show cZ (b4.eq (bT O) B)<| aA O ⟨(),B,e _ ?_⟩
   rw[vV,kd f,k];rfl
 ·have e1:(if p0 b [p]= [] then if j9 a ⇑(aK b) g c= [] then F5 a l else j9 a ⇑(aK b) g c else p0 b [p])=h7 a b [p] g c:=by
   delta h7 at f⊢;cases z:p0 b [p]= []
   ·lk
   ·rw[aj z,aj z]
  rw[e1];show cZ (b4.eq (bT O) (by cases h:h7 a b [p] g c with| nil=>show aN h f| cons _ _=>rfl))<| aA O ⟨(),B,e _ ?_⟩
  rw[vV];show oJ f _
def K5(l:Y (Nat×az Nat)):Y NN0:=l.filterMap λx=>x.2.map λd=>(d,x.1)
def LH(p:Nat)(l:Y (Nat×az Nat)):K5 ((p,ah)::l)=K5 l:=B
def Zl(p d:Nat)(l:Y (Nat×az Nat)):K5 ((p,J d)::l)=(d,p)::K5 l:=B
def HJ(p d:Nat)(l:Y (Nat×az Nat)):kh ((p,J d)::l)=match kh l with| none=>J (p,d)| some z=>if d<z.2\/(d=z.2/\p<z.1)then J (p,d)else J z:=by change(match(J d:az Nat),kh l with| none,z=>z| some d,ah=>J (p,d)| some d,J (q,c)=>if d<c\/(d=c/\p<q)then J (p,d)else J (q,c))=_;cases kh l<;>rfl
def Af:∀{l:Y (Nat×az Nat)},kh l=ah->K5 l= []
 | [],_=>rfl
 | (p,ah)::l,h=>by rw[LH];show Af h
 | (p,J d)::l,h=>by
   rw[HJ] at h;cases q:kh l with
   | none=>rw[q] at h;cases h
   | some x=>rw[q] at h;simp only at h;split at h<;>cases h
def Ae:∀{l:Y (Nat×az Nat)} {x:NN0},kh l=J x->(x.2,x.1)∈K5 l/\∀y∈K5 l,¬A0 y (x.2,x.1)
 | [],_,h=>nomatch h
 | (p,ah)::l,x,h=>by rw[LH];show Ae h
 | (p,J d)::l,x,h=>by
   rw[Zl];rw[HJ] at h;cases q:kh l with
   | none=>rw[q] at h;cases h;show⟨∅,λy c=> ?_⟩;rw[Af q] at c;rw[iW.1 c];delta A0;simp
   | some z=>
     let⟨a,b⟩:=z;let⟨i,f⟩:=Ae q;rw[q] at h;simp only at h;split at h
     ·rename_i g;cases h;show⟨∅,λy c=> ?_⟩;obtain e| e:=cp.1 c
      ·rw[e];delta A0;simp
      ·have:=f y e;delta A0 at this⊢;simp only at this⊢;lk
     ·rename_i g;cases h;show⟨∅,λy c=> ?_⟩;obtain e| e:=cp.1 c
      ·rw[e];delta A0;simp only;cbv
      ·show f y e
def Cv:∀l:Y (Nat×az Nat),((l.map λx=>(x.1,bq x.2)).filter λx=>decide (0<=x.2)).map (λx=>(x.2.toNat,x.1))=K5 l
 | []=>rfl
 | (a,ah)::l=>by rw[bp,EC (by change¬decide ((0:Int)<=-1)=aa;decide),Cv l];rfl
 | (a,J d)::l=>by rw[bp,EB (by change decide ((0:Int)<=(d:Int))=aa;show gX (by cbv)),bp,Cv l];rfl
def Ho(P:aW)(s g f:LN0):cG P s (.nearest g f)=iB P ⇑(aK s) g f (match kh (oq P (bz P s g f) s)with| none=>no 5| some x=>cC [x.1,x.2]):=B
abbrev EN:Sx0 (LN0×LN0)->Ct:=λ(a,c,d,g,h,i)=>P4 a c d (J g) [.im aB h, .im aB i] (bW d/\cH d g/\ ⇑h<=1000/\ ⇑i<=1000) (cG d g (.nearest h i))
instance [T:Tx Z]:bt "call_nearest" 9 (b7 EN):=by
 show bC 95 ["state","given","refusal","known","pallet","price","nearest"] 2 (λ_ q f=>aO (aR f (c_ W (aI W ai) (aI W ai)))∘bx (b_ W) (pR W) bB∘hX 3 [4,5] q (cf (aR f (c_ W (aI W ai) (aI W ai)))) (λ_=>(dy 2 (bG aL (bG aL du)))) (λ_=>(eV (bI lq W ai))) (λ_=>(fI (bc W W)))∘bx (hE (b_ W)) (pR (aY (ay dr))) bB∘aO (dj (KO (K:=Z.K) B B f.hu) (ay W))∘pR (aY (c_ ai (dm W ai) (dm W ai)))) ?_;ext⟨st,m,c,d,g,e⟩ s;let⟨i,n,t,u⟩:=s;let k:=n.small i;let b:∀z,cG c d (.nearest g e)=z->∀G v,bL.rep G v z->bL.rep G v (cG c d (.nearest g e)):=λz h G v r=>∅;show bo (eC (st,m,c,d,_,_) (a3 O (bE O) (bE O)) ⟨⋯,t,u⟩) ?_;cases f:j9 c ⇑(aK d) g e= []
 ·rw[f];let⟨w,y⟩:=Am f;let⟨o,p,_⟩:=jA.1 w;rw[<-i.cnt] at o p;show dF (b4.eq (bT O) B) ?_;let l: ⇑(K2 c d (bz c d g e))<=20:=by delta K2;rw[aF];show da (jq _ _) k
  show bo (N.eq (eJ (bX (eC (C:=Ei) (st,m,c,d,_,_) (a3 O (bE (i:=0) O) (bE (i:=1) O)) ⟨i,n,o,p⟩)) (λx=>decide (0<=x.2)) (λx=>(x.2.toNat,x.1)) (λx D=>⟨_,ef aJ aJ,bh (km O aw),λh=>g_ (N.nat O ⋯) O⟩) (cN l)) (show _=K5 (oq c (bz c d g e) d) by rw[MH i];show Cv _)) ?_;let a:cG c d (.nearest g e)=match kh (oq c (bz c d g e) d)with| none=>no 5| some x=>cC [x.1,x.2]:=by rw[Ho,y]
  generalize oq c (bz c d g e) d=L at a;cases j:kh L with
  | none=>rw[j] at a;rw[Af j];show cZ (b4.eq (fi (bT O)) B)<| aA dw ⟨(),B,b _ a⟩
  | some x=>
    rw[j] at a;let⟨A,C⟩:=Ae j;show dF (b4.eq (fi (bT O)) ⋯)<| bo (LR O A C) ?_
    show aA (cv (bj aw (bj (aq (mh (O B))) (bj (aq (jH (O B))) bN)))) ⟨(),B,b _ a⟩
 ·show cZ (b4.eq (bT O) ∅)<| aA O ⟨(),B,b _ ?_⟩
  rw[Ho];show rV f _
def foldl_max:∀(l:LN0) (a:Nat),a<=l.foldl max a/\(∀x∈l,x<=l.foldl max a)/\(l.foldl max a=a\/l.foldl max a∈l)
 | [],a=>⟨br _,(λ_ h=>nomatch h), .inl B⟩
 | x::l,a=>by
   let⟨b,c,d⟩:=foldl_max l (max a x);rw[gU];show⟨⋯,λy e=> ?_,?_⟩
   ·lk
   ·lk
def II(h:e<n):cy n e≠ []:=by have:(⟨e,bR e⟩:Pl)∈cy n e:=gy.2 ⟨h,by simp,jQ,λj a=>by have:=dR.1 a;lk,by simp⟩;show yM this
def Al:d∈cR l↔∃x∈l,x.2=J d:=by delta cR;rw[js]
def Km(h:cR l= []):∀x∈l,x.2=none:=λx a=>by
 cases z:x.2 with
 | none=>rfl
 | some d=>have:d∈cR l:=Al.2 ⟨x,a,z⟩;rw[h] at this;cases this
def Kk(h:cR l≠ []):(∃x∈l,x.2=J (fT (cR l)))/\∀x∈l,bq x.2<=(fT (cR l):Int):=by
 let⟨j,a,b⟩:=foldl_max (cR l) 0;let c:fT (cR l)∈cR l:=by
  obtain e| e:=b
  ·let⟨d,t,f⟩:=rC h;have:=a d ∅;rw[e] at this;let g:d=0:=∅;delta fT;rw[e,f,g];simp
  ·show e
 show⟨Al.1 c,λx i=> ?_⟩;cases z:x.2 with
 | none=>change(-1:Int)<=_;cbv
 | some d=>
   have:=a d (Al.2 ⟨x,i,z⟩);change(d:Int)<=((cR l).foldl max 0:Nat)
   cbv
def Hq(P:aW)(e:Nat)(g f:LN0):dW P (.hardest e g f)=qi P e g f λl=>match l.find? λx=>x.2==J (fT (cR l))with| none=>no 5| some x=>cC (fT (cR l)::fQ x.1):=B
def Tc(l:Y (Pl×az Nat))(d:Nat):((l.map λx=>(x.1,bq x.2)).filter λx=>decide (x.2=(d:Int))).map (λx=>x.1)=(l.filter λx=>x.2==J d).map (λx=>x.1):=by
 rw[gx,bS];have:(gk (λ(x:Pl×Int)=>decide (x.2=(d:Int))) λ(x:Pl×az Nat)=>(x.1,bq x.2))=λx=>x.2==J d:=by funext x;show rZ x.2 d
 rw[this];rfl
abbrev yF:So0 (Nat×LN0×LN0)->Ct:=λ(a,c,d,g,h,i,j)=>P4 a c d g [.im b0 h, .im aB i, .im aB j] (bW d/\ ⇑i<=1000/\ ⇑j<=1000) (dW d (.hardest h i j))
instance [T:Tx Z]:bt "call_hardest" 9 (b7 yF):=by
 show bC 99 ["state","given","survey","greatest","place","price","hardest"] 2 (λ_ I k=>aO (lx k (iz W (aI W ai) (aI W ai) (aI W ai)))∘bx (b_ (ba W)) (pR (ba W)) bB∘aO (dj (Md (K:=Z.K) B B) (ay (dg [4,5] I (cf (ba W)) (λ_=>(dy 2 (bG aL (bG aL du)))) (λ_=>d_) (λ_=>W))))∘bx (bI gH W ai) (pR (aY (ay dr))) bB∘hX 6 [4,5] I (cf (ba W)) (λ_=>(dy 2 (bG aL (bG aL du)))) (λ_=>(eV (bI dG W W))) (λ_=>W)∘pR (bw gF (aY (bc ai W)) (cT Z.CM k (cT Z.CS k W (ay (aI W ai))) (ay (aI W ai))))) ?_;ext⟨st,dz,b,so,e,g,i⟩ hp;let⟨m,hg,hf⟩:=hp;let f:∀z,dW b (.hardest e g i)=z->∀G v,bL.rep G v z->bL.rep G v (dW b (.hardest e g i)):=λz h G v r=>∅;show bo (wb B O (bE O) (bE O) (bE O) m hg hf) ?_;cases k:w4 b e g i= []
 ·have w:D0 b e g i=_:=ar k;rw[w];let⟨h1,h2⟩:=qD m k;let⟨_,n,p⟩:=sZ.1 h1;rw[<-m.cnt] at p;let A:=places_len m.aX.len n;show dF (b4.eq (bT (bJ O)) B) ?_;let c:dW b (.hardest e g i)=_:=(Hq b e g i).trans (By m k _);rw[se];let C:=II p;let q:∀x∈cJ ⇑b.nears (dB b e (dC b g i)) (cy ⇑b.nears e),Ok ⇑b.nears e x.1:=λx j=>by delta cJ at j;let⟨y,o,rfl⟩:=a_.1 j;show gy.1 o
  let s:cJ ⇑b.nears (dB b e (dC b g i)) (cy ⇑b.nears e)≠ []:=by delta cJ;ext z;show C (lF.1 z)
  let l:(cJ ⇑b.nears (dB b e (dC b g i)) (cy ⇑b.nears e)).length<=160000:=by delta cJ;rw[aF];show A
  generalize cJ ⇑b.nears (dB b e (dC b g i)) (cy ⇑b.nears e)=L at c q s l;cases Q:cR L= []
  ·have hn:=Km Q;let⟨D,t0,E⟩:=rC s;show bo (Cf (m:= -1) (ei (bX (bJ O)) (λx=>x.2) (λx j=>⟨_,ef aJ aJ,O⟩) (by rw[aF];show cN l)) ?_ ?_) ?_
   ·rw[bS];show a_.2 ⟨D,∅,by change bq D.2= -1;rw[hn D (by rw[E];simp)];rfl⟩
   ·ext y o;rw[bS] at o;let⟨x,j,rfl⟩:=a_.1 o;change bq x.2<=-1;rw[hn x j];decide
   ·show cZ (b4.eq (bh (fz O aw)) B)<| aA dw ⟨(),B,f _ ?_⟩
    rw[c];change(match L.find? λx=>x.2==J (fT (cR L))with| none=>no 5| some x=>cC (fT (cR L)::fQ x.1))=_;rw[rO.2 λx j=>⋯];rfl
  ·let⟨⟨xm,H,t⟩,u⟩:=Kk Q;let c:dW b (.hardest e g i)=(match L.find? λx=>x.2==J (fT (cR L))with| none=>no 5| some x=>cC (fT (cR L)::fQ x.1)):=c;generalize fT (cR L)=d at c t u;show bo (Cf (m:=(d:Int)) (ei (bX (bJ O)) (λx=>x.2) (λx j=>⟨_,ef aJ aJ,O⟩) (by rw[aF];show cN l)) ?_ ?_) ?_
   ·rw[bS];show a_.2 ⟨xm,H,by change bq xm.2=(d:Int);rw[t];rfl⟩
   ·ext y o;rw[bS] at o;let⟨x,j,e⟩:=a_.1 o;show e▸u x j
   ·show dF (b4.eq (bh (fz O aw)) (jw ∅))<| bo (N.eq (eJ (bX (bJ O)) (λx=>decide (x.2=(d:Int))) (λx=>x.1) (λx j=>⟨_,ef aJ aJ,bh (dP O O),λ_=>O⟩) (by rw[aF];show cN l)) (Tc L d)) ?_
    rw[<-GH] at c;cases hq:L.filter (λx=>x.2==J d)with
    | nil=>lk
    | cons x a=>rw[hq] at c;let j:Ok ⇑b.nears e x.1:=q x (cz.1 (by rw[hq];simp:x∈L.filter λx=>x.2==J d)).1;show aA (fY (cv (bj aw (bj O bN))) (N.ints (eM (_,_,x.1) (eO (_,_,_,_,_) O (a1 (bE O)) ⟨m,n⟩) (a1 (cw O aw (fV B))) ⟨m.aX,j,n⟩)) ?_) ⟨(),B,f _ c⟩;have:=j.len;rw[aF,bM];change 2+(⇑x.1.holes+1)<=_;lk
 ·let w:D0 b e g i=_:=aj k;rw[w];show cZ (b4.eq (bT (bJ O)) (by cases h:w4 b e g i with| nil=>show aN h k| cons _ _=>rfl))<| aA (bJ O) ⟨(),B,f _ ?_⟩
  rw[Hq];show zT k _
def R0(o:az Nat):Nat:=match o with| none=>0| some d=>d+1
def Ni(o:az Nat):bq o+1=(R0 o:Int):=by cases o<;>rfl
def K6(a:LN0)(x:Pl×az Nat):LN0:=a.set (R0 x.2) (a.getD (R0 x.2) 0+1)
def Mb(a:LN0)(l:Y (Pl×az Nat)): ⇑(l.foldl K6 a)=⇑a:=by
 induction l generalizing a with
 | nil=>rfl
 | cons x l b=>rw[gU,b];show jU
def xk:∀(l:Y (Pl×az Nat)) (c:Nat) (a:Array Nat),l.foldl K6 (c::a.toList)=(c+⇑(eP l))::((cR l).foldl (λ(a:Array Nat) (d:Nat)=>a.setIfInBounds d (a.getD d 0+1)) a).toList
 | [],c,a=>rfl
 | (x,ah)::l,c,a=>by rw[gU];change l.foldl K6 ((c+1)::a.toList)=(c+(⇑(eP l)+1))::_;rw[xk l (c+1) a,show c+1+⇑(eP l)=c+(⇑(eP l)+1) by lk];rfl
 | (x,J d)::l,c,a=>by
   rw[gU];have:K6 (c::a.toList) (x,J d)=c::(a.setIfInBounds d (a.getD d 0+1)).toList:=by change c::a.toList.set d ((c::a.toList).getD (d+1) 0+1)=_;rw[Qp];congr 3;simp[jo]
   rw[this,xk l c _];rfl
def Wh(d:Nat):de (d+2) 0=0::(lJ (d+1) 0).toList:=by rw[Array.toList_replicate];rfl
def ZM(h:cR l≠ []):l.foldl K6 (de (fT (cR l)+2) 0)=⇑(eP l)::rN (cR l):=by rw[Wh,xk,jZ];delta rN;rw[aj h]
def ZN(h:cR l= []):l.foldl K6 (de 1 0)=⇑(eP l)::rN (cR l):=by have:=xk l 0 #[];rw[h] at this⊢;rw[jZ] at this;show this
def IT(P:aW)(e:Nat)(g f:LN0):dW P (.spread e g f)=qi P e g f λl=>cC (⇑(eP l)::rN (cR l)):=B
abbrev yU:So0 (Nat×LN0×LN0)->Ct:=λ(a,c,d,g,h,i,j)=>P4 a c d g [.im b0 h, .im aB i, .im aB j] (bW d/\ ⇑i<=1000/\ ⇑j<=1000) (dW d (.spread h i j))
instance [T:Tx Z]:bt "call_spread" 9 (b7 yU):=by
 show bC 98 ["state","given","survey","listed","place","price","counts"] 2 (λ_ nd o=>aO (lx o (iz W (aI W ai) (aI W ai) (aI W ai)))∘bx (b_ (ba W)) (pR (ba W)) bB∘hX 3 [4,5] nd (cf (ba W)) (λ_=>(dy 2 (bG aL (bG aL du)))) (λ_=>d_) (λ_=>W)∘aO (bw MJ (aY (ay ai)) (bw fJ (dj (Md (K:=Z.K) B B) (ay W)) ai))∘dI (cf W) aL (bP (BB W (bw fJ W ai) (AE (K:=Z.K) B) ai BL set_list))∘pR (bw gF (aY (ay ai)) W)) ?_;ext⟨st,dz,b,so,e,g,f⟩ hp;let⟨n,hg,hf⟩:=hp;let k:∀z,dW b (.spread e g f)=z->∀G v,bL.rep G v z->bL.rep G v (dW b (.spread e g f)):=λz h G v r=>∅;show bo (wb B O (bE O) (bE O) (bE O) n hg hf) ?_;cases o:w4 b e g f= []
 ·have I:D0 b e g f=_:=ar o;rw[I];let⟨h1,h2⟩:=qD n o;let⟨_,q,s⟩:=sZ.1 h1;rw[<-n.cnt] at s;let Q:=places_len n.aX.len q;show dF (b4.eq (bT (bJ O)) B) ?_;let c:dW b (.spread e g f)=_:=(IT b e g f).trans (By n o _);rw[se];let ek:=II s;let t:∀x∈cJ ⇑b.nears (dB b e (dC b g f)) (cy ⇑b.nears e),∀d,x.2=J d->d<160000:=λx j d hd=>by delta cJ at j;let⟨y,u,rfl⟩:=a_.1 j;show(tw n.aX.aX _ _).small n.aX.aX n.aX.len q (gy.1 u) hd
  let w:cJ ⇑b.nears (dB b e (dC b g f)) (cy ⇑b.nears e)≠ []:=by delta cJ;ext z;show ek (lF.1 z)
  let A:(cJ ⇑b.nears (dB b e (dC b g f)) (cy ⇑b.nears e)).length<=160000:=by delta cJ;rw[aF];show Q
  generalize cJ ⇑b.nears (dB b e (dC b g f)) (cy ⇑b.nears e)=L at c t w A;let c:dW b (.spread e g f)=cC (⇑(eP L)::rN (cR L)):=c;let⟨m,xP,rA,C,D⟩:∃m:Nat,m<=160001/\((m:Int)-2)∈(L.map λx=>bq x.2)/\(∀y∈(L.map λx=>bq x.2),y<=(m:Int)-2)/\L.foldl K6 (de m 0)=⇑(eP L)::rN (cR L):=by
   cases H:cR L= []
   ·let hn:=Km H;let⟨x0,t0,hx0⟩:=rC w;show⟨1,∅,a_.2 ⟨x0,∅,by rw[hn x0 (by rw[hx0];simp)];rfl⟩,λy u=> ?_,ZN H⟩;let⟨x,j,rfl⟩:=a_.1 u;change bq x.2<=-1;rw[hn x j];decide
   ·let⟨⟨xm,l,E⟩,hle⟩:=Kk H;have:=t xm l _ E;show⟨fT (cR L)+2,∅,a_.2 ⟨xm,l,by rw[E];change((fT (cR L):Nat):Int)=_;cbv⟩,λy u=> ?_,ZM H⟩;let⟨x,j,rfl⟩:=a_.1 u;have:=hle x j
    cbv
  let hub:∀x∈L,R0 x.2<m:=λx j=>by have:=C _ (a_.2 ⟨x,j,B⟩);have:=Ni x.2;lk
  show bo (N.eq (ei (bX (bJ O)) (λx=>x.2) (λx j=>⟨_,ef aJ aJ,O⟩) (by rw[aF];show cN A)) (show _=L.map λx=>bq x.2 by rw[bS];rfl))<| aE (eh (ML (cv (e:=b0) (bj aw bN)) (N.eq (fj (Cf (m:=(m:Int)-2) O rA C) aw) (show _=(m:Int) by change(m:Int)-2+2=m;cbv)) ⟨∅,⋯⟩ (by rw[bM];change 1*(m:Int).toNat<=_;lk)) λp=> ?_)
  rw[fo,show(de m [0]).flatten=de m 0 from List.flatten_replicate_singleton];show aE (hB (λi=>e_ st dz b so++ [c8 p b0 ((L.take i).foldl K6 (de m 0))]) (λi=> [.im b6 st, .im (D9 [.im b0 e, .im aB g, .im aB f]) (), .no, .im (eList b5) (L.map λx=>bq x.2), .no, .no, .im b6 p]) (bX O) B ?_ ?_ ?_)
  ·show .eq (.eq (.no (.eq (.no (.no (.eq .nil))))))
  ·ext i a ha;rw[cP] at ha;let⟨x,j,rfl⟩:=qd.1 ha;let l:x∈L:=cD j;show⟨_, [5],aJ,?_⟩;show A_ (j:=2) (i:=R0 x.2) (b:=1) (c:=((L.take i).foldl K6 (de m 0)).getD (R0 x.2) 0+1) O B (N.eq (fj O aw) (Ni x.2)) aw (by rw[Mb,ES];show hub x l) ∅<| ⟨?_, .eq (.eq (.eq (.eq (.no (.no (.eq .nil))))))⟩
   rw[GG,j,mM];rfl
  ·rw[aF,fe,D];show gr (j:=2) (i:=6) B B<| aA (fY dw (N.ints O) ?_) ⟨(),B,k _ c⟩
   have:=congrArg kY D;rw[Mb,ES] at this;rw[aF,<-this,bM];change 1+m<=_;lk
 ·let I:D0 b e g f=_:=aj o;rw[I];show cZ (b4.eq (bT (bJ O)) ∅)<| aA (bJ O) ⟨(),B,k _ ?_⟩
  rw[IT];show zT o _
def KA:∀{l:LN0},l.Nodup->c∈l->(l.flatMap λa=>if a=c then X else [])=X
 | [],_,h=>nomatch h
 | a::l,d,h=>by
   let⟨f,g⟩:=eR.1 d;rw[jS];cases e:a=c
   ·rw[ar e];have:(l.flatMap λa=>if a=c then X else [])= []:=List.flatMap_eq_nil_iff.2 λb i=>aj λz=>f ∅;rw[this,eS]
   ·rw[aj e,uS];show KA g ((cp.1 h).resolve_left λz=>e z.symm)
def IJ(d:c<n):(cy n e).filter (λq=>decide (q.car=c))=gh n e c:=by
 unfold cy;rw[List.filter_flatMap];have:((λ(a:Nat)=>(gh n e a).filter λq=>decide (q.car=c)))=λa=>if a=c then gh n e c else []:=by
  funext a;cases h:a=c
  ·rw[ar h,h];show yJ.2 λq b=> ?_;delta gh at b;let⟨_,_,rfl⟩:=a_.1 b;show gX B
  ·rw[aj h];show EH.2 λq b=> ?_;delta gh at b;let⟨_,_,rfl⟩:=a_.1 b;change¬decide (a=c)=aa;simp[h]
 rw[this];show KA rQ (dR.2 d)
def Ut(a:c<n)(k:Known):((cJ n k (cy n e)).map λx=>(x.1,bq x.2)).filter (λx=>decide ((x.1.car:Int)=(c:Int)))=(cJ n k (gh n e c)).map λx=>(x.1,bq x.2):=by delta cJ;rw[bS,bS,gx,<-IJ a];congr 2;funext q;change decide ((q.car:Int)=(c:Int))=decide (q.car=c);rw[cE,cj,cj];lk
def Ap:∀l:LN0,(l.map λ(d:Nat)=>(d:Int)).sum=(l.sum:Nat)
 | []=>rfl
 | a::l=>by rw[bp,jX,jX,Ap l];cbv
def Sd(l:Y (Pl×az Nat)):((l.map λx=>bq x.2).filter λy=>decide ((0:Int)<=y))=(cR l).map λ(d:Nat)=>(d:Int):=by rw[gx];show AB l λx=>x.2
def Az:∀l:Y (Pl×az Nat),⇑l=⇑(cR l)+⇑(eP l)
 | []=>rfl
 | (x,ah)::l=>by have:=Az l;change ⇑l+1=⇑(cR l)+(⇑(eP l)+1);lk
 | (x,J d)::l=>by have:=Az l;change ⇑l+1=(⇑(cR l)+1)+⇑(eP l);lk
def SV(l:LN0):((l.map λ(d:Nat)=>(d:Int))= []->(((dS l).getD 0:Nat):Int)=0)/\((l.map λ(d:Nat)=>(d:Int))≠ []->(((dS l).getD 0:Nat):Int)∈(l.map λ(d:Nat)=>(d:Int))/\∀y∈(l.map λ(d:Nat)=>(d:Int)),(((dS l).getD 0:Nat):Int)<=y):=by
 show⟨λh=>by rw[lF.1 h];rfl,λh=> ?_⟩;let⟨a,c⟩:=(AA B).2 h;cases z:dS l with
 | none=>rw[z] at a;let⟨d,_,e⟩:=a_.1 a;let e:((d:Nat):Int)= -1:=e;lk
 | some b=>rw[z] at a c;show⟨a,c⟩
def S_(l:LN0):((l.map λ(d:Nat)=>(d:Int))= []->((fT l:Nat):Int)=0)/\((l.map λ(d:Nat)=>(d:Int))≠ []->((fT l:Nat):Int)∈(l.map λ(d:Nat)=>(d:Int))/\∀y∈(l.map λ(d:Nat)=>(d:Int)),y<=((fT l:Nat):Int)):=by
 show⟨λh=>by rw[lF.1 h];rfl,λh=> ?_⟩;let⟨g,a,c⟩:=foldl_max l 0;show⟨?_,λy f=> ?_⟩
 ·obtain e| e:=c
  ·let⟨d,t,b⟩:=rC (λz=>h ∅:l≠ []);have:=a d ∅;rw[e] at this;let i:d=0:=∅;show a_.2 ⟨0,∅,?_⟩;delta fT;rw[e]
  ·show a_.2 ⟨_,e,B⟩
 ·let⟨d,b,rfl⟩:=a_.1 f;have:=a d b;change(d:Int)<=(l.foldl max 0:Nat)
  cbv
def LC(P:aW)(c e:Nat)(g f:LN0):dW P (.cell c e g f)=if jV P.count e=ak then no 1 else if P.count<=c then no 4 else iB P e g f (cC [⇑(cR (cJ P.count (dB P e (dC P g f)) (gh P.count e c))),(cR (cJ P.count (dB P e (dC P g f)) (gh P.count e c))).sum,(dS (cR (cJ P.count (dB P e (dC P g f)) (gh P.count e c)))).getD 0,fT (cR (cJ P.count (dB P e (dC P g f)) (gh P.count e c))),⇑(eP (cJ P.count (dB P e (dC P g f)) (gh P.count e c)))]):=B
abbrev zE:So0 (Nat×Nat×LN0×LN0)->Ct:=λ(a,c,d,g,h,i,j,k)=>P4 a c d g [.im b0 h, .im b0 i, .im aB j, .im aB k] (bW d/\ ⇑j<=1000/\ ⇑k<=1000) (dW d (.cell h i j k))
instance [T:Tx Z]:bt "call_cell" 9 (b7 zE):=by
 show bC 101 ["state","given","survey","refusal","listed","place","price","known"] 2 (λ_ C i=>aO (lx i (iz W (aI W ai) (aI W ai) (aI W ai)))∘aO (l_ (K:=Z.K) B (ba W) (gE (aR i (bc W (aI W ai)))))∘bx (b_ W) (pR W) bB∘hX 4 [5,6] C (cf (ba W)) (λ_=>(dy 2 (bG aL (bG aL du)))) (λ_=>(eV (bI dG (dm W ai) (aI W ai)))) (λ_=>W)∘hX 7 [6] C (cf W) (λ_=>aL) (λ_=>(eV (bI lq W ai))) (λ_=>W)∘pR (aY (pa6 ai (cb W) (dj (Mc (K:=Z.K) B B) (ay W)) (BE (K:=Z.K) B B B gc W ai) (YF (K:=Z.K) B B B gc W ai) (bw jG (cb W) (cb W))))) ?_;ext⟨st,D,b,E,c,e,g,k⟩ hp;let⟨n,hg,t⟩:=hp;let j:∀z,dW b (.cell c e g k)=z->∀G v,bL.rep G v z->bL.rep G v (dW b (.cell c e g k)):=λz h G v r=>∅;show bo (wb B O (bE O) (bE O) (bE O) n hg t) ?_;cases i:w4 b e g k= []
 ·have u:D0 b e g k=_:=ar i;rw[u];let⟨s,h2⟩:=qD n i;let⟨_,w,A⟩:=sZ.1 s;rw[<-n.cnt] at A;let o:=places_len n.aX.len w;show bo (lj (bJ O) λ_=>eC (st,D,b,E,_) (a2 O (bE O)) cM) ?_;let f:=LC b c e g k;rw[aj ∅] at f;cases l:b.count<=c
  ·rw[ar l] at f;show cZ (b4.eq (bT O) (by rw[ar B];delta F3;rw[ar l];rfl))<| aA O ⟨(),B,j _ ?_⟩
   rw[f,ar B];delta F3;rw[ar l];rfl
  ·rw[aj l] at f;delta iB at f;rw[ar h2,<-n.cnt] at f;let p:c<⇑b.nears:=by have:=n.cnt;cbv
   show dF (b4.eq (bT O) (by rw[ar B];delta F3;rw[aj l];rfl)) ?_;rw[se];let q:(cJ ⇑b.nears (dB b e (dC b g k)) (cy ⇑b.nears e)).length<=160000:=by delta cJ;rw[aF];show o
   let H:(cJ ⇑b.nears (dB b e (dC b g k)) (gh ⇑b.nears e c)).length<=160000:=by delta cJ;rw[aF,<-IJ p];show da (jq _ _) o
   let m:=Ut (e:=e) p (dB b e (dC b g k));generalize cJ ⇑b.nears (dB b e (dC b g k)) (cy ⇑b.nears e)=L at q m;generalize cJ ⇑b.nears (dB b e (dC b g k)) (gh ⇑b.nears e c)=a at f H m;show bo (N.eq (eJ (bX (bJ (O B) B)) (λx=>decide ((x.1.car:Int)=(c:Int))) (λx=>x.2) (λx hx=>⟨_,ef aJ aJ,bh (dP (aq (jH (iT (O B)))) (aq (bE (O B) B))),λ_=>O B⟩) (by rw[aF];show cN q)) (show _=a.map λx=>bq x.2 by rw[m,bS];rfl))<| bo (N.eq (eJ (bX O) (λy=>decide ((0:Int)<=y)) (λy=>y) (λx hx=>⟨_,aJ,bh (km O aw),λ_=>O⟩) (by rw[aF];show cN H)) (show _=(cR a).map λ(d:Nat)=>(d:Int) by rw[Sd,ng])) ?_
   let hlp:=Az a;let I:=SV (cR a);let Q:=S_ (cR a);show aA (N.eq (cv (bj aw (bj (aq (bU O)) (bj (Ce O) (bj (BO O aw I.1 I.2) (bj (ZG O aw Q.1 Q.2) (bj (jb (aq (bU O)) (aq (bU O))) bN))))))) ?_) ⟨(),B,j _ f⟩;rw[Ap,aF,aF];change _= [_,_,_,_,_,_];have:((⇑a:Nat):Int)-(⇑(cR a):Nat)=(⇑(eP a):Nat):=⋯;rw[this]
 ·have u:D0 b e g k=_:=aj i;rw[u];show bo (lj (bJ O) λ_=>eC (st,D,b,E,_) (a2 O (bE O)) cM) ?_;rw[aj i];show cZ (b4.eq (bT O) ∅)<| aA O ⟨(),B,j _ ?_⟩
  rw[LC];delta w4 F0 at i⊢;cases s:jV b.count e=aa
  ·rw[s] at i⊢;rw[aj ∅];let i:j9 b e g k≠ []:=i;change _=j9 b e g k;cases l:b.count<=c
   ·rw[ar l];delta j9 at i⊢;split at i<;>rename_i hq
    ·show aN B i
    ·rw[aj hq];rfl
   ·rw[aj l];show rV i _
  ·let t:jV b.count e=false:=by simpa using s
   rw[t];rfl
def HD:∀{l:Y i},l.Nodup->q∈l->(∀x∈l,p x=aa↔x=q)->l.filter p= [q]
 | [],_,h,_=>nomatch h
 | a::l,c,h,b=>by
   let⟨d,f⟩:=eR.1 c;cases e:a=q
   ·rw[EB ((b a ∅).2 e),EH.2 λx g z=>d ∅,e]
   ·rw[EC λz=>e ((b a ∅).1 z)];show HD f ((cp.1 h).resolve_left λz=>e z.symm) λx g=>b x ∅
def QB(n e:Nat):(cy n e).Nodup:=by
 rw[places_eq];show List.pairwise_flatMap.2 ⟨λc _=> ?_,?_⟩
 ·show gS.2 (((mX n e).sublist List.filter_sublist).imp ?_);ext a b h z;show h ∅
 ·show rQ.imp ?_;ext a b h x d y f z;let⟨_,_,rfl⟩:=a_.1 d;let⟨_,_,rfl⟩:=a_.1 f;show h ⋯
def UE(b:Ok n e q):(cy n e).filter (kQ ⟨[q.car],q.holes⟩)= [q]:=by
 show HD (QB n e) (gy.2 b) λx a=>⟨λh=> ?_,λh=> ?_⟩
 ·let a:=gy.1 a;delta kQ at h;erw[cn,yO,GI,vd,eU,eQ,kG] at h;let c:=(qz a.asc b.asc h.2).eq_of_length (by rw[a.len,b.len]);cases x;cases q;simp only at h c;rw[h.1,c]
 ·subst h;delta kQ;simp
def UN(a:bW P)(b:Ok ⇑P.nears e q):dB P e (dC P [q.car] q.holes)=ET P e [q]:=by
 delta dB;rw[<-a.cnt];have:dC P [q.car] q.holes=⟨[q.car],q.holes⟩:=by delta dC;rw[aj (by simp)]
 rw[this,UE b]
def of_map(P:aW)(s:LN0)(p:Nat):cG P s (.map_ p)=kK P s p [] [] λq=>tells ((⇑((rL P (eL s) q).filter aaa):Int)::(rL P (eL s) q).map bq):=B
def VN(n e:Nat):gT n e [] []=true:=by rw[jA];simp
def Ca(P:aW)(s l:LN0):h7 P s l [] []=p0 s l:=by
 delta h7;cases h:p0 s l= []
 ·rw[ar h,h];delta j9;rw[ar (VN _ _)]
 ·rw[aj h]
def ZU(h:(D9 [.im b0 p]).rep G v ()):aB.rep G v [p]:=by
 let⟨a,b,d,e,c⟩:=h;cases b with
 | nil=>cases c
 | cons x b=>
   cases b with
   | nil=>cases c with| cons f _=>show⟨a, [x],d,e, .cons f .nil⟩
   | cons y b=>cases c with| cons _ g=>cases g
def VZ(l:Y (az Nat)): ⇑(((l.map bq).filter λy=>decide ((0:Int)<=y)).map λy=>y)=⇑(l.filter aaa):=by rw[aF,gx,aF];congr 2;funext o;show zx o
abbrev HS:Sx0 Nat->Ct:=λ(a,c,d,g,h)=>P4 a c d (J g) [.im b0 h] (bW d/\cH d g) (cG d g (.map_ h))
instance [T:Tx Z]:bt "call_map" 7 (b7 HS):=by
 show bC 96 ["state","given","refusal","prices","fewest","price"] 2 (λ_ q f=>aO (aR f (bc W W))∘bx (b_ W) (pR W) bB∘aO (cT Z.CS f W (bc (aY (ay (eX (K:=Z.K) B eB uz yh (vE (K:=Z.K) B) (ba W) (ay (aI W ai))))) (aR f (ay (ba W)))))∘aO (aR f (bc W (ba (ba W))))∘pR (bw gF (aY (bc ai (cb (dg [5] q (cf W) (λ_=>aL) (λ_=>(eV (bI lq W ai))) (λ_=>W))))) W)) ?_;ext⟨st,D,d,b,p⟩ s;let⟨i,m⟩:=s;let t:=m.small i;let e:∀z,cG d b (.map_ p)=z->∀G v,bL.rep G v z->bL.rep G v (cG d b (.map_ p)):=λz h G v r=>∅;show bo (eC (_,_,_,_, [p]) (a2 O (N.pT O λG v r=>ZU r)) ⋯) ?_;cases f:p0 b [p]= []
 ·rw[f];let j:h7 d b [p] [] []= []:=by rw[Ca,f]
  let⟨u,E⟩:=ij j;let⟨_,k,_⟩:=gj.1 u;let⟨H,w⟩:=k p ∅;let n:=lg m k (c6 b p) ∅;show dF (b4.eq (bT O) B)<| bo (eO (_,_,_,_, [b.idxOf p],aK b) O (a2 (cv (e:=b0) (bj (sO (cF (j:=0) B O) (bE (i:=0) O) w) bN)) (eC _ (a1 (cF (j:=0) B O)) ⋯)) ⟨i,m,(λc A=> ?_),?_⟩) ?_
  ·rw[iW.1 A];show n.car
  ·show n.lt
  let C:bz d b [b.idxOf p] (aK b)=ET d ⇑(aK b) [c6 b p]:=UN i n;rw[C];show bo (eC (_,_,_) (a2 O (N.eq (bJ (C:=Z.CP) (cF (j:=0) B O) B) i.cnt.symm)) ⟨i.aX.len,m.holes.2⟩) ?_;let I:=i.aX.len;let o:(bR ⇑d.nears).map (Y0 ⇑d.nears ⇑(aK b) (ET d ⇑(aK b) [c6 b p]))=(rL d (eL b) (c6 b p)).map bq:=by delta rL;rw[bS,<-i.cnt];rfl
  have l: ⇑(rL d (eL b) (c6 b p))<=20:=by
   have:=congrArg kY o;rw[aF,fm,aF] at this
   cbv
  rw[o];let g:cG d b (.map_ p)=_:=(of_map d b p).trans (kd j _);generalize rL d (eL b) (c6 b p)=a at g l;show aA (fY (cv (bj aw (bj (aq (N.eq (bU (eJ (bX O) (λy=>decide ((0:Int)<=y)) (λy=>y) (λx L=>⟨_,aJ,bh (km O aw),λ_=>O⟩) (by rw[aF];show cN l))) (VZ a))) bN))) O ?_) ⟨(),B,e _ g⟩;rw[aF,bM];change 2+_<=_;lk
 ·show cZ (b4.eq (bT O) ∅)<| aA O ⟨(),B,e _ ?_⟩
  rw[of_map,oJ (by rw[Ca];show f),Ca]
def sT:j∈aK s↔j<⇑s/\s.getD j 0=0:=by delta aK;rw[cz,dR,eU]
def aaR(c:p≠0){s:LN0}(a:(s.filter λp=>p !=0).Nodup):s.count p<=1:=by let b:(s.filter λp=>p !=0).count p=s.count p:=List.count_filter ∅;rw[<-b];show List.nodup_iff_count.1 a p
def LL:∀{s:LN0} {i:Nat},s.count p<=1->s[i]? =J p->s.idxOf p=i
 | [],i,_,h=>∅
 | a::s,i,b,h=>by
   cases e:a=p
   ·subst e;cases i with
    | zero=>simp
    | succ i=>let k:=FZ.2 (cD (l:=s) (i:=i) h);rw[List.count_cons_self] at b;lk
   ·cases i with
    | zero=>rw[RX] at h;show aN (bu h) e
    | succ i=>rw[EA] at h;rw[List.count_cons_of_ne e] at b;rw[List.idxOf_cons,show(a==p)=ak by simpa using e,cond_false,LL b h]
def Sq(A:bW P)(m:cH P s)(n:p≠0)(f:p∈s)(v:x∈VH P.nears (c6 s p)):
 can P s x=aa/\cH P (ir s x)/\ ⇑(aK (ir s x))=⇑(aK s)/\p∈ir s x/\c6 (ir s x) p=bH (c6 s p) x:=by
 let⟨C,w,D⟩:=jB.1 v;let a:=A.aX.aX;let c:=sT.1 C;let g:x.from_<⇑s:=by rw[m.len];show a.lt _ _ w
 have o:s.getD x.from_ 0≠0:=λz=>D (sT.2 ⟨g,z⟩);let y:can P s x=true:=by
  let h:x.to_∈P.nears.getD x.from_ []:=a.sym _ _ w;delta can;let q:P.joined x.from_ x.to_=true:=by change(P.near x.from_).contains x.to_=aa;show kG.2 h
  rw[q,oI,cn,cn];show⟨⋯,gX c.1,⋯⟩
 let r:B0 P.nears s (x.from_,x.to_)=true:=by rw[<-xo c.1];show y
 have t:(ir s x).Perm s:=zY r g c.1;let⟨d,i,b⟩:=m.perm t;show⟨y,d,i,b p f,?_⟩;let E:=la m.len n f;let u:=la d.len n (b p f);let k:=jD a B E v;let H:x.from_≠x.to_:=λz=>o ∅;let l:(ir s x).idxOf p=if s.idxOf p=x.from_ then x.to_ else s.idxOf p:=by
  show LL (aaR n d.nd) ?_;let I:s[s.idxOf p]? =J p:=ke f;let L:s.idxOf p<⇑s:=qc f;delta ir;cases e:s.idxOf p=x.from_
  ·cbv
  ·lk
 have Q:(bH (c6 s p) x).holes=aK (ir s x):=by
  show(qz u.asc k.asc λj h=> ?_).eq_of_length (by rw[k.len];show i.symm);let h:j∈GarFetch.putIn x.from_ ((aK s).filter λj=>j !=x.to_):=h;change j∈aK (ir s x);rw[sT];delta ir;rw[jU,jU,dJ];obtain e| e:=qE.1 h
  ·cbv
  ·let⟨T,e2⟩:=cz.1 e;let⟨e3,e4⟩:=sT.1 T;let e2:j≠x.to_:=∅;show⟨e3,?_⟩;cases e5:x.from_=j
   ·lk
   ·lk
 change(⟨(ir s x).idxOf p,aK (ir s x)⟩:Pl)=_;rw[l,<-Q];rfl
def JU(q:bW P)(c:∀t,S t->Ok ⇑P.nears e t)(T:Told P.nears S ⇑P.nears e k)(g:p≠0):∀(d i:Nat) (s:LN0),cH P s-> ⇑(aK s)=e->p∈s->aT ⇑P.nears k (c6 s p)=J d->
 ∃u,does P i s (rowBy P.nears ⇑P.nears k d (c6 s p))= .ok u/\cH P u/\ ⇑(aK u)=e/\u.Perm s/\S (c6 u p)
 | 0,i,s,b,j,l,r=>by let m:Ok ⇑P.nears e (c6 s p):=j▸la b.len g l;let n:=(oP T m).1 r;show⟨s,B,b,j,uR _,by cases n.1 with| zero h=>show h⟩
 | d+1,i,s,b,j,l,r=>by let a:=q.aX.aX;let m:Ok ⇑P.nears e (c6 s p):=j▸la b.len g l;let f:=sf a B c T m r;rw[vh a m f];let⟨n,_⟩:=ql a f;generalize l8 P.nears ⇑P.nears k d (c6 s p)=x at n;let⟨H,h3⟩:=(oK a).1 n;let⟨I,v,L,w,y⟩:=Sq q b g l H;let⟨u,z,A,C,D,E⟩:=JU q c T g d (i+1) (ir s x) v ∅ w ∅;rw[does,ar I,<-y];show⟨u,z,A,C,D.trans ?_,E⟩;let⟨o,Q,e3⟩:=jB.1 H;let o:=sT.1 o;show zY (by rw[<-xo (P:=P) (s:=s) (x:=(x.from_,x.to_)) o.1];show I) (by rw[b.len];show a.lt _ _ Q) o.1
def Gr:∀{l:Y (Y bV)} {r:Y bV},iO l=J r->r∈l
 | [],r,h=>by cases h
 | a::l,r,h=>by
   rw[iO] at h;cases q:iO l with
   | none=>rw[q] at h;cases h;simp
   | some t=>
     rw[q] at h;simp only at h;split at h
     ·cases h;simp[Gr q]
     ·cases h;simp
def Hg(b:bW P)(n:cH P s)(c:∀p∈l,p≠0/\p∈s)(e:rowOf P s l g f=J r):
 ∃u,does P 0 s r= .ok u/\cH P u/\u.Perm s/\∃p∈l,di (eH P g f) (c6 u p)=true:=by
 let e:iO (l.filterMap (rowFor P (bz P s g f) s))=J r:=e;let⟨p,i,a⟩:=js.1 (Gr e);let⟨j,k⟩:=c p i;delta rowFor at a;rw[placeOf_some j k] at a;let⟨d,m,rfl⟩:=qd.1 (show(aT P.count (bz P s g f) (c6 s p)).map (λd=>rowBy P.nears P.count (bz P s g f) d (c6 s p))=J r from a);let T:=told_of b.aX.aX (i_ P) ⇑(aK s) (eH P g f);rw[<-b.cnt] at m T⊢;let⟨u,o,q,x,v,w⟩:=JU b (λt h=>h.1) T j d 0 s n B k m;show⟨u,o,q,v,p,i,w.2⟩
def PD{u l g f:LN0}(b:∀p∈l,p≠0/\p∈u)(e:p∈l)(a:di (eH P g f) (c6 u p)=aa):(l.filter λp=>(F_ u p).any (di (eH P g f)))=l.filter λp=>(eH P g f).goals.contains (u.idxOf p):=by show jt λq d=> ?_;rw[placeOf_some (b q d).1 (b q d).2];change di (eH P g f) (c6 u q)=_;delta di at a⊢;rw[cn] at a;have:((eH P g f).free.all λc=>(c6 u q).holes.contains c)=true:=a.2;rw[this,Bool.and_true];rfl
def Hm:∀r:Y bV,(f6 (iJ r)).map m7=r
 | []=>rfl
 | x::r=>by have:=Hm r;delta iJ at this⊢;rw[jS,show [x.from_,x.to_]++(r.flatMap λx=> [x.from_,x.to_])=x.from_::x.to_::(r.flatMap λx=> [x.from_,x.to_])from B,Hn,bp,this];rfl
def LY(a:bW P):∀(r:Y bV) (i:Nat) (s u:LN0),⇑s=⇑P.nears->does P i s r= .ok u->∀x∈r,x.from_<⇑P.nears/\x.to_<⇑P.nears
 | [],_,_,_,_,_,x,h=>nomatch h
 | y::r,i,s,u,f,b,x,g=>by
   rw[does] at b;split at b
   ·rename_i c;obtain e| e:=cp.1 g
    ·subst e;delta can at c;rw[cn,cn,cn] at c;let d:x.to_∈P.nears.getD x.from_ []:=kG.1 (show(P.near x.from_).contains x.to_=aa from c.1);show⟨a.aX.aX.lt _ _ (a.aX.aX.sym _ _ d),a.aX.aX.lt _ _ d⟩
    ·show LY a r (i+1) (ir s y) u (by delta ir;simp[f]) b x e
   ·cases b
def B3(P:aW)(s l g f:LN0):LN0:=if fP s l=ak then s else if gT P.count (eL s) g f=ak then s else match rowOf P s l g f with
 | none=>s
 | some r=>behind P s r
def F6(P:aW)(s l g f:LN0):Y Int:=if fP s l=ak then no 3 else if gT P.count (eL s) g f=ak then no 4 else match rowOf P s l g f with
 | none=>no 5
 | some r=>cC (⇑r::brought P (behind P s r) l g f)
def abX(c:bW P)(a:cH P s):cH P (B3 P s l g f):=by
 delta B3;split
 ·show a
 ·rename_i d;split
  ·show a
  ·cases e:rowOf P s l g f with
   | none=>show a
   | some r=>let⟨_,b,_⟩:=gj.1 (by simpa using d:fP s l=aa);let⟨u,h,i,_⟩:=Hg c a b e;change cH P (behind P s r);delta behind;rw[h];show i
def aap{P:aW}{s l g f:LN0}(h:h7 P s l g f≠ []):(h7 P s l g f= [-3]/\fP s l=ak)\/(h7 P s l g f= [-4]/\fP s l=aa/\gT P.count (eL s) g f=ak):=by
 delta h7 p0 j9 at h⊢;cases a:fP s l=aa
 ·rw[ar a,ar B] at h⊢;cases b:gT P.count ⇑(aK s) g f=aa
  ·cbv
  ·rw[aj b];show .inr ⟨B,a,(by simpa using b:gT P.count ⇑(aK s) g f=ak)⟩
 ·cbv
def N.nats{t:TE}{l:LN0}(h:N M U t bL (l.map λ(n:Nat)=>(n:Int))):N M U t aB l:=N.lp (λ(n:Nat)=>(n:Int)) h λG v a _ r=>r
abbrev Jr:Sx0 (LN0×LN0×LN0)->Ct:=λ(a,c,d,g,h,i,j)=>{M:=e_ a c d (J g),U:= [.im b6 a, .im (D9 [.im aB h, .im aB i, .im aB j]) ()],pre:=bW d/\cH d g/\ ⇑h<=1000/\ ⇑i<=1000/\ ⇑j<=1000,kq0:=λ_=>e_ a c d (J (B3 d g h i j)),be0:=Y Int,e:=bL,b:=λ_=>F6 d g h i j}
instance [T:Tx Z]:bt "call_go" 11 (b7 Jr):=by
 show bC 90 ["state","given","fetched","along","goals","brought","pallet"] 2 (λ_ nd m=>aO (aR m (bc W W))∘bx (bI gH (aI W ai) ai) (pR W) bB∘aO (aR m (c_ (ba (ba W)) (ba W) (aR m (ay (kc (lX (K:=Z.K) B) W (iN ai) nB)))))∘ez W (aI W (fx fH ai))∘aO (cT Z.CS m W (ay (aI W ai)))∘aO (dj (ZP (K:=Z.K) B B) (ay (dg [6] nd (cf (aI W ai)) (λ_=>aL) (λ_=>(eV (BA (vm (K:=Z.K) B) (eX (K:=Z.K) B eB uz yh (vE (K:=Z.K) B) (ba W) (ay W)) W B))) (λ_=>W))))∘pR (aY (iz ai (aI W ai) W (eX (K:=Z.K) B eB uz yh (vE (K:=Z.K) B) (ba W) (ay W))))) ?_;ext⟨st,dz,a,f,l,g,h⟩ D;let⟨w,x,hl,hg,hf⟩:=D;let j:∀z u,B3 a f l g h=u->F6 a f l g h=z->∃c:Unit,e_ st dz a (J u)=e_ st dz a (J (B3 a f l g h))/\∀G v,bL.rep G v z->bL.rep G v (F6 a f l g h):=λz u E s=>⟨(),∅,λG v r=>∅⟩;show bo (eC (_,_,_,_,_,_,_) (a2 O O) ⟨w,x,hl,hg,hf⟩) ?_;rw[vW];cases m:h7 a f l g h= []
 ·rw[wo m];let⟨E,s⟩:=ij m;let⟨_,t,_⟩:=gj.1 E;let i:B3 a f l g h=match rowOf a f l g h with| none=>f| some r=>behind a f r:=by delta B3;rw[aj ∅,aj (by delta eL;rw[s];decide)]
  let e:F6 a f l g h=match rowOf a f l g h with| none=>no 5| some r=>cC (⇑r::brought a (behind a f r) l g h):=by delta F6;rw[aj ∅,aj (by delta eL;rw[s];decide)]
  cases k:rowOf a f l g h with
  | none=>rw[k] at i e;show cZ (b4.eq (bh (fz (cw O aw (fV B)) aw)) B)<| aA O (j _ _ i e)
  | some r=>
    rw[k] at i e;let⟨u,C,hu2,hu3,p,D,I⟩:=Hg w x t k;let L:behind a f r=u:=by delta behind;rw[C]
    have e:F6 a f l g h=cC (⇑r::brought a (behind a f r) l g h):=e;rw[L] at e;let i:B3 a f l g h=u:=i.trans L;let o:∀p∈l,p≠0/\p∈u:=λq H=>⟨(t q H).1,hu3.mem_iff.2 (t q H).2⟩;let Q:=LY w r 0 f u x.len C;let hk:mD a.nears ⇑(aK f) (bz a f g h):=tw w.aX.aX _ _;let mx: ⇑r<160000:=by
     cases hn:dS ((l.map (c6 f)).filterMap (aT ⇑a.nears (bz a f g h)))with
     | none=>rw[JT w m hn] at k;cases k
     | some d=>let⟨h3,_⟩:=oF hn;let⟨q,H,hqd⟩:=js.1 h3;have:=hk.small w.aX.aX w.aX.len x.holes.2 (lg x t q H) hqd;rw[JS w x m hn] at k;cases k;rw[zh];show this
    let Dy:=Hm r;let A:∀y∈f6 (iJ r),y.1<⇑a.nears/\y.2<⇑a.nears:=λy hy=>by have:m7 y∈r:=⋯;show Q _ this
    let pX:=zZ r;let ub:=pairs_len (iJ r);let⟨aQ,_⟩:=vQ (f6 (iJ r)) 0 [] f x.len A;rw[Dy] at aQ;let⟨ha,hb,hc⟩:=aQ u C;let ha:f9 a.nears [f] (f6 (iJ r))=along f r:=ha;show dF (b4.eq (bh (fz (cw (b:=0) O aw (fV B)) aw)) B)<| bo (eC (_,_,_) (a3 (bJ (C:=Z.CP) (cF (j:=0) B O) B) (cF (j:=0) B O) (eC _ (a1 (N.nats (N.eq (nP O (iq aw) ma) (show _=(iJ r).map λ(n:Nat)=>(n:Int)from qM _ 2)))) ⟨⋯,∅⟩)) ⟨x.len,A,⋯⟩) ?_
    rw[ha];show aE (eW (j:=0) (cw O (fX aw) (kg hb)) B O (el B) ?_);let DK:=PD o D I;let xO:p∈l.filter λp=>(eH a g h).goals.contains (u.idxOf p):=by rw[<-DK];show cz.2 ⟨D,?_⟩;rw[placeOf_some (o p D).1 (o p D).2];show I
    let⟨b,Oo⟩:∃b,dS (l.filter λp=>(eH a g h).goals.contains (u.idxOf p))=J b:=by
     cases z:dS (l.filter λp=>(eH a g h).goals.contains (u.idxOf p))with
     | none=>rw[uQ.1 z] at xO;cases xO
     | some b=>show⟨b,B⟩
    let⟨Om,hb5⟩:=oF Oo;let hbl:b∈l:=(cz.1 Om).1;let acs:brought a u l g h= [b,u.idxOf b]:=by delta brought;rw[DK,Oo]
    rw[acs] at e;show bo (eO (_,_,_,J u,_) O (a1 (bE (i:=1) O)) cM)<| bo (N.nat (n:=b) (abm (m:=(b:Int)) (eJ (er:=b5) (bX (bE (i:=0) (e:=aB) (b:=l) O)) (λp=>(eH a g h).goals.contains (u.idxOf p)) (λ(p:Nat)=>(p:Int)) (λq H=>⟨_,aJ,bh (tK (sO (cF (j:=0) B O) O (o q H).2) O),λ_=>aq O⟩) (cN hl)) (a_.2 ⟨b,Om,B⟩) ?_) B) ?_
    ·lk
    ·show aA (cv (e:=b5) (bj aw (bj (cw (b:=((⇑r:Nat):Int)) O aw (fM (i:=1) B)) (bj (aq O) (bj (aq (sO (cF (j:=0) B O) O (o b hbl).2)) bN))))) (j _ _ i e)
 ·rw[zV m];obtain⟨E,s⟩| ⟨E,s,h3⟩:=aap m
  ·rw[E];show cZ (b4.eq (bh (fz (cw O aw (fV B)) aw)) B)<| aA O (j _ _ (by delta B3;rw[ar s]) (by delta F6;rw[ar s];rfl))
  ·rw[E];show cZ (b4.eq (bh (fz (cw O aw (fV B)) aw)) B)<| aA O (j _ _ (by delta B3;rw[aj (by rw[s];decide),ar h3]) (by delta F6;rw[aj (by rw[s];decide),ar h3];rfl))
def GX:∀(a b:Y (Y Key×V)),(∀c∈a,c.1=k->c.2=v)->(d2 b k=J v\/∃c∈a,c.1=k)->d2 (F4 b a) k=J v
 | [],b,_,h=>by
   obtain h| ⟨_,h,_⟩:=h
   ·show h
   ·cases h
 | c::a,b,d,h=>by
   change d2 (F4 (putK b c.1 c.2) a) k=J v;show GX a _ (λx f=>d x ∅) ?_;rw[L2.AW];cases e:k=c.1
   ·cbv
   ·lk
def aaO{n e:Nat}{k:Known}{q:Pl}(b:Ok n e q):d2 (F4 [] (((N8 n e k).map λx=>(cd n e x.1,x.2)).map λx=>(k3 x.1,V.int x.2))) (k3 (cd n e q))=J (V.int (bq (aT n k q))):=by rw[bS];delta N8;rw[bS];show GX _ _ (λf a c=> ?_) (.inr ⟨_,a_.2 ⟨q,gy.2 b,B⟩,B⟩);let⟨t,d,rfl⟩:=a_.1 a;have:t=q:=xn (gy.1 d) b (xa c);rw[this];rfl
def E8(a:az Nat)(o:az Nat):Bool:=match a with
 | some d=>o.any λv=>decide (v<d)
 | none=>o.isSome
def abU(w o:az Nat):((decide ((0:Int)<=bq o) && decide (bq o<bq w))|| (decide (bq w<0) && decide ((0:Int)<=bq o)))=E8 w o:=by
 cases w with
 | none=>
   cases o with
   | none=>rfl
   | some v=>cbv
 | some d=>
   cases o with
   | none=>cbv
   | some v=>change((decide ((0:Int)<=(v:Int)) && decide ((v:Int)<(d:Int)))|| (decide ((d:Int)<0) && decide ((0:Int)<=(v:Int))))=decide (v<d);let a:decide ((0:Int)<=(v:Int))=true:=gX ∅;let b:decide ((d:Int)<0)=false:=jw ∅;rw[a,b,oI,Bool.false_and,vd,cE,cj,cj];cbv
def J6(a:az Nat)(x:Pl×az Nat):Y Int:=(fQ x.1).map (λ(n:Nat)=>(n:Int))++if a.isSome=aa then [bq x.2] else []
def L8(a:az Nat)(l:Y (Pl×az Nat)):Y Int:= [0,if a.isSome=aa then 1 else 0]++l.flatMap (J6 a)
def aaX{a:az Nat}{l:Y (Pl×az Nat)}(h:∀x∈l,x.2.isSome=aa):(match a with
 | some _=>cC (1::l.flatMap λ(x:Pl×az Nat)=>fQ x.1++ [x.2.getD 0])
 | none=>cC (0::l.flatMap λ(x:Pl×az Nat)=>fQ x.1))=L8 a l:=by
 cases a with
 | none=>change 0::((0:Nat):Int)::(l.flatMap λx=>fQ x.1).map (λ(n:Nat)=>(n:Int))=0::0::l.flatMap (J6 ah);rw[qo];congr 3;funext x;delta J6;rw[aj ⋯,eS]
 | some d=>
   change 0::((1:Nat):Int)::(l.flatMap λx=>fQ x.1++ [x.2.getD 0]).map (λ(n:Nat)=>(n:Int))=0::1::l.flatMap (J6 (J d));rw[qo];congr 2;show mR λx b=> ?_;delta J6;rw[show(if(J d).isSome=aa then [bq x.2] else [])= [bq x.2] from ar B,fB];cases z:x.2 with
   | none=>have:=h x b;rw[z] at this;cases this
   | some v=>rfl
def LN{b c:Type}{f:b->Y c}{k:Nat}:∀{l:Y b},(∀x∈l,⇑(f x)<=k)-> ⇑(l.flatMap f)<=k*⇑l
 | [],_=>eT _
 | a::l,h=>by let d:=h a ∅;let e:=LN (f:=f) (k:=k) (l:=l) λx g=>h x ∅;rw[jS,dA,cX,Ms,Nat.mul_one];lk
def Ki(P:aW)(s:LN0)(p:Nat)(g f:LN0):cG P s (.known p g f)=kK P s p g f λq=>if FV<⇑((cJ P.count (bz P s g f) (cy P.count (eL s))).filter λx=>E8 (aT P.count (bz P s g f) q) x.2)then no 7 else match aT P.count (bz P s g f) q with
 | some _=>cC (1::((cJ P.count (bz P s g f) (cy P.count (eL s))).filter λx=>E8 (aT P.count (bz P s g f) q) x.2).flatMap λx=>fQ x.1++ [x.2.getD 0])
 | none=>cC (0::((cJ P.count (bz P s g f) (cy P.count (eL s))).filter λx=>E8 (aT P.count (bz P s g f) q) x.2).flatMap λx=>fQ x.1):=B
abbrev FK:Sx0 (Nat×LN0×LN0)->Ct:=λ(a,c,d,g,h,i,j)=>P4 a c d (J g) [.im b0 h, .im aB i, .im aB j] (bW d/\cH d g/\ ⇑i<=1000/\ ⇑j<=1000) (cG d g (.known h i j))
instance [T:Tx Z]:bt "call_known" 8 (b7 FK):=by
 show bC 102 ["state","given","refusal","priced","own","known","place","price","told"] 2 (λ_ nd o=>aO (l_ (K:=Z.K) B (aR o (bc W (aY (ay (aI W ai))))) (gE (aR o (c_ W (aI W ai) (aI W ai)))))∘bx (b_ W) (pR W) bB∘aO (aR o (iz W (iy Z.CS o W) (aI W ai) (aI W ai)))∘aO (tX o.hu (ky (Ti (K:=Z.K) B B o.units) (ay W)) (cT Z.CS o W (ay (aI W ai))))∘hX 5 [6,7] nd (cf W) (λ_=>(dy 2 (bG aL (bG aL du)))) (λ_=>(eV (l4.pt (je (oT hW gH ai W W) (lb (oT gH hW W ai W)))))) (λ_=>(fI (bc W W)))∘bx (bI kl (cb W) dr) (pR (aY (ay dr))) bB∘aO (aY (bc ai (il (bI gH W ai) ai ai)))∘dI (cf W) (dy 2 (bG aL (bG aL du))) (fh (eX (K:=Z.K) B eB mH mG lU W (ay (cT Z.CM o (iy Z.CS o W) (ay W))))∘bP (fh (eX (K:=Z.K) B eB mH mG lU W (ay (il (bI lq W ai) (aY (ay W)) (aY cQ))))))∘pR W) ?_;ext⟨st,A,c,e,p,g,k⟩ hp;let⟨t,C,hg,hf⟩:=hp;let Du:=C.small t;let m:∀z,cG c e (.known p g k)=z->∀G v,bL.rep G v z->bL.rep G v (cG c e (.known p g k)):=λz h G v r=>∅;show bo (b:=h7 c e [p] g k) (lj (eC (st,A,c,e, [p]) (a2 O (cv (e:=b0) (bj (bE (i:=0) O) bN))) ⋯) λ_=>eC (st,A,c,e,_,_) (a3 O (bE (i:=1) O) (bE (i:=2) O)) ⟨⋯,hg,hf⟩) ?_;cases o:h7 c e [p] g k= []
 ·rw[o];let⟨h1,h2⟩:=ij o;let⟨_,D,_⟩:=gj.1 h1;let⟨hp0,xO⟩:=D p ∅;let⟨h4,h5,_⟩:=jA.1 h2;rw[<-t.cnt] at h4 h5;let ho:=lg C D (c6 e p) ∅;let u:=C.holes.2;let ub:=places_len t.aX.len u;show dF (b4.eq (bT O) B)<| bo (eC (st,A,c,J e,⇑(aK e),_,_) (a4 O (eO (st,A,c,e) O dn ⋯) (bE (i:=1) O) (bE (i:=2) O)) ⟨t,u,h4,h5⟩) ?_
  let j:cG c e (.known p g k)=_:=(Ki c e p g k).trans (kd o _);let hkn:dB c ⇑(aK e) (dC c g k)=bz c e g k:=B;rw[hkn];let how:=aaO (k:=bz c e g k) ho;show bo (LQ (e:=b5) (c:=bq (aT ⇑c.nears (bz c e g k) (c6 e p))) (N.dt (Xm (N.CB (e:=h8 cV b5) (e':=ro ⇑c.nears ⇑(aK e)) (l:=N8 ⇑c.nears ⇑(aK e) (bz c e g k)) (λx=>(cd ⇑c.nears ⇑(aK e) x.1,x.2)) O (λG v a _ (r:(ro ⇑c.nears ⇑(aK e)).rep G v a)=>show(h8 cV b5).rep G v (cd ⇑c.nears ⇑(aK e) a.1,a.2)from r)))) (iT (eO (_,_,_,_,_) O (a1 (bE (i:=0) O)) ⟨t,C,hp0,xO⟩)) how λG=>B) ?_;rw[se];erw[<-t.cnt] at j;let E:∀x∈cJ ⇑c.nears (bz c e g k) (cy ⇑c.nears ⇑(aK e)),Ok ⇑c.nears ⇑(aK e) x.1:=λx q=>by delta cJ at q;let⟨y,hy,rfl⟩:=a_.1 q;show gy.1 hy
  let H:(cJ ⇑c.nears (bz c e g k) (cy ⇑c.nears ⇑(aK e))).length<=160000:=by delta cJ;rw[aF];show ub
  have j:cG c e (.known p g k)=if FV<((cJ ⇑c.nears (bz c e g k) (cy ⇑c.nears ⇑(aK e))).filter λx=>E8 (aT ⇑c.nears (bz c e g k) (c6 e p)) x.2).length then no 7 else match aT ⇑c.nears (bz c e g k) (c6 e p)with
   | some _=>cC (1::((cJ ⇑c.nears (bz c e g k) (cy ⇑c.nears ⇑(aK e))).filter λx=>E8 (aT ⇑c.nears (bz c e g k) (c6 e p)) x.2).flatMap λx=>fQ x.1++ [x.2.getD 0])
   | none=>cC (0::((cJ ⇑c.nears (bz c e g k) (cy ⇑c.nears ⇑(aK e))).filter λx=>E8 (aT ⇑c.nears (bz c e g k) (c6 e p)) x.2).flatMap λx=>fQ x.1):=j
  generalize aT ⇑c.nears (bz c e g k) (c6 e p)=f at j;generalize cJ ⇑c.nears (bz c e g k) (cy ⇑c.nears ⇑(aK e))=L at j E H;let xQ:(L.map λx=>(x.1,bq x.2)).filter (λx=>(decide ((0:Int)<=x.2) && decide (x.2<bq f))|| (decide (bq f<0) && decide ((0:Int)<=x.2)))=(L.filter λx=>E8 f x.2).map λx=>(x.1,bq x.2):=by rw[gx];congr 2;funext x;show abU f x.2
  refine bo (N.eq (eJ (er:=ro ⇑c.nears ⇑(aK e)) (bX O) (λx=>(decide ((0:Int)<=x.2) && decide (x.2<bq f))|| (decide (bq f<0) && decide ((0:Int)<=x.2))) (λx=>x) (λx q=>⟨_,ef aJ aJ,hJ (bh (Jf aw O O)) λ_=>bh (Je O aw O),λ_=>g_ O O⟩) (by rw[aF];show cN H)) (show _=(L.filter λx=>E8 f x.2).map λx=>(x.1,bq x.2) by rw[ng,xQ])) ?_;let l:∀x∈L.filter (λx=>E8 f x.2),Ok ⇑c.nears ⇑(aK e) x.1/\x.2.isSome=true:=λx q=>by
   let⟨h6,I⟩:=cz.1 q;show⟨E x h6,?_⟩;cases f with
   | none=>show I
   | some d=>
     cases z:x.2 with
     | none=>let I:(x.2.any λv=>decide (v<d))=true:=I;rw[z] at I;cases I
     | some v=>rfl
  generalize (L.filter λx=>E8 f x.2)=b at j l;cases w:FV<⇑b
  ·rw[ar w] at j;show cZ (b4.eq (bh (jg (aq (bU O)) aw)) (gX (by rw[aF];let w:200<⇑b:=w;change(200:Int)<_;lk)))<| aA dw ⟨(),B,m _ j⟩
  ·rw[aj w] at j;replace j:=j.trans (aaX λx q=>(l x q).2);let w: ⇑b<=200:=by let w:¬200<⇑b:=w;cbv
   refine dF (b4.eq (bh (jg (aq (bU O)) aw)) (jw ⋯)) ?_;let e0:(if decide (bq f<0)=aa then(0:Int)else 1)=if f.isSome=aa then 1 else 0:=by
    cases f with
    | none=>rfl
    | some d=>cbv
   refine aE (eh (iu (e:=b5) (l:= [0,if f.isSome=aa then 1 else 0]) (bj aw (bj (N.eq (gs (bh (fz O aw)) (λ_=>aw) (λ_=>aw)) e0) bN)) (by change 2<=aV;decide)) λa=> ?_);let Q:∀x∈b,⇑(J6 f x)<=5:=λx q=>by
    have:=(l x q).1.len;delta J6;rw[dA,aF];change ⇑x.1.holes+1+_<=_;split
    ·change _+1<=_;lk
    ·change _+0<=_;lk
   let hfm:∀i,⇑((b.take i).flatMap (J6 f))<=1000:=λi=>by show da (LN λx q=>Q x (Fo q)) ?_;have: ⇑(b.take i)<= ⇑b:=⋯;lk
   show aE (hB (e:=ro ⇑c.nears ⇑(aK e)) (l:=b.map λx=>(x.1,bq x.2)) (λi=>e_ st A c (J e)++ [c8 a b5 (L8 f (b.take i))]) (λi=> [.im b6 st, .im (D9 [.im b0 p, .im aB g, .im aB k]) (), .no, .no, .im b5 (bq f), .no, .no, .no, .im b6 a]) (bX O) B (.eq (.eq (.no (.no (.eq (.no (.no (.no (.eq .nil))))))))) ?_ ?_)
   ·ext i y hy;rw[cP] at hy;let⟨x,q,rfl⟩:=qd.1 hy;let s:=cD q;let hl2:=hfm i;let hl3:=Q x s;let ht:b.take (i+1)=b.take i++ [x]:=by rw[GG,q];rfl
    let hl4: ⇑(L8 f (b.take i))<=1002:=by delta L8;rw[dA];change 2+_<=_;lk
    show⟨_, [6,7],ef aJ aJ,?_⟩;show aE (lS (j:=2) (l:=L8 f (b.take i)) (O B) B (N.ints (eM (_,_,x.1) (eO (κf:= [_]) (_,_,_,_) (O B) dn ⟨t,C⟩) (a1 (O B)) ⟨t.aX,(l x s).1,u⟩)) ?_ ?_)
    ·have:=(l x s).1.len;rw[aF,bM];change _+(⇑x.1.holes+1)<=_;lk
    ·refine lS (j:=2) O B (m:=if f.isSome=aa then [bq x.2] else []) (N.eq (gs (bh (km O aw)) (λ_=>cv (e:=b5) (bj O bN)) (λ_=>cv (e:=b5) bN)) ?_) ?_ ⟨?_,?_⟩
     ·rw[zx]
     ·have:=(l x s).1.len;let h9: ⇑(if f.isSome=aa then [bq x.2] else [])<=1:=⋯;rw[dA,aF,bM];change _+(⇑x.1.holes+1)+_<=_;lk
     ·rw[ht];have:L8 f (b.take i++ [x])=(L8 f (b.take i)++(fQ x.1).map λ(n:Nat)=>(n:Int))++if f.isSome=aa then [bq x.2] else []:=by delta L8;rw[jr,jS,List.flatMap_nil,eS];delta J6;rw[qk,qk]
      rw[this];rfl
     ·show .eq (.eq (.eq (.eq (.eq (.eq (.no (.no (.eq .nil))))))))
   ·rw[aF,fe];show gr (j:=2) (i:=8) B B<| aA O ⟨(),B,m _ j⟩
 ·show cZ (b4.eq (bT O) ⋯)<| aA O ⟨(),B,m _ ?_⟩
  rw[Ki];show oJ o _
def Ad(k:Nat)(a:0<k):j0 k []= []:=by delta j0;rw[show ⇑([]:LN0)+k-1=k-1 by simp,rT ⋯];rfl
def Gx(a:0<k)(b:l≠ []):j0 k l=l.take k::j0 k (l.drop k):=by
 have d:0<⇑l:=mK.2 b;let c:(⇑l+k-1)/k=(⇑(l.drop k)+k-1)/k+1:=by
  rw[zo];cases h:k<= ⇑l
  ·rw[show ⇑l+k-1=(⇑l-k+k-1)+k by lk,GP _ a]
  ·rw[show ⇑l-k+k-1=k-1 by lk,rT (a:=k-1) ⋯,show ⇑l+k-1=(⇑l-1)+k by lk,GP _ a,rT ⋯]
 delta j0;rw[c,rF,bp,bS,Nat.zero_mul,zO];congr 1;show iV λi _=> ?_;change(l.drop ((i+1)*k)).take k=((l.drop k).drop (i*k)).take k;rw[zP,Mu,Mr,Lg]
def z5(m:az Nat)(c:LN0):LN0:=match m with
 | some _=>c
 | none=>c++ [0]
def j4(e:Nat)(m:az Nat):Nat:=e+1+if m.isSome=aa then 1 else 0
def Ht(q:Pl):∀L:Y (Pl×Nat),(L.any λx=>x.1==q)=(L.lookup q).isSome
 | []=>rfl
 | a::L=>by
   rw[oH,kM,Ht q L];cases h:a.1=q
   ·cbv
   ·lk
def Xt(m:az Nat){l:LN0}(h:¬⇑l<j4 e m):(z5 m (l.take (j4 e m))).dropLast=l.take (e+1):=by
 delta j4 at h⊢;cases m with
 | some k=>let h:¬⇑l<e+1+1:=h;change(l.take (e+1+1)).dropLast=_;rw[yq,gw,List.take_take];congr 1;cbv
 | none=>change(l.take (e+1+0)++ [0]).dropLast=_;rw[yx]
def ZK(m:az Nat){l:LN0}(h: ⇑l<j4 e m): ⇑(z5 m (l.take (j4 e m))).dropLast<e+1:=by
 delta j4 at h⊢;cases m with
 | some k=>let h: ⇑l<e+1+1:=h;change ⇑(l.take (e+1+1)).dropLast<_;rw[List.length_dropLast,gw];omega
 | none=>let h: ⇑l<e+1+0:=h;change ⇑(l.take (e+1+0)++ [0]).dropLast<_;rw[yx,gw];lk
def Xs(m:az Nat){l:LN0}(h:¬⇑l<j4 e m):(z5 m (l.take (j4 e m))).getLastD 0=if m.isSome=aa then l.getD (e+1) 0 else 0:=by
 delta j4 at h⊢;cases m with
 | some k=>let h:¬⇑l<e+1+1:=h;change(l.take (e+1+1)).getLastD 0=l.getD (e+1) 0;rw[jP,Eg,gw,Rj ∅,dJ,show min (e+1+1) ⇑l-1=e+1 by cbv]
 | none=>change(l.take (e+1+0)++ [0]).getLastD 0=0;rw[jP,TM];rfl
def Si{l:LN0}(h:e+1<= ⇑l):(l.take (e+1)).headD 0=l.headD 0/\(l.take (e+1)).drop 1=(l.drop 1).take e/\ ⇑(l.take (e+1))=e+1/\ ⇑((l.drop 1).take e)=e:=by
 cases l with
 | nil=>simp at h
 | cons a l=>cbv
def Xr{n e:Nat}(f:1<=e)(g:e<=3)(m:az Nat)(l:LN0):toldP n e (z5 m (l.take (j4 e m))).dropLast=if ⇑l<j4 e m\/isPlace n e ⟨l.headD 0,(l.drop 1).take e⟩=ak then ah else J ⟨l.headD 0,(l.drop 1).take e⟩:=by
 delta toldP;cases h: ⇑l<j4 e m
 ·have:=ZK m h;show(aj λz=>∅).trans (ar (.inl h)).symm
 ·rw[Xt m h];let i:e+1<= ⇑l:=by delta j4 at h;lk
  let⟨a,b,c,d⟩:=Si i;rw[a,b,c];let j:x8 n (l.headD 0) ((l.drop 1).take e)=isPlace n e ⟨l.headD 0,(l.drop 1).take e⟩:=by rw[cE,oV,Gq,d];show⟨λz=>z.2.2,λz=>⟨f,g,z⟩⟩
  rw[j];cases k:isPlace n e ⟨l.headD 0,(l.drop 1).take e⟩=aa
  ·cbv
  ·cbv
def LX(i:1<=e)(j:e<=3)(m:az Nat):∀(f:Nat) (l:LN0) (L:Y (Pl×Nat)),⇑l<f->
 entriesOn n e m f ⇑L L l=if ⇑(toldL n e (m.getD 2) L ((j0 (j4 e m) l).map (z5 m)))<⇑L+⇑((j0 (j4 e m) l).map (z5 m))then .error ⇑(toldL n e (m.getD 2) L ((j0 (j4 e m) l).map (z5 m)))else .ok (toldL n e (m.getD 2) L ((j0 (j4 e m) l).map (z5 m)))
 | 0,l,L,d=>∅
 | f+1, [],L,d=>by rw[Ad _ (by delta j4;lk)];change Mx L=if ⇑L<⇑L+0 then _ else Mx L;rw[aj ∅]
 | f+1,a::l,L,d=>by
   let r:0<j4 e m:=by delta j4;lk
   let c:a::l≠ []:=List.cons_ne_nil a l;let o: ⇑((a::l).drop (j4 e m))<f:=⋯;let p:entriesOn n e m (f+1) ⇑L L (a::l)=if ⇑(a::l)<j4 e m\/isPlace n e ⟨(a::l).headD 0,((a::l).drop 1).take e⟩=ak\/(m.any λ(k:Nat)=>decide (k<=if m.isSome=aa then(a::l).getD (e+1) 0 else 0))=aa\/(L.any λx=>x.1==(⟨(a::l).headD 0,((a::l).drop 1).take e⟩:Pl))=aa then .error ⇑L else entriesOn n e m f (⇑L+1) (L++ [(⟨(a::l).headD 0,((a::l).drop 1).take e⟩,if m.isSome=aa then(a::l).getD (e+1) 0 else 0)]) ((a::l).drop (j4 e m)):=B;let q:=LX (n:=n) i j m f ((a::l).drop (j4 e m)) (L++ [(⟨(a::l).headD 0,((a::l).drop 1).take e⟩,if m.isSome=aa then(a::l).getD (e+1) 0 else 0)]) o;rw[dA,qe] at q;rw[p,Ht];clear p d o;generalize (a::l)=b at c q⊢;rw[Gx r c,bp,toldL,Xr i j,cX];cases g: ⇑b<j4 e m\/isPlace n e ⟨b.headD 0,(b.drop 1).take e⟩=ak
   ·lk
   ·rw[aj g];let h:¬⇑b<j4 e m:=λz=>g (.inl z);let s:¬isPlace n e ⟨b.headD 0,(b.drop 1).take e⟩=false:=λz=>g (.inr z);let t:=Xs m h;simp only[];rw[t];let u:(m.any λ(k:Nat)=>decide (k<=if m.isSome=aa then b.getD (e+1) 0 else 0))=aa↔m.getD 2<=if m.isSome=aa then b.getD (e+1) 0 else 0:=by
     cases m with
     | none=>simp
     | some k=>simp
    cases v:(L.lookup ⟨b.headD 0,(b.drop 1).take e⟩).isSome=aa\/m.getD 2<=if m.isSome=aa then b.getD (e+1) 0 else 0
    ·lk
    ·grind
def Nd(a:1<=e)(b:e<=3)(m:az Nat)(l:LN0):entriesIn n e m l=if ⇑(toldL n e (m.getD 2) [] ((j0 (j4 e m) l).map (z5 m)))<⇑((j0 (j4 e m) l).map (z5 m))then .error ⇑(toldL n e (m.getD 2) [] ((j0 (j4 e m) l).map (z5 m)))else .ok (toldL n e (m.getD 2) [] ((j0 (j4 e m) l).map (z5 m))):=by have:=LX (n:=n) a b m (⇑l+1) l [] ∅;rw[lK,jZ] at this;show this
def told_other(b:Ok n e s):∀(L:Y (Pl×Nat)) (k:Known),(∀x∈L,Ok n e x.1/\x.1≠s)->(L.foldl (λ(k:Known) (x:Pl×Nat)=>k.setIfInBounds (code n x.1) (x.2+1)) k).getD (code n s) 0=k.getD (code n s) 0
 | [],_,_=>rfl
 | x::L,k,h=>by rw[gU,told_other b L _ λy f=>h y ∅];let⟨c,d⟩:=h x ∅;let a:code n x.1≠code n s:=λz=>d (code_inj c b z);rw[jo,jo,Pe a]
def told_fold(a:Ok n e s):∀(L:Y (Pl×Nat)) (k:Known),k.size=n^(e+1)->(∀x∈L,Ok n e x.1)->(L.map (·.1)).Nodup->(L.foldl (λ(k:Known) (x:Pl×Nat)=>k.setIfInBounds (code n x.1) (x.2+1)) k).getD (code n s) 0=match L.lookup s with| some v=>v+1| none=>k.getD (code n s) 0
 | [],_,_,_,_=>rfl
 | x::L,k,f,h,c=>by
   rw[bp,eR] at c;rw[gU,kM];cases b:s=x.1
   ·rw[told_other a L _ λy g=>⟨h y ∅,λz=>c.1 ⋯⟩];rw[show(s==x.1)=aa by simpa using b,<-b,jo,Array.getElem?_setIfInBounds_self_of_lt (by rw[f];show pb a)];rfl
   ·rw[told_fold a L _ ∅ (λy g=>h y ∅) c.2,show(s==x.1)=ak by simpa using b];let d:code n x.1≠code n s:=λz=>b (code_inj (h x ∅) a z).symm;change(match L.lookup s with| some v=>v+1| none=>_)=match L.lookup s with| some v=>v+1| none=>_
    rw[jo,jo,Pe d]
def told_price(a:h_ n e L)(b:Ok n e s):aT n (toldBy n e L) s=L.lookup s:=by
 delta aT toldBy;rw[told_fold b L _ ⋯ a.ok a.nd];cases L.lookup s with
 | none=>
   change(match(lJ (n^(e+1)) 0).getD (code n s) 0 with| 0=>ah| d+1=>J d)=ah;have:(lJ (n^(e+1)) 0).getD (code n s) 0=0:=by rw[jo,Eo];split<;>rfl
   rw[this]
 | some v=>rfl
def vn:∀{l:Y b},(∀a∈l,p a=q a)->l.find? p=l.find? q
 | [],_=>rfl
 | a::l,h=>by rw[oD,oD,h a ∅,vn λx c=>h x ∅]
def U8(w:LN0):LN0:=if w= [] then [1] else 0::w
def Bh(d:dH f):∀(l:Y (Pl×Nat)) (i:Nat),(∀x∈l,Ok ⇑f e x.1)->
 (∀x∈l,∀y,Ok ⇑f e y->g x.2 y=decide (x.2+1<(L.lookup y).getD h))->kF ((leak f g i l).map λx=>Why.shift x.1 x.2)=U8 (C5 f h L i l)
 | [],i,_,_=>rfl
 | x::l,i,j,m=>by
   rw[leak,C5,yS d.aX (oQ (j x ∅).asc)];have:(i9 f x.1.holes).find? (λy=>g x.2 (bH x.1 y))=(i9 f x.1.holes).find? λy=>decide (x.2+1<(L.lookup (bH x.1 y)).getD h):=by
    show vn λy k=>m x ∅ _<| jD d.aX B (j x ∅) (jB.2 ?_)
    let⟨a,b,c⟩:=lO.1 k;show⟨c,d.aX.sym _ _ b,a⟩
   rw[this];cases(i9 f x.1.holes).find? λy=>decide (x.2+1<(L.lookup (bH x.1 y)).getD h)with
   | none=>show Bh d l (i+1) (λy k=>j y ∅) λy k=>m y ∅
   | some y=>rfl
def Sx(b:bW P)(a:h_ ⇑P.nears e L)(c:Ok ⇑P.nears e q):kF (qp P e w q m L)=U8 (u7 P.nears m L q ((cy ⇑P.nears e).filter (di w))):=by
 delta qp u7;erw[<-b.cnt,told_price a c];cases h:(L.lookup q).isSome=aa
 ·rw[ar h,ar h];rfl
 ·rw[aj h,aj h];have:((cy ⇑P.nears e).filter (di w)).find? (λs=>(aT ⇑P.nears (toldBy ⇑P.nears e L) s).getD m !=0)=((cy ⇑P.nears e).filter (di w)).find? λs=>(L.lookup s).getD m !=0:=by show vn λs d=> ?_;rw[told_price a (gy.1 (cz.1 d).1)]
  rw[this];cases((cy ⇑P.nears e).filter (di w)).find? λs=>(L.lookup s).getD m !=0 with
  | some s=>rfl
  | none=>show Bh b.aX L 0 a.ok λx _ y f=>by rw[told_price a f]
def Uj(b:bW P)(a:h_ ⇑P.nears e L)(c:∀x∈L,x.2=0)(f:Ok ⇑P.nears e q):kF (uT P e w q L)=U8 (u7 P.nears 2 L q ((cy ⇑P.nears e).filter (di w))):=by
 let d:∀s v,L.lookup s=J v->v=0:=λs v h=>by let⟨k,l,m,_⟩:=List.lookup_eq_some_iff.1 h;show c (s,v) ∅
 delta uT u7;erw[<-b.cnt,told_price a f];cases h:(L.lookup q).isSome=aa
 ·rw[ar h,ar h];rfl
 ·rw[aj h,aj h];have:((cy ⇑P.nears e).filter (di w)).find? (λs=> !(aT ⇑P.nears (toldBy ⇑P.nears e L) s).isSome)=((cy ⇑P.nears e).filter (di w)).find? λs=>(L.lookup s).getD 2 !=0:=by
   show vn λs g=> ?_;rw[told_price a (gy.1 (cz.1 g).1)];cases z:L.lookup s with
   | none=>rfl
   | some v=>rw[d s v z];rfl
  rw[this];cases((cy ⇑P.nears e).filter (di w)).find? λs=>(L.lookup s).getD 2 !=0 with
  | some s=>rfl
  | none=>
    show Bh b.aX L 0 a.ok λx i y j=> ?_;rw[told_price a j,c x i];cases z:L.lookup y with
    | none=>rfl
    | some v=>rw[d y v z];rfl
def told_zero:∀{b:LL0} {L:Y (Pl×Nat)},(∀x∈b,x.getLastD 0=0)->(∀x∈L,x.2=0)->∀x∈toldL n e a L b,x.2=0
 | [],L,_,h=>h
 | y::b,L,d,h=>by
   rw[toldL];cases toldP n e y.dropLast with
   | none=>show h
   | some q=>
     change∀x∈(if(L.lookup q).isSome=aa\/a<=y.getLastD 0 then L else toldL n e a (L++ [(q,y.getLastD 0)]) b),x.2=0;split
     ·show h
     ·show told_zero (λx c=>d x ∅) λx c=> ?_;obtain z| z:=dc.1 c
      ·show h x z
      ·cbv
def Bm{a:TE}{n e:Nat}{L:Y (Pl×Nat)}(b:N M U a (G7 n e) L):N M U (j5 ae5 (b8 a c7)) b0 ⇑L:=
 fL b λG H x Q s w ⟨p,d,c⟩ k=>⟨p,_,∅,s _ _ c,k _ _ _ (To.refl s w) (by rw[BK];rfl)⟩
def L9(P:aW)(s:LN0)(p a:Nat)(g f:LN0)(b:LL0):Y Int:=if h7 P s [p] g f= [] then
 if(toldL ⇑P.nears ⇑(aK s) a [] b).length<⇑b then [-6,((toldL ⇑P.nears ⇑(aK s) a [] b).length:Int)] else
  0::(U8 (u7 P.nears a (toldL ⇑P.nears ⇑(aK s) a [] b) (c6 s p) ((cy ⇑P.nears ⇑(aK s)).filter (di (eH P g f))))).map λ(n:Nat)=>(n:Int)
 else h7 P s [p] g f
abbrev PJ:Sx0 (Nat×Nat×LN0×LN0×LL0)->Ct:=λ(a,c,d,g,h,i,j,k,l)=>P3 a c d (J g) [.im b0 h, .im b0 i, .im ej [j,k], .im ej l] (bW d/\cH d g/\ ⇑j<=1000/\ ⇑k<=1000/\(∀y∈l,y≠ []/\ ⇑y<=1000)) bL (L9 d g h i j k l)
def Lh{kN:LL0}{lim:Nat}{L:Y (Pl×Nat)}:∀(l:Y (Pl×Nat)) (i:Nat),⇑(C5 kN lim L i l)<=4
 | [],_=>eT _
 | x::l,i=>by
   rw[C5];split
   ·show br _
   ·show Lh l (i+1)
instance [T:Tx Z]:bt "answer_proof" 8 (b7 PJ):=by
 show bC 105 ["state","pallet","limit","wish","entries","refusal","told","meeting","why"] 5 (λ_ nd i=>aO (l_ (K:=Z.K) B (aR i (bc W (aY (ay W)))) (gE (aR i (c_ W (aI W ai) (aI W ai)))))∘bx (b_ W) (pR W) bB∘aO (aR i (c_ (iy Z.CS i W) W W))∘bx (bI gH (dj Ji (ay W)) (cb W)) (pR (aY (bc dr (dj Ji (ay W))))) bB∘aO (cT Z.CM i (iy Z.CS i W) (bc (cT Z.CS i W (ay (aI W ai))) (aI W ai)))∘aO (aR i (Di (iy Z.CS i W) W W (cT Z.CS i W (ay W)) W))∘pR (il (b_ W) (bw gF (aY (bc ai ai)) W) (aY (bc ai ai)))) ?_;ext⟨st,D,b,e,p,f,g,k,q⟩ Q;let⟨l,o,hg,hf,hx⟩:=Q;let Du:=o.small l;let j:∀z,L9 b e p f g k q=z->∀G v,bL.rep G v z->bL.rep G v (L9 b e p f g k q):=λz h G v r=>∅;show bo (b:=h7 b e [p] g k) (lj (eC (st,D,b,e, [p]) (a2 O (cv (e:=b0) (bj O bN))) ⋯) λ_=>eC (st,D,b,e,g,k) (a3 O (cw O aw (fV B)) (cw O aw (fM (i:=1) B))) ⟨⋯,hg,hf⟩) ?_;cases i:h7 b e [p] g k= []
 ·rw[i];let d:L9 b e p f g k q=_:=ar i;let⟨h1,h2⟩:=ij i;let⟨_,t,_⟩:=gj.1 h1;let⟨u,w⟩:=t p ∅;let⟨E,h5,_⟩:=jA.1 h2;rw[<-l.cnt] at E h5;let ho:=lg o t (c6 e p) ∅;let m:=o.holes.2;let x:=places_len l.aX.len m;let pX:=l.aX.len;show dF (b4.eq (bT O) B)<| bo (eC (_,_,_,_) (a3 (eO (_,_,_,_) O dn ⟨l,o⟩) O O) ⟨l.aX,m,hx⟩) ?_
  let H:h_ ⇑b.nears ⇑(aK e) (toldL ⇑b.nears ⇑(aK e) f [] q):=toldL_ok ⟨∅,λ_ h=>nomatch h⟩;generalize toldL ⇑b.nears ⇑(aK e) f [] q=L at d H;cases I: ⇑L<⇑q
  ·rw[ar I] at d;show cZ (b4.eq (bh (fz (aq (Bm O)) (aq (bU O)))) (gX ∅))<| aA (cv (bj aw (bj (aq (Bm O)) bN))) ⟨(),B,j _ d⟩
  ·rw[aj I] at d;show dF (b4.eq (bh (fz (aq (Bm O)) (aq (bU O)))) (jw ∅))<| bo (eM (_,_,N9 b g,k) (eO (_,_,_,_) O dn ⟨l,o⟩) (a2 (eO (_,_,_,J e,g) O (a1 (cw O aw (fV B))) cM) (cw O aw (fM B))) ⟨l.aX,m,(Kw l E),(λc hc=>⋯)⟩) ?_
   have hw:(⟨N9 b g,k⟩:GarFetch.Wish)=eH b g k:=B;rw[hw];let n:∀y∈(cy ⇑b.nears ⇑(aK e)).filter (di (eH b g k)),Ok ⇑b.nears ⇑(aK e) y:=λy hy=>gy.1 (cz.1 hy).1;let A:((cy ⇑b.nears ⇑(aK e)).filter (di (eH b g k))).length<=160000:=da (jq _ _) x;show bo (eC (_,_,_,_,_,_) (a5 (eO (_,_,_,_) O dn ⟨l,o⟩) O O (eO (_,_,_,_,_) O (a1 O) ⟨l,o,u,w⟩) O) ⟨l.aX,m,H,ho,n,A⟩) ?_;let C:(u7 b.nears f L (c6 e p) ((cy ⇑b.nears ⇑(aK e)).filter (di (eH b g k)))).length<=1000:=by
    delta u7;split
    ·change 1<=1000;decide
    ·split
     ·rename_i s hs;have:=(n s (QX hs)).len;change ⇑s.holes+1+1<=1000;lk
     ·have:=Lh (kN:=b.nears) (lim:=f) (L:=L) L 0;lk
   generalize u7 b.nears f L (c6 e p) ((cy ⇑b.nears ⇑(aK e)).filter (di (eH b g k)))=W at d C;show aA (gs (bT O) (λ_=>fY (cv (bj aw (bj aw bN))) (N.ints O) (by rw[aF,bM];change 2+_<=_;lk)) (λ_=>cv (bj aw (bj aw bN)))) ⟨(),B,j _ ?_⟩;rw[d];cases W with
   | nil=>rfl
   | cons a W=>rfl
 ·show cZ (b4.eq (bT O) ∅)<| aA O ⟨(),B,j _ (aj i)⟩
def WK(P:aW)(s:LN0)(p m:Nat)(g f r:LN0):cG P s (.check p m g f r)=kK P s p g f λq=>match yC P.count (eL s) (J m) r with
 | .error i=>noAt 6 i
 | .ok l=>cC (kF (qp P (eL s) (eH P g f) q m l)):=B
def YS(P:aW)(s:LN0)(p:Nat)(g f r:LN0):cG P s (.shut p g f r)=kK P s p g f λq=>match yC P.count (eL s) ah r with
 | .error i=>noAt 6 i
 | .ok l=>cC (kF (uT P (eL s) (eH P g f) q l)):=B
def wa{k:Nat}(b:0<k)(d:k<=5):∀(f:Nat) (l:LN0),⇑l<f->∀y∈j0 k l,y≠ []/\ ⇑y<=5
 | 0,_,h=>∅
 | f+1,l,h=>by
   ext y a;cases c:l= []
   ·subst c;rw[Ad k b] at a;cases a
   ·rw[Gx b c] at a;let g:0<⇑l:=mK.2 c;obtain e| e:=cp.1 a
    ·subst e;show⟨λz=> ?_,?_⟩
     ·cbv
     ·rw[gw];lk
    ·show wa b d f (l.drop k) ⋯ y e
def Vh{k:Nat}(b:0<k)(l:LN0): ⇑(j0 k l)<= ⇑l:=by
 cases l with
 | nil=>rw[Ad k b];show eT _
 | cons a l=>delta j0;rw[aF,fm];show Nat.div_le_of_le_mul ?_;have:k*(⇑l+1)=k*⇑l+k:=∅;let c: ⇑l<=k*⇑l:=Nat.le_mul_of_pos_left _ b;rw[cX,this];cbv
def Vu{P:aW}(e:bW P){s:LN0}(c:cH P s){p m:Nat}{g f r:LN0}:cG P s (.check p m g f r)=L9 P s p m g f (j0 (⇑(aK s)+2) r):=by
 rw[WK];delta L9;cases a:h7 P s [p] g f= []
 ·rw[ar a,kd a];let⟨k,q⟩:=ij a;let⟨_,d,_⟩:=gj.1 k;let n:=lg c d (c6 s p) ∅;let j:=Nd (n:=⇑P.nears) c.holes.1 c.holes.2 (J m) r;rw[show(j0 (j4 ⇑(aK s) (J m)) r).map (z5 (J m))=j0 (⇑(aK s)+2) r from vK _] at j;rw[<-e.cnt];change(match yC ⇑P.nears ⇑(aK s) (J m) r with| .error i=>noAt 6 i| .ok l=>cC (kF (qp P ⇑(aK s) (eH P g f) (c6 s p) m l)))=_;rw[j];let o:h_ ⇑P.nears ⇑(aK s) (toldL ⇑P.nears ⇑(aK s) m [] (j0 (⇑(aK s)+2) r)):=toldL_ok ⟨∅,λ_ h=>nomatch h⟩;cases b:(toldL ⇑P.nears ⇑(aK s) m [] (j0 (⇑(aK s)+2) r)).length<(j0 (⇑(aK s)+2) r).length
  ·rw[ar b];show(congrArg (λ(x:Except Nat (Y (Pl×Nat)))=>match x with| .error i=>noAt 6 i| .ok l=>cC (kF (qp P ⇑(aK s) (eH P g f) (c6 s p) m l))) (ar b)).trans B
  ·rw[aj b];show(congrArg (λ(x:Except Nat (Y (Pl×Nat)))=>match x with| .error i=>noAt 6 i| .ok l=>cC (kF (qp P ⇑(aK s) (eH P g f) (c6 s p) m l))) (aj b)).trans ?_;change cC (kF (qp P ⇑(aK s) (eH P g f) (c6 s p) m (toldL ⇑P.nears ⇑(aK s) m [] (j0 (⇑(aK s)+2) r))))=_;rw[Sx e o n];rfl
 ·rw[aj a];show oJ a _
def XB{P:aW}(j:bW P){s:LN0}(d:cH P s){p:Nat}{g f r:LN0}:cG P s (.shut p g f r)=L9 P s p 2 g f ((j0 (⇑(aK s)+1) r).map λc=>c++ [0]):=by
 rw[YS];delta L9;cases a:h7 P s [p] g f= []
 ·rw[ar a,kd a];let⟨m,u⟩:=ij a;let⟨_,e,_⟩:=gj.1 m;let n:=lg d e (c6 s p) ∅;let k:=Nd (n:=⇑P.nears) d.holes.1 d.holes.2 ah r;rw[show(j0 (j4 ⇑(aK s) ah) r).map (z5 ah)=(j0 (⇑(aK s)+1) r).map λc=>c++ [0] from B,show(ah:az Nat).getD 2=2 from B] at k;rw[<-j.cnt];change(match yC ⇑P.nears ⇑(aK s) ah r with| .error i=>noAt 6 i| .ok l=>cC (kF (uT P ⇑(aK s) (eH P g f) (c6 s p) l)))=_;rw[k];let o:h_ ⇑P.nears ⇑(aK s) (toldL ⇑P.nears ⇑(aK s) 2 [] ((j0 (⇑(aK s)+1) r).map λc=>c++ [0])):=toldL_ok ⟨∅,λ_ h=>nomatch h⟩;let q:∀x∈toldL ⇑P.nears ⇑(aK s) 2 [] ((j0 (⇑(aK s)+1) r).map λc=>c++ [0]),x.2=0:=told_zero (λx t=>by let⟨c,_,rfl⟩:=a_.1 t;rw[jP,TM];rfl) λ_ h=>nomatch h;cases b:(toldL ⇑P.nears ⇑(aK s) 2 [] ((j0 (⇑(aK s)+1) r).map λc=>c++ [0])).length<((j0 (⇑(aK s)+1) r).map λc=>c++ [0]).length
  ·rw[ar b,ar b];rfl
  ·rw[aj b,aj b];change cC (kF (uT P ⇑(aK s) (eH P g f) (c6 s p) (toldL ⇑P.nears ⇑(aK s) 2 [] ((j0 (⇑(aK s)+1) r).map λc=>c++ [0]))))=_;rw[Uj j o q n];rfl
 ·rw[aj a];show oJ a _
abbrev FN:Sx0 (Nat×Nat×LN0×LN0×LN0)->Ct:=λ(a,c,d,g,h,i,j,k,l)=>P4 a c d (J g) [.im b0 h, .im b0 i, .im aB j, .im aB k, .im aB l] (bW d/\cH d g/\ ⇑j<=1000/\ ⇑k<=1000/\ ⇑l<=1000) (cG d g (.check h i j k l))
instance [T:Tx Z]:bt "call_check" 9 (b7 FN):=by
 show bC 103 ["state","given","entries"] 2 (λ_ s b=>aO (aR b (bc (aI W ai) (bw fJ (iy Z.CS b W) ai)))∘pR (aR b (Di W (aI W ai) (aI W ai) (aY (bc (aI W ai) (aI W ai))) W))) ?_;ext⟨st,f,e,c,p,m,g,h,r⟩ i;let⟨d,a,j,k,t⟩:=i;let l:=a.small d;let n:=a.holes.2;show bo (eC (_,⇑(aK c)+2) (a2 (bE O) (N.nat (fj (aq (eO (st,f,e,c) O dn ⋯)) aw) ∅)) ⟨∅,∅,⋯⟩)<| aA (eC (_,_,_,_,_,_,_,_,_) (a5 O (bE O) (bE O) (cv (bj (bE O) (bj (bE O) bN))) O) ⟨d,a,j,k,(λy o=> ?_)⟩) ⟨(),B,λG v z=> ?_⟩
 ·let⟨q,u⟩:=wa ∅ ∅ (⇑r+1) r ∅ y o;show⟨q,⋯⟩
 ·change bL.rep G v (cG e c (.check p m g h r));rw[Vu d a];show z
abbrev GF:Sx0 (Nat×LN0×LN0×LN0)->Ct:=λ(a,c,d,g,h,i,j,k)=>P4 a c d (J g) [.im b0 h, .im aB i, .im aB j, .im aB k] (bW d/\cH d g/\ ⇑i<=1000/\ ⇑j<=1000/\ ⇑k<=1000) (cG d g (.shut h i j k))
instance [T:Tx Z]:bt "call_shut" 9 (b7 GF):=by
 show bC 104 ["state","given","entries","place"] 2 (λ_ i d=>hX 2 [3] i (cf (aR d (bc (aI W ai) (bw fJ (iy Z.CS d W) ai)))) (λ_=>aL) (λ_=>d_) (λ_=>(bw gF W (aY (ay ai))))∘pR (aR d (Di W (aI W ai) ai (aY (bc (aI W ai) (aI W ai))) W))) ?_;ext⟨st,j,h,a,p,g,k,r⟩ l;let⟨e,b,m,n,u⟩:=l;let o:=b.small e;let q:=b.holes.2;let s:=Vh (k:=⇑(aK a)+1) ∅ r;show bo (ei (er:=aB) (bX (eC (C:=Fi) (_,⇑(aK a)+1) (a2 (bE (i:=3) O) (N.nat (fj (aq (eO (st,j,h,a) O dn ⋯)) aw) ∅)) ⟨∅,⋯,⋯⟩)) (λc=>c++ [0]) (λc f=>⟨_,aJ,fY (e:=b0) O (cv (e:=b0) (bj aw bN)) ?_⟩) ?_) ?_
 ·have:=(wa ∅ ⋯ (⇑r+1) r ∅ c f).2;rw[bM];change ⇑c+1<=_;lk
 ·rw[bM];lk
 show aA (eC (_,_,_,_,_,2,_,_,_) (a5 O (bE (i:=0) O) (N.nat aw B) (cv (e:=aB) (bj (bE (i:=1) O) (bj (bE (i:=2) O) bN))) O) ⟨e,b,m,n,(λy t=> ?_)⟩) ⟨(),B,λG v z=> ?_⟩
 ·let⟨c,f,rfl⟩:=a_.1 t;let⟨w,x⟩:=wa ∅ ⋯ (⇑r+1) r ∅ c f;show⟨⋯,⋯⟩
 ·change bL.rep G v (cG h a (.shut p g k r));rw[XB e b];show z
section
abbrev Item:=Nat⊕LN0
def aa4:Item->En
 | .inl n=> .im b0 n
 | .inr l=> .im aB l
inductive eK:Nat->Y Item->Tt->Prop
 | load (r:LN0) (h0: ⇑r<=400) (h1:∀b∈r,b<256):eK 0 [.inr r] (.load (toB r))
 | stand (r:LN0) (h0: ⇑r<=1000):eK 1 [.inr r] (.stand r)
 | told:eK 2 [] .told
 | near (a:Nat):eK 3 [.inl a] (.near a)
 | run (r:LN0) (h0: ⇑r<=1000):eK 4 [.inr r] (.run r)
 | fetch (r:LN0) (s:LN0) (t:LN0) (h0: ⇑r<=1000) (h1: ⇑s<=1000) (h2: ⇑t<=1000):eK 5 [.inr r, .inr s, .inr t] (.fetch r s t)
 | go (r:LN0) (s:LN0) (t:LN0) (h0: ⇑r<=1000) (h1: ⇑s<=1000) (h2: ⇑t<=1000):eK 6 [.inr r, .inr s, .inr t] (.go r s t)
 | firsts (a:Nat) (r:LN0) (s:LN0) (h0: ⇑r<=1000) (h1: ⇑s<=1000):eK 7 [.inl a, .inr r, .inr s] (.firsts a r s)
 | ways (a:Nat) (r:LN0) (s:LN0) (h0: ⇑r<=1000) (h1: ⇑s<=1000):eK 8 [.inl a, .inr r, .inr s] (.ways a r s)
 | weigh (a:Nat) (r:LN0) (s:LN0) (t:LN0) (h0: ⇑r<=1000) (h1: ⇑s<=1000) (h2: ⇑t<=1000):eK 9 [.inl a, .inr r, .inr s, .inr t] (.weigh a r s t)
 | all_ (r:LN0) (s:LN0) (h0: ⇑r<=1000) (h1: ⇑s<=1000):eK 10 [.inr r, .inr s] (.all_ r s)
 | nearest (r:LN0) (s:LN0) (h0: ⇑r<=1000) (h1: ⇑s<=1000):eK 11 [.inr r, .inr s] (.nearest r s)
 | map_ (a:Nat):eK 12 [.inl a] (.map_ a)
 | price (a:Nat) (r:LN0) (s:LN0) (t:LN0) (h0: ⇑r<=1000) (h1: ⇑s<=1000) (h2: ⇑t<=1000):eK 13 [.inl a, .inr r, .inr s, .inr t] (.price a r s t)
 | spread (a:Nat) (r:LN0) (s:LN0) (h0: ⇑r<=1000) (h1: ⇑s<=1000):eK 14 [.inl a, .inr r, .inr s] (.spread a r s)
 | hardest (a:Nat) (r:LN0) (s:LN0) (h0: ⇑r<=1000) (h1: ⇑s<=1000):eK 15 [.inl a, .inr r, .inr s] (.hardest a r s)
 | stuck (a:Nat) (r:LN0) (s:LN0) (h0: ⇑r<=1000) (h1: ⇑s<=1000):eK 16 [.inl a, .inr r, .inr s] (.stuck a r s)
 | cell (a:Nat) (b:Nat) (r:LN0) (s:LN0) (h0: ⇑r<=1000) (h1: ⇑s<=1000):eK 17 [.inl a, .inl b, .inr r, .inr s] (.cell a b r s)
 | known (a:Nat) (r:LN0) (s:LN0) (h0: ⇑r<=1000) (h1: ⇑s<=1000):eK 18 [.inl a, .inr r, .inr s] (.known a r s)
 | check (a:Nat) (b:Nat) (r:LN0) (s:LN0) (t:LN0) (h0: ⇑r<=1000) (h1: ⇑s<=1000) (h2: ⇑t<=1000):eK 19 [.inl a, .inl b, .inr r, .inr s, .inr t] (.check a b r s t)
 | shut (a:Nat) (r:LN0) (s:LN0) (t:LN0) (h0: ⇑r<=1000) (h1: ⇑s<=1000) (h2: ⇑t<=1000):eK 20 [.inl a, .inr r, .inr s, .inr t] (.shut a r s t)
section
variable {Φ:Out->Prop}
def ag3(K:aG)(n k:Nat)(b:Bool)(f:ab):Enc Unit:=⟨λ_ v _=>∃a,v= .ref a/\∀H,d7 K H a [.int (n:Int), .int (k:Int), .bl b, .ref f],λ_ h=>h⟩
def ab2(a:Y (Key×V))(t:TE):TE:=λb H Q=>t b H λy c=>∃k v,y=c9 k/\d2 a k=J v/\Q v c
def rh{t:TE}{c:Y (Key×V)}{i n k:Nat}{b:Bool}{a f:ab}(h:N M U t b0 i)(d:d2 c (.inl (i:Int))=J (.ref a))(e:∀H,d7 K H a [.int (n:Int), .int (k:Int), .bl b, .ref f]):N M U (ab2 c t) (ag3 K n k b f) ():=λG H g s w l Q j=>h G H g s w l _ λv m o x r=>⟨.inl (i:Int),_,r,d,j _ m o x ⟨a,B,e⟩⟩
def qZ{d:TE}{n k:Nat}{b:Bool}{f:ab}{j:Int}{v:V}{g:Type}{e:Enc g}{c:g}(h:N M U d (ag3 K n k b f) ())(i:n4 [.int (n:Int), .int (k:Int), .bl b, .ref f] j=J v)(l:∀G,e.rep G v c):N M U (d9 (C7 K) d (j8 (.int j))) e c:=
 f_ h (aw) λG H x y Q s w ⟨a,m,o⟩ p q=>⟨a,_,j,v,m,p,o H,i,q v G H (To.refl s w) (l G)⟩
def Yk{X:Cx}{d:TA}{i:Nat}{f:ab}{a:gz}{b:Y Str}{c:Sp}{k:Nat}(e:U[i]? =J (.im b6 f))(F:dY X.prog X.w X.K X.mg X.base CX0 k f a b c)(g:cS k X.A)(h:oE X.K (.ref f)=aa)(j:Binds X.K a b [])(q:b9 M U (E3 (v9 c [] E0 d)) Φ):b9 M U (E3 (Y5 X i d)) Φ:=λG H m s w l D n=>⟨f,a,b,c,k,ZA l e,F,g,h,j,by have:=q G H m s w l D n;erw[E3,v9,eS] at this;show this⟩
def ca [T:Tx Z]{i n k:Nat}{b:Bool}{x:Str}(h:cals[i]? =J (i,n,k,b,x)):Q0 Z.K Z.mg Z.pV i n k b x:=T.hC _ (cD h)
abbrev Cs:TT:=O1 Z.K (d9 (C7 Z.K) (ab2 Z.pV (p3 1)) (j8 (.int 2)))
abbrev C_(X:Cx):TS:=E1 (w8 (d9 (C7 Z.K) (ab2 Z.pV (p3 1)) (j8 (.int 3))) (p9 3)) (E3 (Y5 X 3 (b8 (p3 0) (b8 (p3 2) c7))))
section
variable {X:Cx} {ι:Type} {C:ι->Ct} {i n k:Nat} {b:Bool} {d D:Nat} {st:ab} {α:Type} {e0:Enc α} {g0:α} {r3:En} {y:TT} {u:TS}
def Ip{x:Str}(m:bt x d (b7 C))(o:cS D X.A)(j:ι)(p:(C j).pre)(q:∀c,Φ (.rt ((C j).kq0 c) (C j).e ((C j).b c)))(r:Q0 Z.K Z.mg Z.pV i n k b x)(s:(C j).U= [.im b6 st, .im e0 g0])(t:M=(C j).M)(v:d<=D)(c:On X):b9 M [.im b6 st, .im b0 i, .im e0 g0,r3] (C_ X) Φ:=by
 let⟨a,f,w,z,A⟩:=r;let⟨Q,T,fd,F,e,g,h⟩:=m.h;let⟨E,H,l,I,L⟩:=c;rw[A] at e;cases e;rw[<-E,<-H,<-l,<-I,<-L] at F;rw[<-l] at g h;show bo (qZ (rh O w z) (fM B) λ_=>B)<| Yk B F (o.mono v) g h (So (κf:= []) j ?_ p ∅ λc=> ?_)
 ·rw[s];show df O (df O dn)
 ·cbv
def gN [T:Tx Z](x:Str) [l:bt x d (b7 C)](m:cS D X.A)(j:ι)(o:(C j).pre)(q:∀c,Φ (.rt ((C j).kq0 c) (C j).e ((C j).b c)))(g:cals[i]? =J (i,n,k,ak,x):=by rfl)(p:(C j).U= [.im b6 st, .im e0 g0]:=by rfl)(e:M=(C j).M:=by rfl)(r:d<=D:=by decide)(c:On X:=by show⟨B,B,B,B,B⟩):b9 M [.im b6 st, .im b0 i, .im e0 g0,r3] (E1 (O7 (S2 Cs y) u Q1) (C_ X)) Φ:=by let⟨a,f,s,t,v⟩:=ca g;show dF (b4.eq (jE (c:=ak) (d:=ak) (eI (qZ (rh O s t) (fM (i:=2) B) λ_=>B)) λh=>nomatch h) B) (Ip l m j o q (ca g) p e r c)
def jk [T:Tx Z](x:Str) [h:bt x d (b7 C)](l:cS D X.A)(j:ι)(m:(C j).pre)(q:∀c,Φ (.rt ((C j).kq0 c) (C j).e ((C j).b c)))(hy:b4 M [.im b6 st, .im b0 i, .im e0 g0,r3] y ak)(g:cals[i]? =J (i,n,k,aa,x):=by rfl)(o:(C j).U= [.im b6 st, .im e0 g0]:=by rfl)(e:M=(C j).M:=by rfl)(p:d<=D:=by decide)(c:On X:=by show⟨B,B,B,B,B⟩):b9 M [.im b6 st, .im b0 i, .im e0 g0,r3] (E1 (O7 (S2 Cs y) u Q1) (C_ X)) Φ:=by let⟨a,f,r,s,t⟩:=ca g;show dF (b4.eq (jE (eI (qZ (rh O r s) (fM B) λ_=>B)) λ_=>hy) B) (Ip h l j m q (ca g) o e p c)
def jj [T:Tx Z]{x:Str}{v:TS}(c:b4 M [.im b6 st, .im b0 i, .im e0 g0,r3] y aa)(q:b9 M [.im b6 st, .im b0 i, .im e0 g0,r3] u (V7 v Φ))(e:cals[i]? =J (i,n,k,aa,x):=by rfl):b9 M [.im b6 st, .im b0 i, .im e0 g0,r3] (E1 (O7 (S2 Cs y) u Q1) v) Φ:=by let⟨a,f,g,h,j⟩:=ca e;show cZ (b4.eq (jE (eI (qZ (rh O g h) (fM B) λ_=>B)) λ_=>c) B) q
end
def z6(x:jl):uF:=x.po.map λP=>⟨P,x.so⟩
def w6(x:jl)(a:ab)(d:uF):jl:=⟨x.st,a,d.map λy=>y.plan,d.bind λy=>y.stand⟩
def F7(x:jl):Prop:=match x.po,x.so with
 | none,ah=>True
 | none,J _=>False
 | some P,ah=>bW P
 | some P,J s=>bW P/\cH P s
def qG(x:jl)(a:ab)(t:LN0)(h:x.po=ah->x.so=ah):stK Z.CM Z.CP Z.CS (ae8 x a (iY (toB t)))=stK Z.CM Z.CP Z.CS (w6 x a (step (z6 x) (.load (toB t))).1)/\ae9 (iY (toB t))=(step (z6 x) (.load (toB t))).2:=by
 have b:step (z6 x) (.load (toB t))=match iY (toB t)with
  | .error e=>(z6 x, [-6,(e.1:Int),(e.2:Int)])
  | .ok P=>(J ⟨P,ah⟩,cC [P.count,⇑P.cabins]):=B
 rw[b];cases iY (toB t)with
 | error e=>
   show⟨?_,B⟩;change stK Z.CM Z.CP Z.CS ⟨x.st,a,x.po,x.so⟩=stK Z.CM Z.CP Z.CS (w6 x a (z6 x));delta w6 z6;cases z:x.po with
   | none=>rw[h z];rfl
   | some P=>rfl
 | ok P=>show⟨B,B⟩
def ve(st b:ab)(P:aW)(a:az LN0)(r:LN0):stK Z.CM Z.CP Z.CS ⟨st,b,J P,F1 P a r⟩=stK Z.CM Z.CP Z.CS (w6 ⟨st,b,J P,a⟩ b (step (J ⟨P,a⟩) (.stand r)).1)/\O2 P r=(step (J ⟨P,a⟩) (.stand r)).2:=by
 have c:step (J ⟨P,a⟩) (.stand r)=match iX P.count r with
  | some k=>(J ⟨P,a⟩,noAt 6 k)
  | none=>(J ⟨P,J r⟩,cC []):=B
 rw[c];delta F1 O2;cases iX P.count r with
 | some k=>show⟨B,B⟩
 | none=>show⟨B,B⟩
def JP(st a:ab)(P:aW)(s r:LN0):stK Z.CM Z.CP Z.CS ⟨st,a,J P,J (C6 P s r)⟩=stK Z.CM Z.CP Z.CS (w6 ⟨st,a,J P,J s⟩ a (step (J ⟨P,J s⟩) (.run r)).1)/\J3 P s r=(step (J ⟨P,J s⟩) (.run r)).2:=by
 have b:step (J ⟨P,J s⟩) (.run r)=match mO P.count r with
  | none=>(J ⟨P,J s⟩,no 4)
  | some l=>match zM P 0 s l with
    | .error i=>(J ⟨P,J s⟩,noAt 5 i)
    | .ok u=>(J ⟨P,J u⟩,cC [⇑l]):=B
 rw[b];delta C6 J3;cases mO P.count r with
 | none=>show⟨B,B⟩
 | some l=>
   simp only;cases zM P 0 s l with
   | error i=>show⟨B,B⟩
   | ok u=>show⟨B,B⟩
def LM(st a:ab)(P:aW)(s l g f:LN0):stK Z.CM Z.CP Z.CS ⟨st,a,J P,J (B3 P s l g f)⟩=stK Z.CM Z.CP Z.CS (w6 ⟨st,a,J P,J s⟩ a (step (J ⟨P,J s⟩) (.go l g f)).1)/\F6 P s l g f=(step (J ⟨P,J s⟩) (.go l g f)).2:=by
 have b:step (J ⟨P,J s⟩) (.go l g f)=if fP s l=ak then(J ⟨P,J s⟩,no 3)else if gT P.count (eL s) g f=ak then(J ⟨P,J s⟩,no 4)else(match mN P s l g f with
  | none=>(J ⟨P,J s⟩,no 5)
  | some r=>(J ⟨P,J (yG P s r)⟩,cC (⇑r::Q_ P (yG P s r) l g f))):=B
 rw[b];delta B3 F6;split
 ·show⟨B,B⟩
 ·split
  ·show⟨B,B⟩
  ·cases mN P s l g f with
   | none=>show⟨B,B⟩
   | some r=>show⟨B,B⟩
abbrev uJ:jl×Nat×Y Item×Tt->Ct:=λ(a,c,d,g)=>{M:=stK Z.CM Z.CP Z.CS a,U:= [.im b6 a.st, .im b0 c, .im (D9 (d.map aa4)) ()],pre:=F7 a/\eK c d g,ga0:=ab,kq0:=λb=>stK Z.CM Z.CP Z.CS (w6 a b (step (z6 a) g).1),be0:=Y Int,e:=bL,b:=λ_=>(step (z6 a) g).2}
instance [T:Tx Z]:bt "answer_call" 12 (b7 uJ):=by
 let⟨f,fd,F,n⟩:=T.f ("answer_call",110) (by decide+kernel);let S:md ["state","number","given","answerer"] ["state","number","given"] (k8 (top 110)):=by walk_at "s"
 show⟨["state","number","given"],f,fd,Cz F S (λ_=>B) ?_,kW T.X T.G n,F.kp,F.binds λ_ _ _ _ _ _=>Oy λ_ _ _=>rfl⟩;ext⟨⟨st,d,po,Q⟩,k,D,c⟩ DN A I s H E hp m;let nd:=S.nd;show⟨_,(bx (l4.pt (nJ (nL (wZ (ba W))) (ny (bI gG W ai)))) (bP (qV (aY (dM dr cQ)))) bB∘bx (l4.pt (nJ (b_ (dm (vS Tx.d B (kW Tx.X Tx.G Tx.nC) W (λ_ _=>B)) ai)) (ny (nL (wZ (ba W)))))) (bP (qV (aY (dM dr cQ)))) bB∘aO (dm (vS Tx.d B (kW Tx.X Tx.G Tx.nC) W (λ_ _=>B)) ai)∘bP (qV (WH (i:=3) B (nV B) (dM W (dM W cQ))))),?_⟩;dsimp only[uJ] at hp⊢;let⟨L,C⟩:=hp;cases po with
 | none=>
   cases Q with
   | some s=>show L.elim
   | none=>
     cases hk:k=0
     ·show dF (b4.eq (jE (c:=aa) (gK (mj (cF (j:=0) B O) λG v r=>by cases(show v=_ from r);rfl)) λ_=>bh (fK (aq O) aw)) ∅) ?_;cases C with
      | load r e g=>show gN "call_load" (C:=r_) m (⟨st,d,ah,ah⟩,r) ⟨e,g⟩ (λq=>⟨q,(qG ⟨st,d,ah,ah⟩ q r λ_=>B).1,λG v z=>(qG ⟨st,d,ah,ah⟩ q r λ_=>B).2▸z⟩)
      | _=>show aN hk ⋯
     ·show cZ (b4.eq (jE (c:=aa) (gK (mj (cF (j:=0) B O) λG v r=>by cases(show v=_ from r);rfl)) λ_=>bh (fK (aq O) aw)) ∅)<| aA dw ?_
      cases C with
      | load r e g=>show aN B hk
      | _=>show⟨d,B,λG v z=>z⟩
 | some l=>
   show dF (b4.eq (jE (c:=ak) (d:=ak) (gK (mj (cF (j:=0) B O) λG v r=>by let⟨p,_,_,rfl,_⟩:=r;rfl)) λh=>nomatch h) B) ?_;cases Q with
   | none=>
     let o:bW l:=L;let i:∀(k:Nat) (x y:En),b4 (stK Z.CM Z.CP Z.CS ⟨st,d,J l,ah⟩) [.im b6 st, .im b0 k,x,y] (X3 (V0 (M5 Z.K (p3 0) "standing"))) true:=λk x y=>gK (mj (cF (j:=0) B O) λG v r=>by cases(show v=_ from r);rfl);cases C with
     | load r e g=>show gN "call_load" (C:=r_) m (⟨st,d,J l,ah⟩,r) ⟨e,g⟩ (λq=>⟨q,(qG ⟨st,d,J l,ah⟩ q r λh=>nomatch h).1,λG v z=>(qG ⟨st,d,J l,ah⟩ q r λh=>nomatch h).2▸z⟩)
     | stand r e=>show gN "call_stand" (C:=zk) m (st,d,l,ah,r) e (λ_=>⟨d,(ve st d l (ah) r).1,λG v z=>(ve st d l (ah) r).2▸z⟩)
     | told=>show jj (i _ _ _) (aA dw ⟨d,B,λG v z=>z⟩)
     | near a=>show gN "call_near" (C:=vc) m (st,d,l,ah,a) o (λ_=>⟨d,B,λG v z=>z⟩)
     | run r e=>show jj (i _ _ _) (aA dw ⟨d,B,λG v z=>z⟩)
     | fetch r j t e g u=>show jj (i _ _ _) (aA dw ⟨d,B,λG v z=>z⟩)
     | go r j t e g u=>show jj (i _ _ _) (aA dw ⟨d,B,λG v z=>z⟩)
     | firsts a r j e g=>show jj (i _ _ _) (aA dw ⟨d,B,λG v z=>z⟩)
     | ways a r j e g=>show jj (i _ _ _) (aA dw ⟨d,B,λG v z=>z⟩)
     | weigh a r j t e g u=>show jj (i _ _ _) (aA dw ⟨d,B,λG v z=>z⟩)
     | all_ r j e g=>show jj (i _ _ _) (aA dw ⟨d,B,λG v z=>z⟩)
     | nearest r j e g=>show jj (i _ _ _) (aA dw ⟨d,B,λG v z=>z⟩)
     | map_ a=>show jj (i _ _ _) (aA dw ⟨d,B,λG v z=>z⟩)
     | price a r j t e g u=>show gN "call_price" (C:=zl) m (st,d,l,ah,a,r,j,t) ⟨o,e,g,u⟩ (λ_=>⟨d,B,λG v z=>z⟩)
     | spread a r j e g=>show gN "call_spread" (C:=yU) m (st,d,l,ah,a,r,j) ⟨o,e,g⟩ (λ_=>⟨d,B,λG v z=>z⟩)
     | hardest a r j e g=>show gN "call_hardest" (C:=yF) m (st,d,l,ah,a,r,j) ⟨o,e,g⟩ (λ_=>⟨d,B,λG v z=>z⟩)
     | stuck a r j e g=>show gN "call_stuck" (C:=zj) m (st,d,l,ah,a,r,j) ⟨o,e,g⟩ (λ_=>⟨d,B,λG v z=>z⟩)
     | cell a b r j e g=>show gN "call_cell" (C:=zE) m (st,d,l,ah,a,b,r,j) ⟨o,e,g⟩ (λ_=>⟨d,B,λG v z=>z⟩)
     | known a r j e g=>show jj (i _ _ _) (aA dw ⟨d,B,λG v z=>z⟩)
     | check a b r j t e g u=>show jj (i _ _ _) (aA dw ⟨d,B,λG v z=>z⟩)
     | shut a r j t e g u=>show jj (i _ _ _) (aA dw ⟨d,B,λG v z=>z⟩)
   | some s=>
     let⟨o,w⟩:bW l/\cH l s:=L;let i:∀(k:Nat) (x y:En),b4 (stK Z.CM Z.CP Z.CS ⟨st,d,J l,J s⟩) [.im b6 st, .im b0 k,x,y] (X3 (V0 (M5 Z.K (p3 0) "standing"))) false:=λk x y=>gK (mj (cF (j:=0) B O) λG v r=>by let⟨p,_,rfl,_⟩:=r;rfl);cases C with
     | load r e g=>show gN "call_load" (C:=r_) m (⟨st,d,J l,J s⟩,r) ⟨e,g⟩ (λq=>⟨q,(qG ⟨st,d,J l,J s⟩ q r λh=>nomatch h).1,λG v z=>(qG ⟨st,d,J l,J s⟩ q r λh=>nomatch h).2▸z⟩)
     | stand r e=>show gN "call_stand" (C:=zk) m (st,d,l,J s,r) e (λ_=>⟨d,(ve st d l (J s) r).1,λG v z=>(ve st d l (J s) r).2▸z⟩)
     | told=>show jk "call_told" (C:=GD) m (st,d,l,s) (hy:=i _ _ _) ⟨o,w⟩ (λ_=>⟨d,B,λG v z=>z⟩)
     | near a=>show gN "call_near" (C:=vc) m (st,d,l,J s,a) o (λ_=>⟨d,B,λG v z=>z⟩)
     | run r e=>show jk "call_run" (C:=HR) m (st,d,l,s,r) (hy:=i _ _ _) ⟨o,w,e⟩ (λ_=>⟨d,(JP st d l s r).1,λG v z=>(JP st d l s r).2▸z⟩)
     | fetch r j t e g u=>show jk "call_fetch" (C:=FL) m (st,d,l,s,r,j,t) (hy:=i _ _ _) ⟨o,w,e,g,u⟩ (λ_=>⟨d,B,λG v z=>z⟩)
     | go r j t e g u=>show jk "call_go" (C:=Jr) m (st,d,l,s,r,j,t) (hy:=i _ _ _) ⟨o,w,e,g,u⟩ (λ_=>⟨d,(LM st d l s r j t).1,λG v z=>(LM st d l s r j t).2▸z⟩)
     | firsts a r j e g=>show jk "call_firsts" (C:=Fj) m (st,d,l,s,a,r,j) (hy:=i _ _ _) ⟨o,w,e,g⟩ (λ_=>⟨d,B,λG v z=>z⟩)
     | ways a r j e g=>show jk "call_ways" (C:=GC) m (st,d,l,s,a,r,j) (hy:=i _ _ _) ⟨o,w,e,g⟩ (λ_=>⟨d,B,λG v z=>z⟩)
     | weigh a r j t e g u=>show jk "call_weigh" (C:=FJ) m (st,d,l,s,a,r,j,t) (hy:=i _ _ _) ⟨o,w,e,g,u⟩ (λ_=>⟨d,B,λG v z=>z⟩)
     | all_ r j e g=>show jk "call_all" (C:=HU) m (st,d,l,s,r,j) (hy:=i _ _ _) ⟨o,w,e,g⟩ (λ_=>⟨d,B,λG v z=>z⟩)
     | nearest r j e g=>show jk "call_nearest" (C:=EN) m (st,d,l,s,r,j) (hy:=i _ _ _) ⟨o,w,e,g⟩ (λ_=>⟨d,B,λG v z=>z⟩)
     | map_ a=>show jk "call_map" (C:=HS) m (st,d,l,s,a) (hy:=i _ _ _) ⟨o,w⟩ (λ_=>⟨d,B,λG v z=>z⟩)
     | price a r j t e g u=>show gN "call_price" (C:=zl) m (st,d,l,J s,a,r,j,t) ⟨o,e,g,u⟩ (λ_=>⟨d,B,λG v z=>z⟩)
     | spread a r j e g=>show gN "call_spread" (C:=yU) m (st,d,l,J s,a,r,j) ⟨o,e,g⟩ (λ_=>⟨d,B,λG v z=>z⟩)
     | hardest a r j e g=>show gN "call_hardest" (C:=yF) m (st,d,l,J s,a,r,j) ⟨o,e,g⟩ (λ_=>⟨d,B,λG v z=>z⟩)
     | stuck a r j e g=>show gN "call_stuck" (C:=zj) m (st,d,l,J s,a,r,j) ⟨o,e,g⟩ (λ_=>⟨d,B,λG v z=>z⟩)
     | cell a b r j e g=>show gN "call_cell" (C:=zE) m (st,d,l,J s,a,b,r,j) ⟨o,e,g⟩ (λ_=>⟨d,B,λG v z=>z⟩)
     | known a r j e g=>show jk "call_known" (C:=FK) m (st,d,l,s,a,r,j) (hy:=i _ _ _) ⟨o,w,e,g⟩ (λ_=>⟨d,B,λG v z=>z⟩)
     | check a b r j t e g u=>show jk "call_check" (C:=FN) m (st,d,l,s,a,b,r,j,t) (hy:=i _ _ _) ⟨o,w,e,g,u⟩ (λ_=>⟨d,B,λG v z=>z⟩)
     | shut a r j t e g u=>show jk "call_shut" (C:=GF) m (st,d,l,s,a,r,j,t) (hy:=i _ _ _) ⟨o,w,e,g,u⟩ (λ_=>⟨d,B,λG v z=>z⟩)
end
end
def IH(f:∀x∈t,x<256)(h:iL (toB t)= .ok P):Co P:=by
 let⟨g,a,u,i,j⟩:=Hk f;cases g with
 | nil=>rw[i B] at h;cases h
 | cons b l=>
   let⟨k,m⟩:=j b l B;cases c:C2 b with
   | false=>rw[k c] at h;cases h
   | true=>
     let⟨n,o⟩:=m c;cases d:A3 1 [] l with
     | error e=>rw[n e d] at h;cases h
     | ok F=>
       let⟨_,p⟩:=o F d
       classical
       let⟨q,r⟩:=p (decide (F8 (v8 F))) λ_=>∅;cases s:A4 F a (decide (F8 (v8 F)))=0
       ·cbv
       ·rw[q s] at h;cases h
def Lz(h:Co P):bW P:=by show⟨⟨J_ P,by rw[i_];show h.most,by rw[i_];show h.some⟩,i_ P,λc a=> ?_,h.mB.2⟩;rw[i_];show dR.1 (cz.1 a).1
def VY(j:ab)(a:F7 x)(z:eK k A c):F7 (w6 x j (step (z6 x) c).1):=by
 let⟨st,C,D,d⟩:=x;cases D with
 | none=>
   cases d with
   | some s=>show a.elim
   | none=>
     cases z with
     | load r p h=>
       change F7 (w6 _ j (match iL (toB r)with| .error e=>(ah, [-6,(e.1:Int),(e.2:Int)])| .ok P=>(J ⟨P,ah⟩,cC [P.count,⇑P.cabins]):uF×Y Int).1);cases m:iL (toB r)with
       | error e=>show cM
       | ok P=>show Lz (IH h m)
     | _=>show cM
 | some P=>
   let n:bW P:=by cases d with| none=>show a| some s=>show a.1
   have f:∀r:LN0,(∀b∈r,b<256)->F7 (w6 ⟨st,C,J P,d⟩ j (step (J ⟨P,d⟩) (.load (toB r))).1):=λr h=>by
    change F7 (w6 _ j (match iL (toB r)with| .error e=>(J ⟨P,d⟩, [-6,(e.1:Int),(e.2:Int)])| .ok P=>(J ⟨P,ah⟩,cC [P.count,⇑P.cabins]):uF×Y Int).1);cases m:iL (toB r)with
    | error e=>show a
    | ok P=>show Lz (IH h m)
   have q:∀r:LN0,F7 (w6 ⟨st,C,J P,d⟩ j (step (J ⟨P,d⟩) (.stand r)).1):=λr=>by
    let w:=VX (so:=d) (r:=r) n λs E=>by subst E;show a.2
    have v:step (J ⟨P,d⟩) (.stand r)=match iX P.count r with
     | some k=>(J ⟨P,d⟩,noAt 6 k)
     | none=>(J ⟨P,J r⟩,cC []):=B
    rw[v];delta F1 at w;cases H:iX P.count r with
    | some k=>show a
    | none=>rw[H] at w;show⟨n,w r B⟩
   cases d with
   | none=>
     cases z with
     | load r p h=>show f r h
     | stand r p=>show q r
     | _=>show n
   | some s=>
     cases z with
     | load r p h=>show f r h
     | stand r p=>show q r
     | run r p=>
       have v:step (J ⟨P,J s⟩) (.run r)=match mO P.count r with
        | none=>(J ⟨P,J s⟩,no 4)
        | some l=>match zM P 0 s l with
          | .error i=>(J ⟨P,J s⟩,noAt 5 i)
          | .ok u=>(J ⟨P,J u⟩,cC [⇑l]):=B
       let g:=aay (r:=r) n a.2;change F7 (w6 _ j (step (J ⟨P,J s⟩) (.run r)).1);rw[v];delta C6 at g;cases m:mO P.count r with
       | none=>show a
       | some l=>
         rw[m] at g;simp only at g⊢;cases I:zM P 0 s l with
         | error i=>show a
         | ok u=>rw[I] at g;show⟨n,g⟩
     | go r o t p h w=>
       have g:=abX (l:=r) (g:=o) (f:=t) n a.2;let v:step (J ⟨P,J s⟩) (.go r o t)=if fP s r=ak then(J ⟨P,J s⟩,no 3)else if gT P.count (eL s) o t=ak then(J ⟨P,J s⟩,no 4)else(match mN P s r o t with
        | none=>(J ⟨P,J s⟩,no 5)
        | some y=>(J ⟨P,J (yG P s y)⟩,cC (⇑y::Q_ P (yG P s y) r o t))):=B
       change F7 (w6 _ j (step (J ⟨P,J s⟩) (.go r o t)).1);rw[v];delta B3 at g;split
       ·show a
       ·rename_i L;rw[aj L] at g;split
        ·show a
        ·rename_i Q;rw[aj Q] at g;cases m:mN P s r o t with
         | none=>show a
         | some y=>rw[m] at g;show⟨n,g⟩
     | _=>show a
def Ve(x:jl)(a:ab)(d:uF):z6 (w6 x a d)=d:=by
 cases d with
 | none=>rfl
 | some y=>rfl
section
section
variable {Φ:Out->Prop}
def J8:Enc Item:=⟨λG v x=>match x with| .inl n=>b0.rep G v n| .inr l=>aB.rep G v l,λ{G b v a} h r=>by cases a with| inl n=>show b0.mono h r| inr l=>show aB.mono h r⟩
def Zu{c:Y V}{b:Y Item}(d:aU (J8.rep G) c b):Sl G (c.map J) (b.map aa4):=by
 induction d with
 | nil=>show .nil
 | @cons _ a _ _ r t e=>
   show .cons ?_ e;cases a with
   | inl n=>show r
   | inr l=>show r
def N.args(h:N M U t (eList J8) a):N M U t (D9 (a.map aa4)) ():=N.pT h λG v ⟨p,b,c,d,e⟩=>⟨p,b,c,d,Zu e⟩
def D1(K:aG):Enc LN0:=⟨λG v l=>∃p,v= .ref p/\SqL K G p (l.map λ(n:Nat)=>V.int (n:Int)),λs ⟨p,a,b⟩=>⟨p,a,L2.c5.seq s b⟩⟩
def ZH(a:N M U b (D1 K) l):N M U (j5 (R7 K) (b8 b c7)) b0 ⇑l:=
 fL a λG H x Q s w ⟨p,d,c⟩ k=>⟨p,_,∅, .inl (L2.c5.seq s c),k _ G H (To.refl s w) (by rw[aF];rfl)⟩
def ZT(h:n4 l i=J b):n4 (l.map λ(n:Nat)=>V.int (n:Int)) i=J (V.int (b:Int)):=by
 delta n4 at h⊢;rw[aF];cases a:G5 ⇑l i with
 | none=>rw[a] at h;cases h
 | some j=>rw[a] at h;erw[Option.bind_some] at h⊢;rw[cP,h];rfl
def M_(a:N M U c (D1 K) l)(d:N M U e b5 i)(f:n4 l i=J b):N M U (d9 (E4 K) c e) b0 b:=
 f_ a d λG H x y Q s w ⟨p,g,h⟩ j k=>⟨p,_,i,_,g,j,L2.c5.seq s h,ZT f,k _ G H (To.refl s w) B⟩
def KN(l:LN0)(lo a:az Int):C9 (l.map λ(n:Nat)=>V.int (n:Int)) lo a=(cut l lo a).map λ(n:Nat)=>V.int (n:Int):=by delta C9 cut;rw[aF,Ak,JC]
def abk{tl f:TO}{l:LN0}{lo d:az Int}(g:N M U h (D1 K) l)(i:I0 M U tl lo)(j:I0 M U f d):N M U (S8 (S4 K) h tl f) aB (cut l lo d):=λG H e s w z Q k=>
 g G H e s w z _ λv m o a r=>i m o e a.s a.w (z.mono a.g) _ λt u b=>j t u e b.s b.w ((z.mono a.g).mono b.g) _ λC D c=>by let⟨p,x,y⟩:=(D1 K).mono (b.g.trans c.g) r;show⟨p,_,x,L2.c5.seq c.s y,λq A=> ?_⟩;rw[KN];let n:=To.new c.s c.w A (.lst ((cut l lo d).map λ(n:Nat)=>V.int (n:Int)));show k _ _ _ (((a.trans b).trans c).trans n) (oU.2 ⟨q,B,bg⟩)
def IX:∀l:LN0,aU (J8.rep G) (l.map λ(n:Nat)=>V.int (n:Int)) (l.map (gB:Nat->Item))
 | []=> .nil
 | a::l=> .cons B (IX l)
def aaS{tl e:TO}{l:LN0}{lo f:az Int}(g:N M U h (D1 K) l)(i:I0 M U tl lo)(j:I0 M U e f):r8 M U (S8 (S4 K) h tl e) λq=>c8 q J8 ((cut l lo f).map .inl):=λG H d s w z Q k=>
 g G H d s w z _ λv m n a o=>i m n d a.s a.w (z.mono a.g) _ λr t b=>j r t d b.s b.w ((z.mono a.g).mono b.g) _ λA C c=>by let⟨p,u,x⟩:=(D1 K).mono (b.g.trans c.g) o;show⟨p,_,u,L2.c5.seq c.s x,λq y=> ?_⟩;rw[KN];show k q _ _ (((a.trans b).trans c).trans (To.newList c.s c.w y (IX _)))
def D7(C:LN0):Nat->Nat->az (LL0×Nat)
 | 0,i=>J ([],i)
 | k+1,i=>if i<⇑C/\i+1+C.getD i 0<= ⇑C then(D7 C k (i+1+C.getD i 0)).map λx=>((C.drop (i+1)).take (C.getD i 0)::x.1,x.2)else ah
def oS:∀{k i:Nat} {a:LL0} {e:Nat},D7 C k i=J (a,e)-> ⇑a=k/\e=i+k+(a.map kY).sum/\(i<= ⇑C->e<= ⇑C)
 | 0,i,a,e,h=>by cases h;show⟨B,B,id⟩
 | k+1,i,a,e,h=>by
   rw[D7] at h;split at h
   ·rename_i f;let⟨x,g,j⟩:=qd.1 h;let⟨b,c⟩:=x;cases j;let⟨n,d,l⟩:=oS g;show⟨∅,?_,λ_=>l f.2⟩;let d:c=i+1+C.getD i 0+k+(b.map kY).sum:=d;change c=i+(k+1)+(((C.drop (i+1)).take (C.getD i 0)::b).map kY).sum;let m: ⇑((C.drop (i+1)).take (C.getD i 0))=C.getD i 0:=⋯;rw[bp,jX,m];lk
   ·cases h
def z9(C:LN0)(b a:Nat)(c:LL0):Y Item:=((C.drop b).take a).map .inl++c.map .inr
abbrev QO:LN0×Nat×Nat×Nat×LL0×Nat->Ct:=λ(a,c,d,g,h)=>P1 [.im (D1 Z.K) a, .im b0 c, .im b0 d, .im b0 g] (c+d<= ⇑a/\D7 a g (c+d)=J h/\ ⇑a<=100000/\g<=100) (eList J8) (z9 a c d h.1)
instance [T:Tx Z]:bt "read_given" 1 (b7 QO):=by
 show bC 108 ["calls","begin","number_count","row_count","at","given","end"] 4 (λ_ nd hr=>aO (bw fJ W W)∘aO (kc (lX (K:=Z.K) B) W (iN W) (iN W))∘xD (bI gH (cb W) (bw fJ W W)) (aO (bw fJ (bw fJ W ai) (aI W W))∘fh (eX (K:=Z.K) B eB kE kD kb W (ay (kc (lX (K:=Z.K) B) W (iN (bw fJ W ai)) (iN W))))∘bP (aO W))∘pR W) ?_;ext⟨C,b,a,c,g,e⟩ E;let⟨t,d,hC,H⟩:=E;let t:b+a<= ⇑C:=t;let d:D7 C c (b+a)=J (g,e):=d;let n:=(oS d).1;let u: ⇑((C.drop b).take a)=a:=⋯;show aE (iQ (N.nat (n:=b+a) (fj (aq (O B)) (aq (O B))) ∅) ?_);show aE (eh (aaS (O B) (iq (aq (O B))) (iq (aq (O B)))) λp=> ?_);rw[BP,show b+a-b=a by cbv];show aE (vP (λm o q=>∃j i,o= [c8 p J8 (z9 C b a (g.take j))]/\q= [.im (D1 Z.K) C, .im b0 b, .im b0 a, .im b0 c, .im b0 i, .im b6 p, .no]/\D7 C (c-j) i=J (g.drop j,e)/\j<=c/\m=c-j/\i<= ⇑C) ⟨_,0,b+a,?_,B,d,eT _,B,t⟩ ?_)
 ·delta z9;rw[kS,nc,eS];rfl
 ext m o q ⟨j,i,rfl,rfl,f,hj,rfl,hi⟩;let w: ⇑(z9 C b a (g.take j))=a+j:=by delta z9;rw[dA,aF,aF,u,gw,n];cbv
 show⟨decide (a+j<a+c),b4.eq (bh (fz (aq (ZI (j:=0) B (O B))) (fj (aq (O B)) (aq (O B))))) ?_,λh=> ?_,λk=> ?_⟩
 ·cbv
 ·have h:j<c:=by have:=eN h;cbv
  rw[show c-j=(c-(j+1))+1 by grind,D7] at f;split at f
  ·rename_i A;let⟨x,I,h2⟩:=qd.1 f;let⟨s,L⟩:=x;let D:g.drop j=(C.drop (i+1)).take (C.getD i 0)::s:=⋯;let Q:L=e:=⋯;let y:g[j]? =J ((C.drop (i+1)).take (C.getD i 0)):=by have:=congrArg (λl=>l[0]?) D;simpa using this
   let z:g.drop (j+1)=s:=by rw[<-zP,D];rfl
   show aE (iQ (N.nat (n:=i+1+C.getD i 0) (fj (fj (aq (O B)) aw) (aq (M_ (O B) (aq (O B)) (at_getD (d:=0) A.1)))) ∅) ?_);show aE (lT (j:=0) (b:= .inr ((C.drop (i+1)).take (C.getD i 0))) (O B) B (N.pT (b:=(C.drop (i+1)).take (C.getD i 0)) (e:=aB) (N.eq (abk (O B) (iq (N.eq (fj (aq (O B)) aw) (show _=((i+1:Nat):Int) by cbv))) (iq (aq (O B)))) ?_) λG v r=>r) ?_ ?_)
   ·rw[BP];congr 1;simp
   ·rw[w,bM];lk
   ·show iQ (O B) ⟨c-(j+1), [.im (D1 Z.K) C, .im b0 b, .im b0 a, .im b0 c, .im b0 (i+1+C.getD i 0), .im b6 p, .no],⋯, .eq (.eq (.eq (.eq (.eq (.eq (.no .nil)))))),j+1,i+1+C.getD i 0,?_,B,?_,h,B,A.2⟩
    ·change [c8 p J8 (z9 C b a (g.take j)++ [.inr ((C.drop (i+1)).take (C.getD i 0))])]=_;congr 2;delta z9;rw[GG,y,fB,qk];rfl
    ·rw[I,z,Q]
  ·cases f
 ·let k:j=c:=by have:=gR k;lk
  subst k;rw[<-n,fe];show gr (j:=0) (i:=5) B B<| aA (O B) ⟨(),B,λG v r=>r⟩
def J7:Item->Nat
 | .inl _=>1
 | .inr l=>1+⇑l
abbrev Ph(x:Y Item):Ct:=P1 [.im (eList J8) x] (⇑x<=100000) b0 ((x.map J7).sum)
def Na(e:N M U f J8 x):N M U (j5 (ac2 K) (b8 f (b8 (j8 (.ty "list")) c7))) e7 x.isRight:=λG H g s w l Q k=>e G H g s w l _ λv a c b d=>by
 cases x with
 | inl n=>cases(show v=_ from d);show⟨_,"list",_,ak,B, .int _,B,k _ a c b B⟩
 | inr m=>let⟨p,i,rfl,h,_⟩:=(show aB.rep a v m from d);show⟨_,"list",_,aa,B, .lst (b.s _ _ h),B,k _ a c b B⟩
instance [T:Tx Z]:bt "numbers_taken" 1 (b7 Ph):=by
 show bC 109 ["given","part"] 1 (λ_ c d=>pR (dj (Mc (K:=Z.K) B B) (ay (dg [1] c (cf W) (λ_=>aL) (λ_=>d_) (λ_=>(il (b_ (dj (Zv (K:=Z.K) B) (bc W (YM (v:= .ty "list") (u:= .type "list") B gc (by decide+kernel) B)))) (bw fJ ai (cb W)) ai)))))) ?_;ext a b;let b: ⇑a<=100000:=b;show aA (N.nat (Ce (ei (bX (O B)) (λx=>(J7 x:Int)) (λx e=>⟨_,aJ ∅,?_⟩) (cN b))) ?_) ⟨(),B,λG v r=>r⟩
 ·cases x with
  | inl n=>show N.eq (gs (c:=ak) (x:=0) (eI (Na (x:= .inl n) (O B))) (λh=>nomatch h) (λ_=>aw)) B
  | inr l=>show N.eq (gs (c:=aa) (y:=0) (eI (Na (x:= .inr l) (O B))) (λ_=>fj aw (aq (bU (e:=b0) (l:=l) (N.pT (O B) λG v r=>r)))) (λh=>nomatch h)) (by change(1:Int)+_=((1+⇑l:Nat):Int);cbv)
 ·have:(a.map λx=>(J7 x:Int))=(a.map J7).map λ(n:Nat)=>(n:Int):=by rw[bS];rfl
  rw[this,Ap]
end
end
abbrev aP(l:LN0):Y Int:=l.map λ(n:Nat)=>(n:Int)
def cY(l:LN0):cU (aP l)=l:=by delta cU aP;rw[bS];show(iV λ(n:Nat) _=>fo n).trans (vK _)
def Xx(l:LN0):Er (aP l)=toB l:=by delta Er aP toB;rw[bS];show iV λ(n:Nat) _=>⋯
def Bb{p:Nat}{x:NN0}(h:shape (p:Int)=J x):p<=20:=by
 cases a:p<=20
 ·show a
 ·exfalso;delta shape at h;rw[aj ⋯,aj ⋯,aj ⋯,aj ⋯,aj ⋯,aj ⋯,aj ⋯,aj ⋯,aj ⋯,aj ⋯,aj ⋯,aj ⋯,aj ⋯,aj ⋯,aj ⋯,aj ⋯,aj ⋯,aj ⋯,aj ⋯,aj ⋯,aj ⋯] at h;cases h
def len0{a:Type}{l:Y a}(h:0=⇑l):l= []:=Ez.1 h.symm
def iR{b:Type}{l:Y b}(h:1=⇑l):∃a,l= [a]:=List.length_eq_one_iff.1 h.symm
def kq{c:Type}{l:Y c}(h:2=⇑l):∃a b,l= [a,b]:=by
 match l,h with
 | [a,b],_=>show⟨a,b,B⟩
def rm{d:Type}{l:Y d}(h:3=⇑l):∃a b c,l= [a,b,c]:=by
 match l,h with
 | [a,b,c],_=>show⟨a,b,c,B⟩
def Vq{l:Y (Y Int)}(h:(l.all λr=>decide (⇑r<=1000) && r.all Pn)=aa){r:LN0}(a:aP r∈l): ⇑r<=1000:=by lk
def Z5(p:Nat)(a:LN0)(b:LL0):Y (Y Int):=aP (p::a)::b.map aP
def gI{L:Y (Y Int)}(e:uA L=((WqgardNeutral.callOf L).isSome && (L.all λr=>decide (⇑r<=1000) && r.all Pn)))(a:uA L=aa)(r:LN0)(b:aP r∈L): ⇑r<=1000:=Vq (Fq.1 (e▸a)).2 b
def abC:∀{p:Nat} {g:List Nat} {i:LL0},shape (p:Int)=some (⇑g,⇑i)->uA (whole (Z5 p g i))=true->∃c,eK p (g.map .inl++i.map .inr) c/\∀s,ED s (whole (Z5 p g i))=uK s c:=by
 ext p g i h d;let j:=Bb h
 match p,h,d,j with
 | 0,h,d,_=>
   obtain⟨e,f⟩:0=⇑g/\1=⇑i:=cq (bu h);obtain rfl:=len0 e;let⟨r,rfl⟩:=iR f;let d:(decide (⇑(aP r)<=400) && (aP r).all Ql)=true:=d;rw[cn,cj,aF,eQ] at d;show⟨_, .load r d.1 λb k=> ?_,λs=> ?_⟩
   ·have:=d.2 (b:Int) (a_.2 ⟨b,k,rfl⟩);delta Ql at this;rw[cn,cj,cj] at this;lk
   ·change uK s (.load (Er (aP r)))=_;rw[Xx]
 | 1,h,d,_=>let⟨e,f⟩:=cq (bu h);obtain rfl:=len0 e;let⟨r,rfl⟩:=iR f;let H:=gI (L:= [[1],aP r]) rfl d;show⟨.stand (cU (aP r)),?_,λ_=>rfl⟩;rw[cY];show .stand r (H r ⋯)
 | 2,h,d,_=>let⟨e,f⟩:=cq (bu h);obtain rfl:=len0 e;obtain rfl:=len0 f;show⟨_, .told,λ_=>rfl⟩
 | 3,h,d,_=>let⟨e,f⟩:=cq (bu h);let⟨a,rfl⟩:=iR e;obtain rfl:=len0 f;show⟨_, .near a,λ_=>rfl⟩
 | 4,h,d,_=>let⟨e,f⟩:=cq (bu h);obtain rfl:=len0 e;let⟨r,rfl⟩:=iR f;let H:=gI (L:= [[4],aP r]) rfl d;show⟨.run (cU (aP r)),?_,λ_=>rfl⟩;rw[cY];show .run r (H r ∅)
 | 5,h,d,_=>let⟨e,f⟩:=cq (bu h);obtain rfl:=len0 e;let⟨r,s,t,rfl⟩:=rm f;let H:=gI (L:= [[5],aP r,aP s,aP t]) rfl d;show⟨.fetch (cU (aP r)) (cU (aP s)) (cU (aP t)),?_,λ_=>rfl⟩;rw[cY,cY,cY];show .fetch r s t (H r ∅) (H s ⋯) (H t ⋯)
 | 6,h,d,_=>let⟨e,f⟩:=cq (bu h);obtain rfl:=len0 e;let⟨r,s,t,rfl⟩:=rm f;let H:=gI (L:= [[6],aP r,aP s,aP t]) rfl d;show⟨.go (cU (aP r)) (cU (aP s)) (cU (aP t)),?_,λ_=>rfl⟩;rw[cY,cY,cY];show .go r s t (H r ∅) (H s ⋯) (H t ⋯)
 | 7,h,d,_=>let⟨e,f⟩:=cq (bu h);let⟨a,rfl⟩:=iR e;let⟨r,s,rfl⟩:=kq f;let H:=gI (L:= [[7,(a:Int)],aP r,aP s]) rfl d;show⟨.firsts a (cU (aP r)) (cU (aP s)),?_,λ_=>rfl⟩;rw[cY,cY];show .firsts a r s (H r ⋯) (H s ⋯)
 | 8,h,d,_=>let⟨e,f⟩:=cq (bu h);let⟨a,rfl⟩:=iR e;let⟨r,s,rfl⟩:=kq f;let H:=gI (L:= [[8,(a:Int)],aP r,aP s]) rfl d;show⟨.ways a (cU (aP r)) (cU (aP s)),?_,λ_=>rfl⟩;rw[cY,cY];show .ways a r s (H r ⋯) (H s ⋯)
 | 9,h,d,_=>let⟨e,f⟩:=cq (bu h);let⟨a,rfl⟩:=iR e;let⟨r,s,t,rfl⟩:=rm f;let H:=gI (L:= [[9,(a:Int)],aP r,aP s,aP t]) rfl d;show⟨.weigh a (cU (aP r)) (cU (aP s)) (cU (aP t)),?_,λ_=>rfl⟩;rw[cY,cY,cY];show .weigh a r s t (H r ⋯) (H s ⋯) (H t ⋯)
 | 10,h,d,_=>let⟨e,f⟩:=cq (bu h);obtain rfl:=len0 e;let⟨r,s,rfl⟩:=kq f;let H:=gI (L:= [[10],aP r,aP s]) rfl d;show⟨.all_ (cU (aP r)) (cU (aP s)),?_,λ_=>rfl⟩;rw[cY,cY];show .all_ r s (H r ∅) (H s ⋯)
 | 11,h,d,_=>let⟨e,f⟩:=cq (bu h);obtain rfl:=len0 e;let⟨r,s,rfl⟩:=kq f;let H:=gI (L:= [[11],aP r,aP s]) rfl d;show⟨.nearest (cU (aP r)) (cU (aP s)),?_,λ_=>rfl⟩;rw[cY,cY];show .nearest r s (H r ∅) (H s ⋯)
 | 12,h,d,_=>let⟨e,f⟩:=cq (bu h);let⟨a,rfl⟩:=iR e;obtain rfl:=len0 f;show⟨_, .map_ a,λ_=>rfl⟩
 | 13,h,d,_=>let⟨e,f⟩:=cq (bu h);let⟨a,rfl⟩:=iR e;let⟨r,s,t,rfl⟩:=rm f;let H:=gI (L:= [[13,(a:Int)],aP r,aP s,aP t]) rfl d;show⟨.price a (cU (aP r)) (cU (aP s)) (cU (aP t)),?_,λ_=>rfl⟩;rw[cY,cY,cY];show .price a r s t (H r ⋯) (H s ⋯) (H t ⋯)
 | 14,h,d,_=>let⟨e,f⟩:=cq (bu h);let⟨a,rfl⟩:=iR e;let⟨r,s,rfl⟩:=kq f;let H:=gI (L:= [[14,(a:Int)],aP r,aP s]) rfl d;show⟨.spread a (cU (aP r)) (cU (aP s)),?_,λ_=>rfl⟩;rw[cY,cY];show .spread a r s (H r ⋯) (H s ⋯)
 | 15,h,d,_=>let⟨e,f⟩:=cq (bu h);let⟨a,rfl⟩:=iR e;let⟨r,s,rfl⟩:=kq f;let H:=gI (L:= [[15,(a:Int)],aP r,aP s]) rfl d;show⟨.hardest a (cU (aP r)) (cU (aP s)),?_,λ_=>rfl⟩;rw[cY,cY];show .hardest a r s (H r ⋯) (H s ⋯)
 | 16,h,d,_=>let⟨e,f⟩:=cq (bu h);let⟨a,rfl⟩:=iR e;let⟨r,s,rfl⟩:=kq f;let H:=gI (L:= [[16,(a:Int)],aP r,aP s]) rfl d;show⟨.stuck a (cU (aP r)) (cU (aP s)),?_,λ_=>rfl⟩;rw[cY,cY];show .stuck a r s (H r ⋯) (H s ⋯)
 | 17,h,d,_=>let⟨e,f⟩:=cq (bu h);let⟨a,b,rfl⟩:=kq e;let⟨r,s,rfl⟩:=kq f;let H:=gI (L:= [[17,(a:Int),(b:Int)],aP r,aP s]) rfl d;show⟨.cell a b (cU (aP r)) (cU (aP s)),?_,λ_=>rfl⟩;rw[cY,cY];show .cell a b r s (H r ⋯) (H s ⋯)
 | 18,h,d,_=>let⟨e,f⟩:=cq (bu h);let⟨a,rfl⟩:=iR e;let⟨r,s,rfl⟩:=kq f;let H:=gI (L:= [[18,(a:Int)],aP r,aP s]) rfl d;show⟨.known a (cU (aP r)) (cU (aP s)),?_,λ_=>rfl⟩;rw[cY,cY];show .known a r s (H r ⋯) (H s ⋯)
 | 19,h,d,_=>let⟨e,f⟩:=cq (bu h);let⟨a,b,rfl⟩:=kq e;let⟨r,s,t,rfl⟩:=rm f;let H:=gI (L:= [[19,(a:Int),(b:Int)],aP r,aP s,aP t]) rfl d;show⟨.check a b (cU (aP r)) (cU (aP s)) (cU (aP t)),?_,λ_=>rfl⟩;rw[cY,cY,cY];show .check a b r s t (H r ⋯) (H s ⋯) (H t ⋯)
 | 20,h,d,_=>let⟨e,f⟩:=cq (bu h);let⟨a,rfl⟩:=iR e;let⟨r,s,t,rfl⟩:=rm f;let H:=gI (L:= [[20,(a:Int)],aP r,aP s,aP t]) rfl d;show⟨.shut a (cU (aP r)) (cU (aP s)) (cU (aP t)),?_,λ_=>rfl⟩;rw[cY,cY,cY];show .shut a r s t (H r ⋯) (H s ⋯) (H t ⋯)
def ZR [T:Tx Z]{p n k:Nat}(h:shape (p:Int)=J (n,k)):∃b x,Q0 Z.K Z.mg Z.pV p n k b x:=by
 let g:=Bb h;let d:∀p:Fin 21,∃c∈cals,c.1=p.1/\shape (p.1:Int)=J (c.2.1,c.2.2.1):=by decide+kernel
 let⟨c,f,e,a⟩:=d ⟨p,∅⟩;dsimp only at e a;rw[a] at h;let⟨rfl,rfl⟩:=cq (bu h);subst e;show⟨_,_,T.hC c f⟩
def Lx{C:LN0}:∀{k i:Nat} {a:Y (Y Int)} {t:Y Int},AO k ((aP C).drop i)=J (a,t)->∃b e,D7 C k i=J (b,e)/\a=b.map aP/\t=(aP C).drop e
 | 0,i,a,t,h=>by cases h;show⟨[],i,B,B,B⟩
 | k+1,i,a,t,h=>by
   rw[AO] at h;cases d:i<⇑C
   ·have f:(aP C).drop i=(C.getD i 0:Int)::(aP C).drop (i+1):=by rw[lB ∅,XX,dJ,cW d];rfl
    rw[f,PyFlat.row] at h;cases g:i+1+C.getD i 0<= ⇑C
    ·rw[ar ⟨∅,⋯⟩,fo] at h;simp only at h;rw[zP] at h;cases c:AO k ((aP C).drop (i+1+C.getD i 0))with
     | none=>rw[c] at h;cases h
     | some y=>
       let⟨o,u⟩:=y;rw[c] at h;cases h;let⟨b,e,j,l,m⟩:=Lx c;show⟨(C.drop (i+1)).take (C.getD i 0)::b,e,?_,?_,m⟩
       ·rw[D7,ar ⟨d,g⟩,j];rfl
       ·rw[l,bp];change _=((C.drop (i+1)).take (C.getD i 0)).map (λ(n:Nat)=>(n:Int))::_;rw[Ak,JC]
    ·rw[aj ⋯] at h;cases h
   ·rw[rG ∅] at h;cases h
def Xw{C:LN0}{f i:Nat}{g:Y (Y (Y Int))}(h:qA shape f ((aP C).drop i)=J g)(o:i<⇑C):∃j n k b e a,f=j+1/\shape (C.getD i 0:Nat)=J (n,k)/\i+1+n<= ⇑C/\D7 C k (i+1+n)=J (b,e)/\g=Z5 (C.getD i 0) ((C.drop (i+1)).take n) b::a/\qA shape j ((aP C).drop e)=J a:=by
 let p:(aP C).drop i=(C.getD i 0:Int)::(aP C).drop (i+1):=by rw[lB ∅,XX,dJ,cW o];rfl
 rw[p] at h;cases f with
 | zero=>cases h
 | succ f=>
   rw[qA,PyFlat.call] at h;cases l:shape (C.getD i 0:Nat)with
   | none=>rw[l] at h;cases h
   | some y=>
     let⟨n,k⟩:=y;rw[l] at h;simp only at h;cases c: ⇑((aP C).drop (i+1))<n
     ·rw[ar c] at h;cases h
     ·rw[aj c,zP] at h;rw[zo,aF] at c;cases d:AO k ((aP C).drop (i+1+n))with
      | none=>rw[d] at h;cases h
      | some y=>
        let⟨s,u⟩:=y;rw[d] at h;simp only at h;let⟨b,e,q,r,t⟩:=Lx d;cases m:qA shape f u with
        | none=>rw[m] at h;cases h
        | some a=>rw[m] at h;cases h;show⟨f,n,k,b,e,a,B,B,⋯,q,?_,∅⟩;rw[r];change _=(((C.getD i 0:Int)::((C.drop (i+1)).take n).map λ(n:Nat)=>(n:Int))::b.map aP)::a;rw[Ak,JC]
section
section
variable {Φ:Out->Prop}
def Yl(i:ab->r)(d:l7 M U e f)(g:∀x,(Ci (i x)).U= .im b6 x::f)(h:∀x,(Ci (i x)).pre)(a:M=κs++κf)(m:∀x,(Ci (i x)).M=κs++ [rObj x C []])(n:∀x G v b,(Ci (i x)).e.rep G v b->v= .bO)(q:∀x c,Φ (.nx ((Ci (i x)).kq0 c++κf) (U.set j (.im b6 x)))):b9 M U (w8 (B9 C (b7 Ci) [] E0 e) (p9 j)) Φ:=λG H u s w l D k=>MR i d g h a m n s w l λx c o p t=>k _ (q x c) o p _ t ((l.mono t.g).set B j)
def Ru{p n k:Nat}(h:shape (p:Int)=J (n,k)):n<=2/\k<=3:=by
 let a:=Bb h
 match p,h,a with
 | 0,h,_=>let⟨rfl,rfl⟩:0=n/\1=k:=cq (bu h);decide
 | 1,h,_=>let⟨rfl,rfl⟩:0=n/\1=k:=cq (bu h);decide
 | 2,h,_=>let⟨rfl,rfl⟩:0=n/\0=k:=cq (bu h);decide
 | 3,h,_=>let⟨rfl,rfl⟩:1=n/\0=k:=cq (bu h);decide
 | 4,h,_=>let⟨rfl,rfl⟩:0=n/\1=k:=cq (bu h);decide
 | 5,h,_=>let⟨rfl,rfl⟩:0=n/\3=k:=cq (bu h);decide
 | 6,h,_=>let⟨rfl,rfl⟩:0=n/\3=k:=cq (bu h);decide
 | 7,h,_=>let⟨rfl,rfl⟩:1=n/\2=k:=cq (bu h);decide
 | 8,h,_=>let⟨rfl,rfl⟩:1=n/\2=k:=cq (bu h);decide
 | 9,h,_=>let⟨rfl,rfl⟩:1=n/\3=k:=cq (bu h);decide
 | 10,h,_=>let⟨rfl,rfl⟩:0=n/\2=k:=cq (bu h);decide
 | 11,h,_=>let⟨rfl,rfl⟩:0=n/\2=k:=cq (bu h);decide
 | 12,h,_=>let⟨rfl,rfl⟩:1=n/\0=k:=cq (bu h);decide
 | 13,h,_=>let⟨rfl,rfl⟩:1=n/\3=k:=cq (bu h);decide
 | 14,h,_=>let⟨rfl,rfl⟩:1=n/\2=k:=cq (bu h);decide
 | 15,h,_=>let⟨rfl,rfl⟩:1=n/\2=k:=cq (bu h);decide
 | 16,h,_=>let⟨rfl,rfl⟩:1=n/\2=k:=cq (bu h);decide
 | 17,h,_=>let⟨rfl,rfl⟩:2=n/\2=k:=cq (bu h);decide
 | 18,h,_=>let⟨rfl,rfl⟩:1=n/\2=k:=cq (bu h);decide
 | 19,h,_=>let⟨rfl,rfl⟩:2=n/\3=k:=cq (bu h);decide
 | 20,h,_=>let⟨rfl,rfl⟩:1=n/\3=k:=cq (bu h);decide
def YX(o:b+n<= ⇑C)(h:D7 C k (b+n)=J (d,e)):b+((z9 C b n d).map J7).sum=e:=by
 let⟨f,p,_⟩:=oS h;delta z9;rw[fB,zG,bS,bS];let g:((((C.drop b).take n).map (gk J7 gB)).sum)=n:=by
  have:(gk J7 gB)=λ(_:Nat)=>1:=B;rw[this];let i: ⇑((C.drop b).take n)=n:=⋯;let j:∀l:LN0,(l.map λ_=>1).sum=⇑l:=by
   ext l;induction l with
   | nil=>rfl
   | cons a l c=>rw[bp,jX,c,cX];change 1+_=_;lk
  rw[j,i]
 have m:∀l:LL0,((l.map (gk J7 tI)).sum)=⇑l+(l.map kY).sum:=by
  ext l;induction l with
  | nil=>rfl
  | cons a l c=>rw[bp,jX,c,bp,jX,cX];change 1+⇑a+_=_;lk
 rw[g,m,f];lk
def told_cons(a:Y Int)(l:Y (Y Int)):AN (a::l)=((⇑a:Int)::a)++AN l:=B
def T7(C:LN0):Prop:=Ep (aP C)=aa
def Vp(h:T7 C):∃a,qA shape ⇑C (aP C)=J a/\(∀c∈a,uA (whole c)=aa)/\oy (aP C)=AN (Ju ED WqgardSpec.start (a.map whole))/\ ⇑(oy (aP C))<=10000000:=by
 delta T7 Ep at h;rw[aF] at h;cases b:qA shape ⇑C (aP C)with
 | none=>rw[b] at h;cases h
 | some a=>
   rw[b] at h;erw[cn] at h;let⟨⟨⟨⟨_,_⟩,_⟩,d⟩,e⟩:=h;show⟨a,B,λc b=> ?_,?_,eN e⟩
   ·delta WqgardNeutral.asked at d;rw[cn] at d;show eQ.1 d.1 _ (a_.2 ⟨c,b,B⟩)
   ·delta oy PyWqgard.calls;rw[aF,b]
abbrev Js(C:LN0):Ct:=P1 [.im (D1 Z.K) C] (T7 C/\ ⇑C<=6200) bL (oy (aP C))
def SD [T:Tx Z](F:kC Z.K "answers" "answers" (top 107) f fd):dY Z.P Z.w Z.K Z.mg Z.base CX0 13 f fd ["calls"] (b7 Js):=by
 show(DM (N:= ["calls","state","told","at","number","given","answer"]) (p:=1) F ?_ B (by walk_at "s") (λ_ _ _ _ _ _=>xW λ_=>rfl) (λ_ nd hr=>aO (acd hr)∘aO (aY cQ)∘aO ai∘xD (bI gH W (cb W)) (aO (aI W W)∘aO (aR hr (iz W (bw fJ W ai) (dm (vS Tx.d B (kW Tx.X Tx.G Tx.nC) W (λ_ _=>B)) ai) (dm (vS Tx.d B (kW Tx.X Tx.G Tx.nC) W (λ_ _=>B)) ai)))∘aO (aR hr (c_ W W W))∘fh (eX (K:=Z.K) B eB kE kD kb W (ay (cb W)))∘fh (eX (K:=Z.K) B eB mH mG lU W (ay W))∘bP (tY (bw fJ ai (aR hr (ay W))) BL))∘pR W) λ_=>B).1;ext C hp;let⟨u,hCl⟩:=hp;let⟨raw,w,y,z,hlen⟩:=Vp u;show aE (Yl (Ci:=El) (κs:= []) (κf:= []) (λx=>x) dn (λ_=>B) (λ_=>cM) B (λ_=>B) (λ_ _ _ _ h=>h) λst dz=> ?_);show aE (eh (iu (e:=b5) bN ∅) λa=> ?_);show aE (iQ (N.nat (n:=0) aw B) ?_);show aE (vP (λm E H=>∃(i f:Nat) (x:jl) (I:Y (Y (Y Int))) (d:Y Int),E=stK Z.CM Z.CP Z.CS x++ [c8 a b5 d]/\H= [.im (D1 Z.K) C, .im b6 st, .im b6 a, .im b0 i, .no, .no, .no]/\x.st=st/\F7 x/\qA shape f ((aP C).drop i)=J I/\(∀c∈I,uA (whole c)=aa)/\d++AN (Ju ED (z6 x) (I.map whole))=oy (aP C)/\m=⇑C-i/\i<= ⇑C) ⟨_,0,⇑C,⟨st,dz,ah,ah⟩,raw, [],B,B,B,cM,w,y,by rw[z];rfl,B,eT _⟩ ?_);ext m E H ⟨i,f,x,I,d,rfl,rfl,L,hx,j,Q,b,rfl,hi⟩;show⟨decide (i<⇑C),b4.eq (bh (fz (aq (O B)) (aq (ZH (O B))))) ?_,λo=> ?_,λp=> ?_⟩
 ·cbv
 ·let o:i<⇑C:=eN o;let⟨f',n,k,rs,e,cs',rfl,q,hn,g,rfl,acp⟩:=Xw j o;let⟨mx,hre,ack⟩:=oS g;let pX: ⇑((C.drop (i+1)).take n)=n:=⋯;let⟨hn2,hk3⟩:=Ru q;let⟨c,hA,s⟩:=abC (by rw[pX,mx];show q) (Q _ ∅);let hA:eK (C.getD i 0) (z9 C (i+1) n rs) c:=hA;let⟨bb,xx,a0,f0,hv,hT,hm⟩:=ZR q;let hgl: ⇑(z9 C (i+1) n rs)<=100000:=by delta z9;rw[dA,aF,aF,pX,mx];lk
  rw[bp,Ju,s,told_cons] at b;show aE (iQ (M_ (O B) (aq (O B)) (at_getD (d:=0) o)) ?_);show aE (iQ (eC (_,_,n,k,rs,e) (a4 (O B) (N.nat (n:=i+1) (fj (aq (O B)) aw) ∅) (qZ (rh (O B) hv hT) (fM (i:=0) B) λ_=>B) (qZ (rh (O B) hv hT) (fM (i:=1) B) λ_=>B)) ⟨hn,g,⋯,⋯⟩) ?_);show aE (G_ (C:=uJ) (κf:= [c8 a b5 d]) (x,C.getD i 0,z9 C (i+1) n rs,c) (df (N.eq (O B) L.symm) (df (O B) (df (N.args (O B)) dn))) ⟨hx,hA⟩ B λt=> ?_);let NZ:=VY t hx hA;let Og:=Ve x t (uK (z6 x) c).1;let l:=congrArg kY b;rw[dA,dA,cX] at l;dsimp only[uJ];generalize (uK (z6 x) c).2=A at b l;generalize hD:(uK (z6 x) c).1=D at b NZ Og;show aE (lT (j:=2) (l:=d) (b:=(⇑A:Int)) (O B) B (aq (bU (O B))) (by rw[bM];lk) ?_);show aE (lS (j:=2) (l:=d++ [(⇑A:Int)]) (m:=A) (O B) B (O B) (by rw[dA,qe,bM];lk) ?_);let afe:=YX hn g;show wm (a:=i) (b:=1+((z9 C (i+1) n rs).map J7).sum) (c:=e) B (N.eq (fj aw (aq (eC _ (a1 (O B)) hgl))) ∅) ⋯<| ⟨⇑C-e, [.im (D1 Z.K) C, .im b6 st, .im b6 a, .im b0 e, .no, .no, .no],⋯, .eq (.eq (.eq (.eq (.no (.no (.no .nil)))))),e,f',w6 x t D,cs',d++ [(⇑A:Int)]++A,?_,B,L,NZ,acp,λc' xR=>Q c' ∅,?_,B,ack hn⟩
  ·rfl
  ·cbv
 ·let p:i=⇑C:=by have:=gR p;lk
  subst p;rw[rG ⋯] at j;let j:I= []:=by cases f<;>(cases j;rfl)
  subst j;let b:d=oy (aP C):=by rw[<-b];show(eS _).symm
  subst b;show gr (j:=2) (i:=2) B B<| lM 1 (lM 0 ?_)
  show aA (O B) ⟨(),B,λG v r=>r⟩
end
end
def aa8(q:Int×Tok×ab):nv:=⟨q.1, .int q.1 q.2.1, .ref q.2.2⟩
def HH{P:bD}{w:bf}:∀l:List (Int×Tok×ab),Pairs (g8 P w) (l.map aa8) (l.map λq=>((.inl q.1:Key),bK q.2.2))
 | []=> .nil
 | q::l=> .cons (show qC q.1 (.int q.1 q.2.1)=true by simp[qC]) rfl (HH l)
def LW:∀l:List (Int×Tok×ab),i7 (l.map λq=>((.inl q.1:Key),V.ref q.2.2)) (l.map λq=>((.inl q.1:Key),bK q.2.2))
 | []=> .nil
 | q::l=> .cons ⟨rfl,rfl⟩ (LW l)
def Vc{P:bD}{w:bf}{K:aG}{a:ab}{l:List (Int×Tok×ab)}{b:Nat}(c:K.lookup a=some ⟨.type "dict",none, .dict (l.map aa8).toArray b, #[]⟩)(d:((l.map λq=>q.1).all λi=>xy i==i)=true)(f:(l.map λq=>q.1).Nodup):Z2 P w K a (l.map λq=>((.inl q.1:Key),V.ref q.2.2)):=by
 show⟨_,LW l,λh X=>⟨_,_,b,X a _ c,⟨rfl,rfl,rfl⟩,rfl,λe g=> ?_,?_,?_⟩⟩
 ·let⟨q,j,rfl⟩:=a_.1 (by simpa using g:e∈l.map aa8);show⟨.inl q.1,show qC q.1 (.int q.1 q.2.1)=true by simp[qC],(eU.1 (eQ.1 d q.1 (a_.2 ⟨q,j,rfl⟩))).symm⟩
 ·show HH l
 ·rw[bS];have:=gS.1 f;show gS.2 (this.imp λh e=>h (vA e))
def call_at1{K:aG}{h:bA}{d:Str->az ae}{c:List (Key×V)}{a f:ab}{i n k:Nat}{b:Bool}{x:Str}{e:az ab}{t u:Tok}{m:Nat}{g:Array (az ae)}(X:K.In h)(G:h.Ns ff d)(j:d2 c (.inl (i:Int))=some (.ref a))(l:K.lookup a=some ⟨.type "tuple",e, .seq #[.int (n:Int) t, .int (k:Int) u, .bool b, .ref f] m,g⟩)(o:nsIn K ff x=some (some (.ref f))):Q0 K d c i n k b x:=
 ⟨a,f,j,λH=> .inr ⟨_,_,_,l,rfl,rfl,(by change 4<=aV;decide), .cons ⟨t,rfl⟩ (.cons ⟨u,rfl⟩ (.cons rfl (.cons rfl .nil)))⟩,kW X G o⟩
def aat(g:List V)(H:Hp)(Q:VK)(E:XK)(h:spAns Z.K g H Q E):b7 Js g H Q E:=by
 let⟨a,b,rfl,j,m,o,d,k⟩:=h;let f:aP (b.map qO)=b:=by delta aP;rw[bS];show(iV λz q=>Int.toNat_of_nonneg (o z q)).trans (vK _)
 have s:(b.map qO).map (λ(n:Nat)=>V.int (n:Int))=b.map V.int:=by
  let t:(b.map qO).map (λ(n:Nat)=>V.int (n:Int))=(aP (b.map qO)).map V.int:=by generalize b.map qO=l;show(bS (l:=l) (f:=λ(n:Nat)=>(n:Int)) (g:=V.int)).symm
  rw[t,f]
 show⟨b.map qO,H,⟨?_,by rw[aF];show m⟩,λ_ _ e=>e,cM, .cons ⟨a,rfl,by rw[s];show j⟩ .nil,λc v u w x r=> ?_⟩
 ·delta T7;rw[f];show d
 ·let⟨p,rfl,i⟩:=IZ.1 (show bL.rep u v (oy (aP (b.map qO)))from r);rw[f] at i;show k w p (x.s _ _ i)
def abE{Y:Zc}{h:ab}(T:Tx Y)(b:Y.mg "answers"=some (.ref h)):∃c:gz,(∀(s:au) (d:List ae),d.length=(["calls"]:List Str).length->ra s c ⟨d, []⟩ ((["calls"]:List Str).zip d))/\∀a:bA,Y.K.In a->a.Ns ff Y.mg->dY Y.P Y.w Y.K Y.mg a CX0 30 h c ["calls"] (spAns Y.K):=by let⟨r,j,i,l⟩:=T.f ("answers",107) (by decide+kernel);cases b.symm.trans (kW T.X T.G l);let k:=i;let⟨t,u,c9,e,m,n,g,o,p,rfl,lk,q⟩:=i.ex;show⟨lP "answers" "answers" (L5 (top 107)) (y9 (top 107)) (k8 (top 107)) .none c9 e m n g o,(λs=>xW λ_=> .of_eq rfl),λa _ _=>ZW (λT f c F=>((SD F).mono (by decide)).imp aat) {Y with base:=a} ⟨T.X,T.G,T.b,T.c,T.n,T.k,T.f,T.m,T.d,T.nC,T.hC⟩ _ _ k⟩
def all_ok2{P:bD}{w:bf}{K:aG}{h:bA}{mg:Str->az ae}{fa a CP d n9 CV aC a0 a1 a2 a3 a4 a5 a6 a7 a8 a9 g j l o r u v y z A C:ab}{t0 t1 t2 t3 t4 t5 t6 t7 t8 t9 D E H I L Q T Df De Dd Dc:Tok}{ep:Nat}(X:K.In h)(G:h.Ns ff mg)(hfa:mg "answers"=some (.ref fa))(k:∀p∈([(a,"Maze"),(CP,"Plan"),(d,"State"),(n9,"Search"),(CV,"Survey")]:List (ab×Str)),ag6 K p.1 p.2)(b:∀x∈bis,nsIn K ff x=some none)(c:∀p∈cns,∃t,nsIn K ff p.1=some (some (.int p.2 t)))(n:∀p∈([(a,"cell_count"),(a,"hole_count"),(a,"masks"),(a,"numbers"),(a,"shifts"),(CP,"cell_count"),(CP,"cabins"),(CP,"neighbours"),(d,"plan"),(d,"standing"),(d,"mazes"),(n9,"places"),(n9,"prices"),(n9,"refusal"),(CV,"priced"),(CV,"refusal")]:List (ab×Str)),findIn K (.ref p.1) p.2=some none)(f:∀p∈fns,FnAt K p.1 (top p.2))(m:∀p∈([(a,"__init__","Maze.__init__",2,0),(a,"shifts_from","Maze.shifts_from",2,1),(a,"place","Maze.place",2,2),(a,"place_told","Maze.place_told",2,3),(a,"tell","Maze.tell",2,4),(a,"all_places","Maze.all_places",2,5),(a,"steps","Maze.steps",2,6),(a,"prices_for","Maze.prices_for",2,7),(a,"places_that_meet","Maze.places_that_meet",2,8),(a,"meeting_places","Maze.meeting_places",2,9),(a,"next_layer","Maze.next_layer",2,10),(CP,"__init__","Plan.__init__",25,0),(n9,"__init__","Search.__init__",75,0),(CV,"__init__","Survey.__init__",76,0),(d,"__init__","State.__init__",81,0),(d,"hold","State.hold",81,1),(d,"holes_now","State.holes_now",81,2),(d,"maze","State.maze",81,3),(d,"maze_with","State.maze_with",81,4),(d,"place","State.place",81,5),(d,"place_in","State.place_in",81,6),(d,"goals","State.goals",81,7),(d,"prices_for","State.prices_for",81,8),(d,"prices_with","State.prices_with",81,9)]:List (ab×Str×Str×Nat×Nat)),ag5 K p.1 p.2.1 p.2.2.1 (inClass (top p.2.2.2.1) p.2.2.2.2))(nC:nsIn K ff "CALLS"=some (some (.ref aC)))(lC:K.lookup aC=some ⟨.type "dict",none, .dict #[⟨0, .int 0 t0, .ref a0⟩,⟨1, .int 1 t1, .ref a1⟩,⟨2, .int 2 t2, .ref a2⟩,⟨3, .int 3 t3, .ref a3⟩,⟨4, .int 4 t4, .ref a4⟩,⟨5, .int 5 t5, .ref a5⟩,⟨6, .int 6 t6, .ref a6⟩,⟨7, .int 7 t7, .ref a7⟩,⟨8, .int 8 t8, .ref a8⟩,⟨9, .int 9 t9, .ref a9⟩,⟨10, .int 10 D, .ref g⟩,⟨11, .int 11 E, .ref j⟩,⟨12, .int 12 H, .ref l⟩,⟨13, .int 13 I, .ref o⟩,⟨14, .int 14 L, .ref r⟩,⟨15, .int 15 Q, .ref u⟩,⟨16, .int 16 T, .ref v⟩,⟨17, .int 17 Df, .ref y⟩,⟨18, .int 18 De, .ref z⟩,⟨19, .int 19 Dd, .ref A⟩,⟨20, .int 20 Dc, .ref C⟩] ep, #[]⟩)(hC:∀p∈cals,Q0 K mg (([(0,t0,a0),(1,t1,a1),(2,t2,a2),(3,t3,a3),(4,t4,a4),(5,t5,a5),(6,t6,a6),(7,t7,a7),(8,t8,a8),(9,t9,a9),(10,D,g),(11,E,j),(12,H,l),(13,I,o),(14,L,r),(15,Q,u),(16,T,v),(17,Df,y),(18,De,z),(19,Dd,A),(20,Dc,C)]:List (Int×Tok×ab)).map λq=>((.inl q.1:Key),V.ref q.2.2)) p.1 p.2.1 p.2.2.1 p.2.2.2.1 p.2.2.2.2):
 ∃fd:gz,(∀(s:au) (us:List ae),us.length=(["calls"]:List Str).length->ra s fd ⟨us, []⟩ ((["calls"]:List Str).zip us))/\∀e:bA,K.In e->e.Ns ff mg->dY P w K mg e CX0 30 fa fd ["calls"] (spAns K):=
 abE (Y:=⟨P,w,K,mg,h,h,a,CP,d,n9,CV,aC,_⟩) ⟨X,G,b,c,n,k,f,m,Vc (l:= [(0,t0,a0),(1,t1,a1),(2,t2,a2),(3,t3,a3),(4,t4,a4),(5,t5,a5),(6,t6,a6),(7,t7,a7),(8,t8,a8),(9,t9,a9),(10,D,g),(11,E,j),(12,H,l),(13,I,o),(14,L,r),(15,Q,u),(16,T,v),(17,Df,y),(18,De,z),(19,Dd,A),(20,Dc,C)]) lC (show(([0,1,2,3,4,5,6,7,8,9,10,11,12,13,14,15,16,17,18,19,20]:List Int).all λi=>xy i==i)=true by decide+kernel) (show([0,1,2,3,4,5,6,7,8,9,10,11,12,13,14,15,16,17,18,19,20]:List Int).Nodup by decide),nC,hC⟩ hfa
end Pr
end
end
open PySem PySem.W PyProof.Rows
local macro_rules | `(tactic| walk_at "zF") => `(tactic| (refine' ⟨_, _, L2.fun_mk ?l ?c ?k, ?a⟩; (case a => k_is); (case l => k_is); (case c => k_is); (case k => k_is)))
local macro_rules | `(tactic| walk_at "zM") => `(tactic| (refine' ⟨_, _, L2.fun_mk ?l ?c ?k, ?a, ?i⟩; (case a => k_is); (case i => k_is); (case l => k_is); (case c => k_is); (case k => k_is)))
local macro_rules | `(tactic| walk_at "zC") => `(tactic| (refine' Pr.call_at1 (by assumption) (by assumption) rfl ?l ?a; (case l => k_is); (case a => k_is)))
local macro_rules | `(tactic| walk_at "zK") => `(tactic| (refine' ⟨⟨?a, ?b, ?c, ?d⟩, ?e, ?f, ?g⟩; (case e => k_is); (case a => k_is); (case b => k_is); (case c => k_is); (case d => k_is); (case f => k_is); (case g => k_is)))
local macro_rules | `(tactic| walk_at "zA") => `(tactic| (repeat' (first | exact List.forall_mem_nil _ | refine' List.forall_mem_cons.2 ⟨?_, ?_⟩)) <;> try dsimp only)
set_option maxRecDepth 100000 in
set_option maxHeartbeats 0 in
theorem PySem.Challenge.cw_fewestshifts_s01_answers_holds : PySem.Challenge.rw_fewestshifts_s01_answers.Holds := by
  w_on; refine Z0.z0.2 ⟨?_⟩
  unfold Z0.z0
  dsimp only
  k_fillS
  refine L2.walk_specK (r := PySem.Challenge.rw_fewestshifts_s01_answers) (k := 30) (CX := L2.CX0) (ps := ["calls"]) (sp := Pr.spAns) (by decide +kernel) rfl rfl ⟨rfl, by decide, by decide⟩ (fun w h Y => PySem.W.kIn_of Y) ?F ?S (fun _ _ _ _ z => z)
  case F =>
    intro w mg fa h Y KX G hmg
    refine' Pr.all_ok2 KX G hmg ?zz0 ?zz1 ?zz2 ?zz3 ?zz4 ?zz5 ?zz6 ?zz7 ?zz9
    (case zz0 => walk_at "zA"; all_goals walk_at "zK")
    (case zz1 => unfold Pr.bis; walk_at "zA"; all_goals k_is)
    (case zz2 => unfold Pr.cns; walk_at "zA"; all_goals exact ⟨_, by k_is⟩)
    (case zz3 => walk_at "zA"; all_goals k_is)
    (case zz4 => unfold Pr.fns; simp only [List.append_eq, List.cons_append, List.nil_append]; walk_at "zA"; all_goals walk_at "zF")
    (case zz5 => walk_at "zA"; all_goals walk_at "zM")
    (case zz6 => k_is)
    (case zz7 => k_is)
    (case zz9 => unfold Pr.cals; walk_at "zA"; all_goals walk_at "zC")
  case S =>
    intro K H xs a hO hwi hask hx
    cases hx with
    | cons h1 h2 =>
      cases h2
      cases h1 with
      | lst hs ha =>
        have e := L2.ints_dw a.1 _ ha
        subst e
        have q : ((Codec.inLen 0 6200 a.1 && a.1.all (Codec.inInt 0 4294967295)) && true) = true := hwi
        rw [Bool.and_eq_true, Bool.and_eq_true] at q
        exact ⟨_, a.1, rfl, hs, (Codec.inNat_iff.mp q.1.1).2, fun z hz => by have := List.all_eq_true.1 q.1.2 z hz; unfold Codec.inInt at this; rw [Bool.and_eq_true, decide_eq_true_iff] at this; exact this.1, hask, fun H' p hp => .lst (L2.SqL.of hp) (L2.dw_ints _)⟩
