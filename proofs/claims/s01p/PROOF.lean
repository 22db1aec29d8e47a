import PyProof.Rows.All
import Wide.All
import OpenK.AllK
import Wide.FinOn
import PyProof.EqAt
import PyProof.EqKinds
import PyProof.TupleCall
import KE.BitLaws
import VatrkfSpec
import KE.KSortKey
import KE.KSortTupG
import PyProof.EnumMake
import PyProof.Draws
import PyProof.Rows.CallKwBuiltin
import PyProof.Rows.SeqMore
import VatrkfNeutral
import PyVatrkf
import Open.SpecLaws
import KE.OsHead
import KE.OsGo
import PySem.Challenge.RW_trackmarks_s01_answers
set_option Elab.async false
set_option linter.all false
set_option maxRecDepth 100000
set_option maxHeartbeats 4000000
open Array renaming forIn_toList->Hi,getElem_mem->Yb,length_toList->ji,size_zip->acP
open Bool renaming and_eq_false_iff->Ej,and_eq_true->bx,and_eq_true_iff->Wm,and_false->kT,eq_false_iff->AF,eq_iff_iff->jr,false_and->qt,false_eq_true->kU,false_ne_true->aF,false_or->rX,noConfusion->fY,or_eq_true->xr,or_false->jK,true_and->g8
open Decidable renaming byContradiction->yl
open Eq renaming symm->acQ
open False renaming elim->gX
open ForInStep renaming yield->AO
open Function renaming comp->MC
open Int renaming ofNat->acT,toNat->y9
open List renaming all_cons->Hg,all_eq_true->vI,all_map->S0,any_append->MD,any_cons->kF,any_eq_true->gH,any_nil->S7,append_assoc->gO,append_nil->cQ,concat_eq_append->El,cons_append->qE,cons_eq_cons->AG,dropLast_concat->Wj,dropLast_concat_getLast->fJ,dropLast_eq_take->Ei,dropLast_subset->lW,drop_drop->zd,drop_eq_getElem_cons->Qg,drop_eq_nil_of_le->Cw,drop_length->Cb,drop_zero->jk,eq_nil_or_concat->Ek,eraseIdx_cons_succ->Cd,erase_cons->MB,ext_getElem?->ud,filterMap_append->Vi,filterMap_cons->rB,filter_append->sf,filter_congr->e_,filter_cons->cK,filter_eq_nil_iff->kh,filter_eq_self->yo,filter_filter->Yc,filter_map->g_,filter_nil->DW,filter_sublist->eV,find?_append->Ji,find?_cons->g5,find?_eq_none->gY,find?_map->Ow,find?_some->jY,findIdx_cons->pT,findIdx_eq->acR,findIdx_getElem->Wi,flatMap_append->gJ,flatMap_cons->dY,flatMap_map->vJ,flatMap_nil->abj,flatMap_singleton->jm,flatten_cons->Jk,foldl_append->lV,foldl_cons->g9,foldl_map->EW,forIn_nil->adH,getD_eq_getElem?_getD->aO,getElem?_append_left->dD,getElem?_append_right->d_,getElem?_cons_succ->Cc,getElem?_eq_getElem->aB,getElem?_eq_none->fu,getElem?_eq_some_iff->az,getElem?_inj->Jj,getElem?_map->aT,getElem?_of_mem->lU,getElem?_range->mW,getElem?_set_ne->EU,getElem?_set_self->Cs,getElem?_zip_eq_some->iy,getElem_idxOf->Yd,getElem_mem->kN,getLast?_eq_getLast->QD,getLast?_eq_some_getLast->Mp,getLast_mem->Kv,headD_cons->MA,idxOf_append->aa2,idxOf_cons->oZ,idxOf_cons_self->Wh,idxOf_lt_length_of_mem->yq,length->AD,length_append->au,length_cons->br,length_drop->b7,length_dropLast->fL,length_eq_zero_iff->mY,length_filterMap_le->QA,length_filter_le->o_,length_map->aa,length_nil->Mu,length_pos_iff->XM,length_range->eK,length_reverse->F5,length_set->xo,length_singleton->cZ,length_take->a_,length_zip->eS,lookup->tQ,lookup_cons->mX,map_append->bu,map_congr_left->bA,map_cons->bg,map_const'->acS,map_drop->AS,map_map->aR,map_nil->Cu,map_reverse->abi,map_singleton->sr,map_take->AR,mem_append->aX,mem_append_left->We,mem_append_right->eO,mem_cons->aW,mem_cons_of_mem->bO,mem_cons_self->cV,mem_filter->cP,mem_filterMap->XZ,mem_flatMap->qG,mem_map->bI,mem_of_find?_eq_some->fD,mem_of_getElem?->aL,mem_of_mem_drop->wC,mem_of_mem_take->lX,mem_range->cH,mem_singleton->bJ,mem_take_iff_getElem->lJ,nil_append->oY,nodup_append->t_,nodup_cons->gA,nodup_nil->adI,nodup_range->Ky,of_mem_zip->xm,pairwise_cons->Hl,pairwise_iff_getElem->qO,pairwise_lt_range->S6,pairwise_map->lY,pairwise_singleton->tU,perm_ext_iff_of_nodup->y_,range->bK,range_succ->gB,reverse_cons->jV,reverse_reverse->Wg,size_toArray->bw,sum_cons->AQ,take_add_one->jj,take_append_drop->Em,take_length->cU,take_of_length_le->kg,take_zero->qu
open List.Nodup renaming sublist->gP
open List.Pairwise renaming and_mem->rY,map->wB,nil->dQ,sublist->Ab
open List.cons renaming inj->X_,injEq->iE
open Nat renaming add_assoc->SJ,add_comm->yx,add_le_add_left->mZ,add_sub_cancel->oJ,eq_or_lt_of_le->aa4,eq_zero_or_pos->oG,le_add_right->qN,le_of_ble_eq_true->Wk,le_of_eq->uP,le_of_lt->qM,le_of_succ_le->AM,le_refl->aV,le_succ_of_le->abk,le_trans->bQ,lt_irrefl->gI,lt_of_le_of_lt->jJ,lt_of_lt_of_le->dw,lt_of_succ_lt->abm,lt_succ_of_lt->AN,lt_succ_self->Cq,min_eq_left->Nu,min_le_right->acH,ne_of_gt->JW,ne_of_lt->d8,sub_self->DV,sub_zero->J0,succ_ne_self->acO,zero_le->bE
open Ne renaming symm->iG
open Option renaming getD_none->X8,isSome_iff_exists->lT,isSome_map->tV,isSome_some->Wf,map_eq_none_iff->QC,map_eq_some_iff->jf,map_some->ow,none->JZ
open Option.some renaming inj->bH
open Or renaming inl->bz,inr->bB
open Prod renaming ext->yX
open Prod.mk renaming inj->eN
open PyFlat renaming atMost->acW,call->S8,calls->xw,played->acV,row->ME,rows->r_,told->S9
open PyProof.Rows renaming AllBare->Nm,Constant_none->XG,arrOf->Vj,callWith_type1->iH,envOfC->DU,get?_update_seq->SK,listUpdate_at->Kw,size_push'->Ml,slot_tuple_getitem->rW,subscriptTail->XI,subscriptTail_builtinR->aaZ
open PyProof.Rows.G renaming tupKeyC->Af,tupKindC->EE
open PyProof.Rows.IsTup renaming new->aaX
open PySem renaming Addr->ak,Around->eG,BindsTo->SW,Builtin->Nj,CmpOp->Qv,Env->Ou,Expr->fK,FuncData->iW,Heap->cY,IsPart->P8,IsRangeIter->Qw,Keyword->aaU,Model->acJ,NameKind->mV,Obj->mC,Params->Mr,Pos->AB,Program->bD,PyData->bf,Reads->Ae,ReadsAll->acM,Scope->tY,Shared->aN,Stmt->d9,Str->cM,Value->ao,Within->SH,World->cC,assignEach->F1,atKey->Iu,attributeBase->DT,backTo->jI,behindInMarks->qp,binaryOp->Ir,bindArgs->Vf,bindC->X7,bindL->X0,bootBuiltins->r8,boot_len->dN,cLine->qD,callWith->Nk,call_meets->Vg,callerA->S_,cellsFrom->iD,codeAny->Nq,codeAny_builtin->SE,codeAny_call_builtin->acI,codeAny_mono->wg,compEnvC->rM,compareOp->jh,concat_meets->aaT,foldedSetIterable->Ct,getItem->Jg,hashInt->Nl,letOwnedTupleGo->F4,mainGlobals->f_,mem_of_lookup->dJ,model->cI,noFill_tuple_add->P7,notedBy->S2,pushCells_keeps->F6,reduceHash->Mj,seqIndex_neg->aaY,seqIndex_of->acL,seq_tuple_add->XF,sizeLine->aK,sizeLine_eq->iJ,sliceBounds->yw,starEach->b_,subscripted->Qz,swapsWith->AL,sysModules->nX,tupleKind->P_,tupleKind_room_in1->BW,valueAt->Nr,wpAny->b8,wpAny_Assign_Subscript->aa0,wpAny_Call_Name_kw->lO,wpAny_bind->aP,wpAny_call->Ve,wpAny_callSpecial?_slot->XX,wpAny_call_entry->P9,wpAny_execs_nil->F3,wpAny_field->Qq,wpAny_holding->qo,wpAny_isTrue_Compare1->abh,wpAny_letOwnedTupleGo_enum->Vh,wpAny_loadName_cell->adF,wpAny_loadName_local->acK,wpAny_loadPart'->mQ,wpAny_mono->i9,wpAny_newObj_type->wc,wpAny_passesOwn->qj,wpAny_pure->bR,wpAny_pyIter_enum->Cv,wpAny_pyIter_list->we,wpAny_pyIter_rangeiter->aaW,wpAny_pyIter_revIter->acN,wpAny_pyNext_range_end->aaV,wpAny_specialOf->F7,wpAny_standAt->DR,wpAny_truthy_bool->gj
open PySem.Around renaming under->Qx,under_plainId->S5
open PySem.Builtin.List renaming listTooLong->xq
open PySem.Builtin.Range renaming rangeSize->yj
open PySem.Builtin.Slice renaming sliceAdjust->v_,sliceApplied->G8,slicePlaces->oX
open PySem.Builtin.Tuple renaming tupleExact->pQ,tupleHashOf->iX,tupleItemsOf->G9
open PySem.Calls renaming Name_function_global->Np,callWith_builtin->SI
open PySem.Code renaming isFrame->SV
open PySem.Data renaming seq->Wn
open PySem.F renaming args_tuple_add_2->Aa,called_enumerate->JT,entry_tuple_add->AA,plainAttrs_list->aZ,slot_dict_getitem->Mw,slot_enumerate_next->XY,slot_list_append->cg,slot_list_count->AH,slot_list_extend->fO,slot_list_reverse->My,slot_tuple_add->BU,slot_tuple_hash->Ca,type_list_append->cu,type_list_count->AI,type_list_extend->fQ,type_list_reverse->Mz
open PySem.Heap renaming SameBut->Jh,get?_push_of_some->bh,get?_push_size->cF,get?_update_other->SY,lt_size->bU,size_push->gz,size_update->abl
open PySem.Heap.SameBut renaming update->uR
open PySem.IsRange renaming new->adG
open PySem.NameKind renaming cell->Mt,free->uQ
open PySem.Obj renaming mapSeq->fG
open PySem.Paired renaming length->Ov
open PySem.PassesOwn renaming never->cA
open PySem.PyData renaming canLay0->gu,canLayAll0->lI,depth->gK,depthAll->e8,eqv->fh,eqvAll->eY,int->jS,list->r9,tuple->QB
open PySem.PyData.int renaming injEq->S3
open PySem.PyData.tuple renaming inj->EV
open PySem.SeqAt renaming EqAt->XJ,eqAt_reads->aa1,shaped->qB
open PySem.SeqAt.EqAt renaming int_str->Qt,str_int->Qu
open PySem.SeqAt.Reads renaming unique->Qc
open PySem.Str renaming ofString->Vd
open PySem.Value renaming bool->Cp,builtin->adJ,int->ET,isStrOf->adE,none->Co,ref->dI,str->Qs,type->vG
open PySem.Value.type renaming inj->Ce
open PySem.W renaming Frag->ah,WRecords->XN,WalkOS->aa5,callWith_K->F2,callWith_K0->SX,cellsFrom_some->Qa,codeIn->pR,emptyDict->ja,findIn->gU,fnOf->jc,handedIn->XH,hasDictIn->yY,instObj->kZ,isFn->BV,keepIn->jb,length_le_weightAllW->J7,lookIn->DS,makesIn->JY,methodCall_KW->Qy,methodObj->G_,mg_none_of->gh,mg_of->Ad,nsIn->BY,plainGet->uO,plainGet_of->ED,plainOver->Hf,takerIn->JX
open PyVatrkf renaming answers->Wl,answers_asked->Ox,calls->Yh,shape->xu,whole->mD
open Sum renaming inl->JU,inr->JV
open Sum.inl renaming inj->SG
open True renaming intro->yZ
open Vatrka renaming END->vj,Pending->fW,Piece->nY,below->Ho,isSign->fS,isStretch->jy,props->adK,within->bX
open Vatrkf renaming Call->SM,Letter->bZ,MOST->SN,State->Vk,Step->pU,Token->cE,Walk->Mm,choose->iF,compared->oz,costOf->Qh,difference->lP,docOf->adL,dropOne->aa3,dropWay->AE,endWay->fM,isSet->acU,isWord->pS,keepWay->S4,lastPiece->ym,lastRow->qF,onHeld->mO,oneWord->wj,painted->Nv,pairs->yy,partner->jW,plainLetter->cO,putLetters->Mn,putWay->BX,renumber->yz,rowWith->uc,setOf->Cz,start->tW,step->bS,sum->Mx,tokenDifference->iz,toldLetter->iI,toldLetters->QE,toldPiece->Yg,version->abn,ways->Nt,withMoves->Ye,withNew->Cy,withOld->Jl,wordTokens->jd
open Vatrkf.Answer renaming refused->mR
open VatrkfNeutral renaming asked->MF,asked1->Mq,encode->dF,step->l7,whole60->Ac
abbrev aD:=@if_neg
abbrev aG:=@if_pos
abbrev aH:=@decide_eq_false
abbrev aI:=@decide_eq_true
abbrev aM:=@decide_eq_true_iff
abbrev dU:=@beq_eq_false_iff_ne
abbrev dW:=@beq_self_eq_true
abbrev fH:=@decide_eq_decide
abbrev f9:=@of_decide_eq_true
abbrev h_:=@beq_false_of_ne
abbrev i_:=@beq_iff_eq
namespace HT
open PySem PyProof.Rows
section
variable{prog:bD}{w:cC}{A:eG}{E:ao->aN->Prop}{s:aN}
theorem abo{t b:ak}{vs ws:List ao}{Q:ao->aN->Prop}(ht:IsTup s.heap t vs.toArray)(hb:IsTup s.heap b ws.toArray)(hv:vs≠[])(h1:ws=[]->Q (.ref t) s)(h2:ws≠[]->Q (.ref s.heap.objs.size) {s with heap:=s.heap.push {cls:=.type "tuple",data:=.seq (vs++ws).toArray}})(hsz:vs.length+ws.length<=aK):b8 (cI prog w) A (Ir .Add (.ref t) (.ref b)) Q E s:=by
 obtain⟨⟨cls,dd,data,sl⟩,ho,hc,n,hd⟩:=id ht
 obtain⟨⟨aip,dd2,data2,sl2⟩,ho2,hc2,n2,hd2⟩:=id hb
 simp only at hc hd hc2 hd2
 subst hc hd hc2 hd2
 have e:vs.toArray++ws.toArray=(vs++ws).toArray:=by simp
 by_cases hw:ws=[]
 ·exact aaT ⟨_,ho,rfl⟩ ⟨_,ho2,rfl⟩ P7 XF BU AA (Aa _ _)
   (tuple_addW1 t b vs.toArray ws.toArray n n2 dd dd2 sl sl2 (by simpa using hv) (by simp[hw])) ⟨ho,ho2,h1 hw⟩
 ·refine aaT ⟨_,ho,rfl⟩ ⟨_,ho2,rfl⟩ P7 XF BU AA (Aa _ _)
   (tuple_addW2 t b vs.toArray ws.toArray n n2 dd dd2 sl sl2 (by simpa using hv) (by simpa using hw) (by rw[bw,bw];exact hsz)) ⟨ho,ho2,?_⟩
  rw[e]
  exact h2 hw
def tZ(n d:Nat):Option Int->Nat
 |none=>d
 |some v=>if v<0 then(v+(n:Int)).toNat else min v.toNat n
theorem F8(n d:Nat):tZ n d none=d:=rfl
theorem adO(n d:Nat)(hd:d<=n)(o:Option Int):tZ n d o<=n:=by
 cases o with
 |none=>exact hd
 |some v=>
  show(if v<0 then(v+(n:Int)).toNat else min v.toNat n)<=n
  by_cases hv:v<0
  ·rw[aG hv];omega
  ·rw[aD hv];exact acH _ _
theorem Vl(v:Int)(n d:Nat):(if v<0 then max (v+(n:Int)) 0 else min v (n:Int))=((tZ n d (some v):Nat):Int):=by
 show(if v<0 then max (v+(n:Int)) 0 else min v (n:Int))=(((if v<0 then(v+(n:Int)).toNat else min v.toNat n):Nat):Int)
 by_cases hv:v<0
 ·simp only[aG hv];omega
 ·simp only[aD hv];omega
theorem Tc(lo hi:Option Int)(n:Nat):v_ lo hi 1 (n:Int)=(((tZ n 0 lo:Nat):Int),((tZ n n hi:Nat):Int)):=by
 have h1:¬((1:Int)<0):=by omega
 unfold v_
 simp only[h1,if_false]
 refine yX ?_ ?_
 ·cases lo with
  |none=>rfl
  |some v=>exact Vl v n 0
 ·cases hi with
  |none=>rfl
  |some v=>exact Vl v n n
theorem Td(i j:Nat):oX (i:Int) (j:Int) 1=j-i:=by
 unfold oX
 have h1:(1:Int)>0:=by omega
 simp only[h1,if_true,Int.ediv_one]
 split<;>omega
theorem Kz{v:ao}{o:Option Int}{Q:Option Int->aN->Prop}(p:P8 v o)(h:Q o s):b8 (cI prog w) A (Builtin.Slice.slicePartIndex v) Q E s:=by
 cases p with
 |none=>exact slicePart_none h
 |int i t=>exact slicePart_int h
theorem Hq{sl:ak}{vl vu:ao}{lo hi:Option Int}{n:Nat}{Q:Int×Int×Nat->aN->Prop}(hs:s.heap.IsSliceOf sl vl vu .none)(pl:P8 vl lo)(pu:P8 vu hi)(h:Q (((tZ n 0 lo:Nat):Int),1,tZ n n hi-tZ n 0 lo) s):b8 (cI prog w) A (G8 (.ref sl) (pure (n:Int))) Q E s:=by
 obtain⟨os,hos,hcs,hds⟩:=id hs
 unfold G8 Builtin.Slice.sliceFields
 refine aP (aP (Qq hos hds (x:=vl) rfl (aP (Qq hos hds (x:=vu) rfl (aP (Qq hos hds (x:=.none) rfl (bR ?_)))))))
 refine aP (slicePart_none ?_)
 show b8 _ _ (if((1:Int)==0)=true then _ else _) _ _ s
 rw[aD (by decide)]
 refine aP (Kz pl (aP (Kz pu (aP (bR ?_)))))
 show b8 _ _ (match v_ lo hi 1 (n:Int)with|(lo,hi)=>pure (lo,(1:Int),oX lo hi 1)) _ _ s
 rw[Tc lo hi n]
 show b8 _ _ (pure (((tZ n 0 lo:Nat):Int),(1:Int),oX ((tZ n 0 lo:Nat):Int) ((tZ n n hi:Nat):Int) 1)) _ _ s
 rw[Td]
 exact bR h
theorem Yi(xs:Array ao)(i k:Nat):((bK k).filterMap fun(m:Nat)=>xs[((i:Int)+(m:Int)*1).toNat]?).toArray=((xs.toList.drop i).take k).toArray:=by
 have e:(fun(m:Nat)=>xs[((i:Int)+(m:Int)*1).toNat]?)=fun m=>xs[i+m]?:=by
  funext m
  have:((i:Int)+(m:Int)*1).toNat=i+m:=by omega
  rw[this]
 rw[e]
 have:=pick_run xs i k
 rw[List.filterMap_map]at this
 have e2:((fun x=>xs[x]?)∘fun x=>i+x)=fun m=>xs[i+m]?:=rfl
 rw[e2]at this
 rw[this]
theorem F9{t sl:ak}{items:Array ao}{vl vu:ao}{lo hi:Option Int}{Q:ao->aN->Prop}(ht:IsTup s.heap t items)(hs:s.heap.IsSliceOf sl vl vu .none)(pl:P8 vl lo)(pu:P8 vu hi)(hw:¬(tZ items.size 0 lo=0/\tZ items.size items.size hi=items.size))(h:Q (.ref s.heap.objs.size) {s with heap:=s.heap.push {cls:=.type "tuple",data:=.seq ((items.toList.drop (tZ items.size 0 lo)).take (tZ items.size items.size hi-tZ items.size 0 lo)).toArray}})(hsz:items.size<=aK):b8 (cI prog w) A (Jg (.ref t) (.ref sl)) Q E s:=by
 have Vm:sizeOk (.seq ((items.toList.drop (tZ items.size 0 lo)).take (tZ items.size items.size hi-tZ items.size 0 lo)).toArray):=by
  show((items.toList.drop (tZ items.size 0 lo)).take (tZ items.size items.size hi-tZ items.size 0 lo)).toArray.size<=aK
  rw[bw,a_,b7,ji]
  omega
 have hj:tZ items.size items.size hi<=items.size:=adO _ _ (aV _) hi
 obtain⟨os,hos,hcs,hds⟩:=id hs
 have hTs:s.TypeIs (.ref sl) "slice":=⟨os,hos,hcs⟩
 unfold Jg
 try with_reducible refine qo ?_
 first|refine aP (bR ?_)|skip
 refine aP (wpAny_sequenceKey ht.typeIs (by decide) ?_)
 refine aP (XX (name:=Vd "__getitem__") ht.typeIs rW
  (P9 rW ht.typeIs entry_tuple_getitem ?_ (args_tuple_getitem _ _)))
 show b8 _ _ (G9 (.ref t)>>=_) _ _ s
 refine aP (tupleItemsOf_ ht ?_)
 refine aP (wpAny_typeOf hTs ?_)
 rw[aG (by decide)]
 refine aP (Hq hs pl pu ?_)
 have hno:¬((((tZ items.size 0 lo:Nat):Int)==0&&(1:Int)==1&&(tZ items.size items.size hi-tZ items.size 0 lo)==items.size)=true):=by
  intro q
  rw[bx,bx]at q
  have q1:((tZ items.size 0 lo:Nat):Int)=0:=eq_of_beq q.1.1
  have q2:tZ items.size items.size hi-tZ items.size 0 lo=items.size:=eq_of_beq q.2
  exact hw ⟨by omega,by omega⟩
 show b8 _ _ (if(((tZ items.size 0 lo:Nat):Int)==0&&(1:Int)==1&&(tZ items.size items.size hi-tZ items.size 0 lo)==items.size)=true then _ else _) _ _ s
 rw[aD hno,Yi]
 first
  |exact aP (m:=pQ _) (wc (bR ⟨_,rfl,bR h⟩) Vm)
  |exact aP (m:=pQ _) (wc (aP (bR (bR ⟨_,rfl,bR h⟩))) Vm)
  |exact aP (aP (m:=pQ _) (wc (bR (bR ⟨_,rfl,bR h⟩)) Vm))
  |exact aP (aP (m:=pQ _) (wc (bR ⟨_,rfl,bR h⟩) Vm))
end
end HT
namespace PySem
open Sem (wp)
open AutoSeq1 (wpAny_loadPart')
theorem Draws.shift{prog:bD}{w:cC}{A:eG}{it:ak}{fp:List ak}{n:Nat}{P:Nat->ao->Prop}{St:Nat->cY->Prop}(D:Draws prog w A it fp n P St):Draws prog w A it fp (n+1) (fun i x=>∃j,i=j+1/\P j x) (fun i h=>∃j,i=j+1/\St j h) where
 live:=fun i h⟨j,_,st⟩=>D.live j h st
 frame:=fun i h h'⟨j,e,st⟩hk=>⟨j,e,D.frame j h h' st hk⟩
 item:=fun i s Q E hi⟨j,e,st⟩hQ=>D.item j s Q E (by omega) st fun x h' tk p J8 sb=>hQ x h' tk ⟨j,e,p⟩ ⟨j+1,by omega,J8⟩ sb
 done:=fun s Q E⟨j,e,st⟩hE=>by
  obtain rfl:n=j:=by omega
  exact D.done s Q E st hE
theorem Jm(l:ak)(items:Array ao)(n:Nat)(dct:Option ak)(sl:Array (Option ao))(t:Tok):Meets (Nj.«enumerate.__new__» ⟨[.type "enumerate",.ref l],[("start",.int 1 t)]⟩) (fun _ R s=>s.heap.get? l=some {cls:=.type "list",dict:=dct,data:=.seq items n,slots:=sl}/\R (.ok (.ret (.ref (s.heap.push {cls:=.type "list_iterator",data:=.fields #[.ref l,.int 0 0]}).objs.size))) {s with heap:=(s.heap.push {cls:=.type "list_iterator",data:=.fields #[.ref l,.int 0 0]}).push {cls:=.type "enumerate",data:=.fields #[.none,.bool false,.ref s.heap.objs.size,rawInt 1,.none,.none]}}):=
 .of_wp fun prog w A R s h=>by
  obtain⟨hp,g,d,tk,os⟩:=s;obtain⟨hl,h⟩:=h
  have amJ:=sub_enumerate
  have hL:Heap.IsList (Shared.heap ⟨hp,g,d,tk,os⟩) l items:=⟨_,hl,rfl,n,rfl⟩
  wp_walk using mQ hl
  refine wpAny_stack_any fun st=>bR ?_
  split
  ·rename_i c _ _ _ _ _
   cases(c==vG "enumerate")
   ·wp_walk using mQ hl,we hL
    exact⟨_,rfl,h⟩
   ·wp_walk using mQ hl,we hL
    exact⟨_,rfl,h⟩
  ·wp_walk using mQ hl,we hL
   exact⟨_,rfl,h⟩
theorem QF{prog:bD}{w:cC}{A:eG}{E:ao->aN->Prop}{s:aN}{T Yj:String}{Bn:Nj}{args:List ao}{kw:List (cM×ao)}{S:Spec}{Q:ao->aN->Prop}(ft:TypeCalled T Yj "object.__init__")(hct:checkTypeCall T ⟨args,kw⟩=pure ())(hcn:checkBuiltinCall Yj ⟨.type T::args,kw⟩=pure ())(dz:∀obj,argsOk "object.__init__" ⟨obj::args,kw⟩)(adP:entryFor table Yj=some Bn)(g:Meets (Bn ⟨.type T::args,kw⟩) S)(gi:∀obj,Meets (Nj.«object.__init__» ⟨obj::args,kw⟩) (fun _ R s=>s.TypeIs obj T/\R (.ok (.ret .none)) s))(h:S A.in1 (wants (fun obj s₁=>s₁.TypeIs obj T/\Q obj s₁) E) s):b8 (cI prog w) A (call (.type T) args kw) Q E s:=by
 obtain⟨c,tl,amL⟩:=ft.mro
 have m1:=ft.made
 have m2:=ft.sub
 refine Ve (codeAny_of_tree ?_)
 show b8 _ _ (callAny (.type T) _) _ _ _
 refine bR ⟨Code.quiet_builtin _ (by decide+kernel),SE F.entry_type_call ?_⟩
 rw[Around.under_plain (weight_type_call_type T args kw) (units_type_call_type T args kw)]
 have m3:=ft.notType
 have m4:=ft.canCreate
 repeat(any_goals (first|assumption|wp_step))
 refine wg (acI ft.plain adP (wpAny_of_eq hcn (g prog w A.in1 _ s h))) fun r s₁ hr=>?_
 cases r with
 |error e=>exact hr
 |ok fl=>
  cases fl with
  |ret obj=>
   obtain⟨hT,hq⟩:=hr
   have m5:=ft.init.lookup
   have m6:=ft.init.bind obj
   repeat(any_goals (first|assumption|wp_step))
   refine wg (acI ft.init.plain F.entry_object_init (ft.init.check _ _ _ _ _ _ _ _ hT (dz obj) (gi obj prog w A.in1 (wants (fun r s₂=>r=.none/\Q obj s₂) E) s₁ ⟨hT,rfl,hq⟩))) fun r₂ s₂ hr₂=>?_
   cases r₂ with
   |error e=>exact hr₂
   |ok fl₂=>
    cases fl₂ with
    |ret r=>
     obtain⟨rfl,hq⟩:=hr₂
     repeat(any_goals (first|assumption|wp_step))
    |_=>exact hr₂.elim
  |_=>exact hr.elim
namespace F
theorem KA(a:ao)(t:Tok):checkTypeCall "enumerate" ⟨[a],[("start",.int 1 t)]⟩=pure ():=by kernel_rfl
theorem MG(a:ao)(t:Tok):checkBuiltinCall "enumerate.__new__" ⟨[.type "enumerate",a],[("start",.int 1 t)]⟩=pure ():=by kernel_rfl
theorem Jo(o a:ao)(t:Tok):argsOk "object.__init__" ⟨[o,a],[("start",.int 1 t)]⟩:=by kernel_rfl
end F
theorem Te(obj a:ao)(t:Tok):Meets (Nj.«object.__init__» ⟨[obj,a],[("start",.int 1 t)]⟩) (fun _ R s=>s.TypeIs obj "enumerate"/\R (.ok (.ret .none)) s):=by
 refine Meets.of_wp fun prog w A R s hs=>?_
 obtain⟨hT,hq⟩:=hs
 have m1:=JT.init.lookup
 have m2:=JT.made
 repeat(any_goals (first|assumption|wp_step))
 exact⟨_,rfl,hq⟩
theorem Tf{prog:bD}{w:cC}{A:eG}{E:ao->aN->Prop}{s:aN}{l:ak}{items:Array ao}{t:Tok}{Q:ao->aN->Prop}(hL:s.heap.IsList l items)(h:∀h',IsEnum h' (s.heap.objs.size+1) s.heap.objs.size 1 .none->h'.IsListIter s.heap.objs.size l 0->h'.objs.size=s.heap.objs.size+2->(∀b o,s.heap.get? b=some o->h'.get? b=some o)->Q (.ref (s.heap.objs.size+1)) {s with heap:=h'}):b8 (cI prog w) A (call (.type "enumerate") [.ref l] [("start",.int 1 t)]) Q E s:=by
 obtain⟨⟨c,dct,dt,sl⟩,hl,hc,n,hd⟩:=hL
 have Tg:c=.type "list":=hc
 have J9:dt=.seq items n:=hd
 subst Tg J9
 refine QF JT (F.KA _ _) (F.MG _ _) (fun obj=>F.Jo obj _ _) F.entry_enumerate_new (Jm l items n dct sl t) (fun obj=>Te obj _ _) ⟨hl,?_⟩
 have hz:(s.heap.push {cls:=.type "list_iterator",data:=.fields #[.ref l,.int 0 0]}).objs.size=s.heap.objs.size+1:=gz ..
 show _/\_
 rw[hz]
 have he:IsEnum ((s.heap.push {cls:=.type "list_iterator",data:=.fields #[.ref l,.int 0 0]}).push {cls:=.type "enumerate",data:=.fields #[.none,.bool false,.ref s.heap.objs.size,rawInt 1,.none,.none]}) (s.heap.objs.size+1) s.heap.objs.size 1 .none:=by
  have:=cF (s.heap.push {cls:=.type "list_iterator",data:=.fields #[.ref l,.int 0 0]}) (o:={cls:=.type "enumerate",data:=.fields #[.none,.bool false,.ref s.heap.objs.size,rawInt 1,.none,.none]}) rfl
  rw[hz]at this;exact this
 exact⟨⟨_,he,rfl⟩,h _ he ⟨_,bh _ (cF _ rfl),rfl,rfl⟩ (by rw[gz,hz]) fun b o x=>bh _ (bh _ x)⟩
theorem Jp{M:acJ}{A:eG}{E:ao->aN->Prop}{s:aN}{env:Ou}{pos:AB}{T:String}{e:fK}{o9:List fK}{Yk:List aaU}{Q:ao->aN->Prop}(h:b8 M A (spliced (jI pos (b_ (e::o9) env))) (fun vs s₁=>b8 M A (evalAll ((backToKw pos (keywordEach Yk env)).map (·.2))) (fun dh s₂=>b8 M A (call (.type T) vs (((backToKw pos (keywordEach Yk env)).filterMap (·.1)).zip dh)) Q E s₂) E s₁) E s)(he:jI pos (b_ (e::o9) env)=(false,eval e env)::jI pos (b_ o9 env))(Th:(jI pos (b_ (e::o9) env)).any (·.1)=false)(EX:(backToKw pos (keywordEach Yk env)).all (·.1.isSome)=true)(hkw:(backToKw pos (keywordEach Yk env)).any (·.1.isNone)=false):b8 M A (Nk pos (.type T) [] (jI pos (b_ (e::o9) env)) (backToKw pos (keywordEach Yk env))) Q E s:=by
 rw[he]at h
 have q:=PyProof.Rows.evalArgs_kwB (f:=.type T) (Q:=fun a s₁=>b8 M A (call (.type T) ([]++a.pos) a.kw) Q E s₁) EX h
 rw[<-he]at q
 unfold Nk
 refine aP (qo (i9 q (fun a s₁ h₁=>aP (DR ?_)) fun _ _ x=>x))
 simp only[Th,hkw,jK]
 exact aP (bR (aP (i9 h₁ (fun r s₂ hr=>aP (qo (wpAny_point (bR hr)))) fun _ _ x=>x)))
theorem Wo{prog:bD}{w:cC}{A:eG}{E:ao->aN->Prop}{s:aN}{e it l:ak}{i:Int}{j:Nat}{items:Array ao}{old:ao}{Q:Option ao->aN->Prop}(hh:A.handled=none)(he:IsEnum s.heap e it i old)(hit:s.heap.IsListIter it l j)(hl:s.heap.IsList l items)(hx:items[j]?=none)(hQ:∀h',Heap.ExtBut it s.heap h'->Q none {s with heap:=h'}):b8 (cI prog w) A (pyNext (.ref e)) Q E s:=by
 have tE:s.TypeIs (.ref e) "enumerate":=⟨_,he,rfl⟩
 unfold pyNext
 refine aP (wpAny_attempt (XX (name:=Vd "__next__") tE XY (P9 XY tE F.entry_enumerate_next ?_ (F.args_enumerate_next_1 _))))
 show b8 _ _ (field (.ref e) 2>>=_) _ _ _
 refine aP (Qq he rfl (x:=.ref it) rfl (aP (wpAny_nextOf_list_end hh hit hl hx fun h' x he' hx'=>?_)))
 obtain⟨o,ho,hc⟩:=hx'
 exact aP (wpAny_isInstance (T:="StopIteration") (b:=true) ⟨o,ho,hc⟩ isSubtype_stop (bR (hQ _ he')))
end PySem
namespace L2
open PySem PySem.Spec PyProof.Rows
abbrev yp:=Sum Int cM
def Nz:yp->ao->Bool
 |.inl k,v=>Value.isInt k v
 |.inr x,v=>adE x v
def ait(w:cC):yp->Int
 |.inl k=>Nl k
 |.inr x=>hashStr w x
theorem k7:∀{k:yp}{v:ao},Nz k v=true->(∃i t,k=JU i/\v=ET i t)\/(∃x t,k=JV x/\v=Qs x t)
 |.inl i,v,h=>by
  obtain⟨t,e⟩:=Value.isInt_shape (k:=i) (v:=v) h
  exact .inl ⟨i,t,rfl,e⟩
 |.inr x,v,h=>by
  obtain⟨t,e⟩:=Value.isStrOf_shape (x:=x) (v:=v) h
  exact .inr ⟨x,t,rfl,e⟩
theorem Wq(i:Int)(t:Tok):Nz (.inl i) (.int i t)=true:=by simp[Nz,Value.isInt]
theorem Wr(x:cM)(t:Tok):Nz (.inr x) (.str x t)=true:=by simp[Nz,adE]
theorem adQ(a b:Int):decide ((JU a:yp)=JU b)=(a==b):=by
 by_cases e:a=b
 ·subst e;simp
 ·have h:¬(JU a:yp)=JU b:=fun q=>e (SG q)
  rw[aH h]
  exact(dU.mpr e).symm
theorem adR(a b:cM):decide ((JV a:yp)=JV b)=decide (a=b):=by
 by_cases e:a=b
 ·subst e;simp
 ·have h:¬(JV a:yp)=JV b:=fun q=>e (Sum.inr.inj q)
  rw[aH h,aH e]
theorem adS(a:Int)(b:cM):decide ((JU a:yp)=JV b)=false:=aH (fun q=>nomatch q)
theorem adT(a:cM)(b:Int):decide ((JV a:yp)=JU b)=false:=aH (fun q=>nomatch q)
def pW(prog:bD)(w:cC):PySem.KeyKind prog w yp where
 is:=Nz
 hash:=ait w
 inj:=fun v a b ha hb=>by
  rcases k7 ha with⟨i,t,rfl,rfl⟩|⟨x,t,rfl,rfl⟩
  ·rcases k7 hb with⟨j,u,rfl,e⟩|⟨y,u,rfl,e⟩
   ·injection e with e1 _;rw[e1]
   ·exact nomatch e
  ·rcases k7 hb with⟨j,u,rfl,e⟩|⟨y,u,rfl,e⟩
   ·exact nomatch e
   ·injection e with e1 _;rw[e1]
 byValue:=fun k v h=>by
  rcases k7 h with⟨i,t,rfl,rfl⟩|⟨x,t,rfl,rfl⟩<;>rfl
 pyHash:=fun hv h=>by
  rcases k7 hv with⟨i,t,rfl,rfl⟩|⟨x,t,rfl,rfl⟩
  ·exact wpAny_pyHash_int h
  ·exact wpAny_pyHash_str h
 eqBool:=fun hu hv h=>by
  rcases k7 hu with⟨i,t,rfl,rfl⟩|⟨x,t,rfl,rfl⟩
  ·rcases k7 hv with⟨j,u,rfl,rfl⟩|⟨y,u,rfl,rfl⟩
   ·rw[adQ]at h;exact wpAny_eqBool_int h
   ·rw[adS]at h;exact Qt i t y u _ _ _ _ h
  ·rcases k7 hv with⟨j,u,rfl,rfl⟩|⟨y,u,rfl,rfl⟩
   ·rw[adT]at h;exact Qu x t j u _ _ _ _ h
   ·rw[adR]at h;exact wpAny_eqBool_str h
 «strs»:=fun k x t v h=>by
  rcases k7 h with⟨i,u,rfl,e⟩|⟨y,u,rfl,e⟩
  ·exact nomatch e
  ·injection e with e1 _
   subst e1
   cases v<;>rfl
theorem QG(prog:bD)(w:cC)(i:Int)(t:Tok):(pW prog w).is (.inl i) (.int i t)=true:=Wq i t
theorem QH(prog:bD)(w:cC)(x:cM)(t:Tok):(pW prog w).is (.inr x) (.str x t)=true:=Wr x t
inductive V where
 |jX|bl (b:Bool)|int (i:Int)|str (x:cM)|QI (b:Array UInt8)|flt (b:UInt64)|ref (a:ak)|ty (n:String)
 deriving DecidableEq
def gW:V->ao->Prop
 |.jX,u=>u=Co
 |.bl b,u=>u=Cp b
 |.int i,u=>∃t,u=ET i t
 |.str x,u=>∃t,u=Qs x t
 |.QI b,u=>∃t,u=Value.bytes b t
 |.flt b,u=>∃t,u=Value.float b t
 |.ref a,u=>u=dI a
 |.ty n,u=>u=vG n
abbrev eU:List V->List ao->Prop:=Paired gW
theorem eU.length{xs:List V}{us:List ao}(r:eU xs us):xs.length=us.length:=Ov r
theorem eU.get:∀{xs:List V}{us:List ao}{i:Nat}{x:V},eU xs us->xs[i]?=some x->∃u,us[i]?=some u/\gW x u
 |_,_,_,_,.nil,e=>by simp at e
 |_,_,0,_,.cons r _,e=>by simp at e;subst e;exact⟨_,rfl,r⟩
 |_,_,i+1,x,.cons _ t,e=>by
  obtain⟨u,h1,h2⟩:=eU.get (i:=i) (x:=x) t (by simpa using e)
  exact⟨u,by simpa using h1,h2⟩
theorem eU.set{x:V}{u:ao}(r:gW x u):∀{xs:List V}{us:List ao}(i:Nat),eU xs us->eU (xs.set i x) (us.set i u)
 |_,_,_,.nil=>.nil
 |_,_,0,.cons _ t=>.cons r t
 |_,_,i+1,.cons q t=>.cons q (eU.set r i t)
theorem eU.append:∀{xs ys:List V}{us ws:List ao},eU xs us->eU ys ws->eU (xs++ys) (us++ws)
 |_,_,_,_,.nil,s=>s
 |_,_,_,_,.cons r t,s=>.cons r (eU.append t s)
theorem eU.take:∀{xs:List V}{us:List ao}(n:Nat),eU xs us->eU (xs.take n) (us.take n)
 |_,_,0,_=>.nil
 |_,_,_+1,.nil=>.nil
 |_,_,n+1,.cons r t=>.cons r (eU.take n t)
theorem eU.drop:∀{xs:List V}{us:List ao}(n:Nat),eU xs us->eU (xs.drop n) (us.drop n)
 |_,_,0,r=>r
 |_,_,_+1,.nil=>.nil
 |_,_,n+1,.cons _ t=>eU.drop n t
def En:Option V->Option ao->Prop
 |some v,some u=>gW v u
 |none,none=>True
 |_,_=>False
def KV{κ:Type}:List (κ×V)->List (κ×ao)->Prop:=Paired fun(p:κ×V)(q:κ×ao)=>p.1=q.1/\gW p.2 q.2
def kV:yp->V
 |.inl i=>.int i
 |.inr x=>.str x
inductive HO where
 |lst (xs:List V)
 |tup (xs:List V)
 |dK (dh:List (yp×V))|dT (dh:List (List yp×V))
 |set (S:Int->Bool) (n:Nat)
 |ins (C dx:ak) (fs:List (cM×V))
 |own (x:ak)
 |xd (fs:List (cM×V))
 |met (f x:ak)
 |rng (lo hi:Int)
 |Oz (o:mC) (u:HO)
 |tbl (ps:Array ao)
 |ext (φ:cY->Prop)
abbrev Hp:=ak->Option HO
def upd(H:Hp)(a:ak)(o:HO):Hp:=fun b=>if b=a then some o else H b
theorem aE{H:Hp}{a:ak}{o:HO}:upd H a o a=some o:=by unfold upd;rw[aG rfl]
theorem bY{H:Hp}{a b:ak}{o:HO}(h:b≠a):upd H a o b=H b:=by unfold upd;rw[aD h]
theorem l8{H:Hp}{a:ak}{o u:HO}:upd (upd H a o) a u=upd H a u:=by
 funext b;unfold upd;split<;>rfl
theorem afz{H:Hp}{a b:ak}{o u:HO}(h:H a=some o)(h':H b=some u)(d:o≠u):a≠b:=by
 intro e;subst e;rw[h]at h';exact d (bH h')
theorem cW{H:Hp}{a b:ak}{o:HO}(h:H a=some o)(h':H b=none):a≠b:=by
 intro e;subst e;rw[h]at h';cases h'
section
variable(P:bD)(w:cC)
def kP(H:Hp)(h:cY)(a:ak):HO->Prop
 |.lst xs=>xs.length<=aK/\∃(fi:List ao)(n:Nat),eU xs fi/\h.get? a=some {cls:=.type "list",data:=.seq fi.toArray n}
 |.tup xs=>xs.length<=aK/\∃fi:List ao,eU xs fi/\IsTup h a fi.toArray
 |.dK dh=>dh.length<=aK/\(a==nX)=false/\∃vs,KV dh vs/\h.DictOf (pW P w) a vs
 |.dT dh=>dh.length<=aK/\(a==nX)=false/\∃xs:List (List yp×ak×ao),
   Paired (fun(p:List yp×V)(q:List yp×ak×ao)=>p.1=q.1/\H q.2.1=some (.tup (p.1.map kV))/\gW p.2 q.2.2) dh xs/\
   ∃o es ep,h.get? a=some o/\o.ExactDict/\o.data=.dict es ep/\es.toList=xs.map (entryOfKey (P_ (pW P w)))/\(xs.map (·.1)).Nodup
 |.set S n=>h.SetOf (intKind P w) a S n
 |.ins C dx fs=>H dx=some (.own a)/\fs.length<=1000/\dx≠a/\h.get? a=some (kZ C dx)/\
   ∃mA,h.Ns1 dx mA/\(∀f,En (fs.lookup f) (mA f))/\SH mA (fs.map (·.1))
 |.own _=>∃o,h.get? a=some o
 |.xd fs=>∃mA,h.Ns1 a mA/\∀f,En (fs.lookup f) (mA f)
 |.rng lo hi=>∃t u v,h.get? a=some {cls:=.type "range",data:=.fields #[.int lo t,.int hi u,.int 1 v]}
 |.Oz o u=>h.get? a=some o/\kP H h a u
 |.tbl ps=>h.get? a=some {cls:=.none,data:=.fields ps}
 |.met f x=>h.get? a=some (G_ (.ref f) (.ref x))
 |.ext φ=>φ h/\(∃o,h.get? a=some o)/\∀h1 h2:cY,φ h1->(∀o,h1.get? a=some o->h2.get? a=some o)->φ h2
def CA(H:Hp)(h:cY):Prop:=∀a o,H a=some o->kP P w H h a o
end
section
variable{P:bD}{w:cC}{H H':Hp}{h h':cY}{a:ak}{o:HO}
theorem kP.lt(x:kP P w H h a o):a<h.objs.size:=by
 cases o with
 |lst xs=>obtain⟨_,_,_,_,e⟩:=x;exact bU e
 |tup xs=>obtain⟨_,_,_,p⟩:=x;exact p.lt
 |dK dh=>obtain⟨_,_,_,_,o,_,_,e,_⟩:=x;exact bU e
 |dT dh=>obtain⟨_,_,_,_,o,_,_,e,_⟩:=x;exact bU e
 |set S n=>obtain⟨o,_,_,_,e,_⟩:=x;exact bU e
 |ins C dx fs=>obtain⟨_,_,_,e,_⟩:=x;exact bU e
 |own y=>obtain⟨_,e⟩:=x;exact bU e
 |xd fs=>obtain⟨_,⟨_,_,_,e,_⟩,_⟩:=x;exact bU e
 |rng lo hi=>obtain⟨_,_,_,e⟩:=x;exact bU e
 |Oz ob u=>obtain⟨e,_⟩:=x;exact bU e
 |tbl ps=>exact bU (show h.get? a=some _ from x)
 |met f y=>exact bU (show h.get? a=some _ from x)
 |ext φ=>obtain⟨_,⟨_,e⟩,_⟩:=x;exact bU e
theorem Paired.adV{α β:Type}{F G:α->β->Prop}:∀{l₁:List α}{l₂:List β},Paired F l₁ l₂->(∀a b,F a b->G a b)->Paired G l₁ l₂
 |_,_,.nil,_=>.nil
 |_,_,.cons r t,f=>.cons (f _ _ r) (Paired.adV t f)
theorem kP.nZ(x:kP P w H h a o)(k:∀b u,(b=a\/H b=some (.own a))->h.get? b=some u->h'.get? b=some u)(ho:∀b,H b=some (.own a)->H' b=some (.own a))(ht:∀b xs,H b=some (.tup xs)->H' b=some (.tup xs)):kP P w H' h' a o:=by
 induction o with
 |lst xs=>obtain⟨z,fi,n,r,e⟩:=x;exact⟨z,fi,n,r,k _ _ (.inl rfl) e⟩
 |tup xs=>obtain⟨z,fi,r,ob,e,c⟩:=x;exact⟨z,fi,r,ob,k _ _ (.inl rfl) e,c⟩
 |dK dh=>obtain⟨z,y,vs,r,ob,es,ep,e,c⟩:=x;exact⟨z,y,vs,r,ob,es,ep,k _ _ (.inl rfl) e,c⟩
 |dT dh=>
  obtain⟨z,y,xs,r,ob,es,ep,e,c⟩:=x
  exact⟨z,y,xs,Paired.adV r fun p q z=>⟨z.1,ht _ _ z.2.1,z.2.2⟩,ob,es,ep,k _ _ (.inl rfl) e,c⟩
 |set S n=>obtain⟨ob,es,ep,t,e,c⟩:=x;exact⟨ob,es,ep,t,k _ _ (.inl rfl) e,c⟩
 |ins C dx fs=>
  obtain⟨d,z,ne,e,mA,⟨od,es,ep,e2,c⟩,r⟩:=x
  exact⟨ho _ d,z,ne,k _ _ (.inl rfl) e,mA,⟨od,es,ep,k _ _ (.inr d) e2,c⟩,r⟩
 |own y=>obtain⟨ob,e⟩:=x;exact⟨ob,k _ _ (.inl rfl) e⟩
 |xd fs=>obtain⟨mA,⟨od,es,ep,e,c⟩,r⟩:=x;exact⟨mA,⟨od,es,ep,k _ _ (.inl rfl) e,c⟩,r⟩
 |rng lo hi=>obtain⟨t,u,v,e⟩:=x;exact⟨t,u,v,k _ _ (.inl rfl) e⟩
 |Oz ob u ih=>obtain⟨e,q⟩:=x;exact⟨k _ _ (.inl rfl) e,ih q⟩
 |tbl ps=>
  have e:h.get? a=some {cls:=.none,data:=.fields ps}:=x
  show h'.get? a=some {cls:=.none,data:=.fields ps}
  exact k a _ (.inl rfl) e
 |met f y=>
  have e:h.get? a=some (G_ (.ref f) (.ref y)):=x
  show h'.get? a=some (G_ (.ref f) (.ref y))
  exact k a _ (.inl rfl) e
 |ext φ=>obtain⟨p,⟨o,e⟩,st⟩:=x;exact⟨st _ _ p fun o q=>k _ _ (.inl rfl) q,⟨o,k _ _ (.inl rfl) e⟩,st⟩
theorem CA.lt(x:CA P w H h)(e:H a=some o):a<h.objs.size:=(x a o e).lt
theorem CA.fresh(x:CA P w H h)(e:h.objs.size<=a):H a=none:=by
 cases q:H a with
 |none=>rfl
 |some u=>exact absurd (dw (x.lt q) e) (gI _)
theorem CA.kept(x:CA P w H h)(k:∀b u,h.get? b=some u->h'.get? b=some u):CA P w H h':=fun a o e=>
 (x a o e).nZ (fun b u _ q=>k b u q) (fun _ q=>q) fun _ _ q=>q
theorem CA.laid(x:CA P w H h)(k:∀b u,h.get? b=some u->h'.get? b=some u)(hp:h.objs.size<=a)(new:kP P w (upd H a o) h' a o):CA P w (upd H a o) h':=fun b u e=>by
 have hn:=x.fresh hp
 by_cases hb:b=a
 ·subst hb;rw[aE]at e;cases e;exact new
 ·rw[bY hb]at e
  exact(x b u e).nZ (fun c v _ q=>k c v q) (fun c q=>by rw[bY (cW q hn)];exact q) fun c xs q=>by rw[bY (cW q hn)];exact q
end
def Rd(H:Hp)(a:ak)(u:HO):Prop:=H a=some u\/∃o,H a=some (.Oz o u)
theorem Rd.ok{P:bD}{w:cC}{H:Hp}{h:cY}{a:ak}{u:HO}(r:Rd H a u)(x:CA P w H h):kP P w H h a u:=by
 rcases r with r|⟨o,r⟩
 ·exact x a u r
 ·obtain⟨_,q⟩:=x a _ r
  exact q
def Mut:Option HO->Prop
 |some (.lst _)=>True
 |some (.dK _)=>True
 |some (.dT _)=>True
 |some (.set _ _)=>True
 |some (.ins _ _ _)=>True
 |some (.ext _)=>True
 |_=>False
section
variable{P:bD}{w:cC}{H:Hp}{h h':cY}{x e:ak}{o':HO}
theorem CA.write(ok:CA P w H h)(mu:Mut (H x))(he:e=x\/H e=some (.own x))(k:∀b u,b≠e->h.get? b=some u->h'.get? b=some u)(heo:∃u,h'.get? e=some u)(new:kP P w (upd H x o') h' x o'):CA P w (upd H x o') h':=fun b u q=>by
 have afB:∀c y,H c=some (.own y)->c≠x:=fun c y r z=>by subst z;rw[r]at mu;exact mu
 have aiv:∀c xs,H c=some (.tup xs)->c≠x:=fun c xs r z=>by subst z;rw[r]at mu;exact mu
 by_cases hb:b=x
 ·subst hb;rw[aE]at q;cases q;exact new
 ·rw[bY hb]at q
  by_cases hbe:b=e
  ·have q':H b=some (.own x):=by
    rcases he with z|z
    ·exact absurd (hbe.trans z) hb
    ·rw[hbe];exact z
   rw[q]at q';cases q'
   obtain⟨v,hv⟩:=heo
   exact⟨v,by rw[hbe];exact hv⟩
  ·refine(ok b u q).nZ (fun c v hc r=>k c v ?_ r) (fun c r=>by rw[bY (afB c b r)];exact r) fun c xs r=>by rw[bY (aiv c xs r)];exact r
   rcases hc with rfl|hc
   ·exact hbe
   ·rintro rfl
    rcases he with z|z
    ·exact afB c b hc z
    ·rw[hc]at z;cases z;exact hb rfl
end
structure Un(fs ex:List ak)(H H':Hp)(h h':cY):Prop where
 keep:∀b o,h.get? b=some o->H b=none->b∉fs->b∉ex->h'.get? b=some o
 slot:∀b o,h.get? b=some o->H b=none->b∈fs->b∉ex->∃sl,h'.get? b=some {o with slots:=sl}
 free:∀b o,h.get? b=some o->H b=none->b∉ex->H' b=none
 there:∀b o,h.get? b=some o->b∉ex->∃o',h'.get? b=some o'
 MH:∀b xs,H b=some (.tup xs)->H' b=some (.tup xs)
 OA:∀b o u,H b=some (.Oz o u)->H' b=some (.Oz o u)
 QJ:∀b ps,H b=some (.tbl ps)->∃adX,H' b=some (.tbl (ps++adX))
section
variable{fs fs' ex ex':List ak}{H H1 H2:Hp}{h h1 h2 h':cY}{a x e:ak}{o:HO}
theorem Un.any(u:Un fs ex H H1 h h1){b:ak}{ob:mC}(q:h.get? b=some ob)(n:H b=none)(hx:b∉ex):∃sl,h1.get? b=some {ob with slots:=sl}:=by
 by_cases hb:b∈fs
 ·exact u.slot b ob q n hb hx
 ·exact⟨ob.slots,u.keep b ob q n hb hx⟩
theorem Un.kept(k:∀b u,h.get? b=some u->h'.get? b=some u):Un fs ex H H h h':=
 ⟨fun b ob q _ _ _=>k b ob q,fun b ob q _ _ _=>⟨ob.slots,k b ob q⟩,fun _ _ _ n _=>n,fun b ob q _=>⟨ob,k b ob q⟩,fun _ _ q=>q,fun _ _ _ q=>q,fun _ ps q=>⟨#[],by rw[q];simp⟩⟩
theorem Un.refl:Un fs ex H H h h:=Un.kept fun _ _ q=>q
theorem Un.laid(k:∀b u,h.get? b=some u->h'.get? b=some u)(hp:h.objs.size<=a)(hn:H a=none):Un fs ex H (upd H a o) h h' where
 keep:=fun b u q _ _ _=>k b u q
 slot:=fun b u q _ _ _=>⟨u.slots,k b u q⟩
 free:=fun b u q n _=>by rw[bY (d8 (dw (bU q) hp))];exact n
 there:=fun b u q _=>⟨u,k b u q⟩
 MH:=fun b xs q=>by rw[bY (cW q hn)];exact q
 OA:=fun b u xs q=>by rw[bY (cW q hn)];exact q
 QJ:=fun b ps q=>⟨#[],by rw[bY (cW q hn),q];simp⟩
theorem Un.write(mu:Mut (H x))(he:e=x\/H e=some (.own x))(k:∀b u,b≠e->h.get? b=some u->h'.get? b=some u)(heo:∃u,h'.get? e=some u):Un fs ex H (upd H x o) h h':=by
 have hx:∀b,H b=none->b≠x:=fun b n z=>by subst z;rw[n]at mu;exact mu
 have hb:∀b,H b=none->b≠e:=fun b n z=>by
  subst z
  rcases he with r|r
  ·exact hx b n r
  ·rw[n]at r;cases r
 have hm:∀b u,H b=some u->¬Mut (some u)->b≠x:=fun b u q nm z=>by subst z;rw[q]at mu;exact nm mu
 refine⟨fun b u q n _ _=>k b u (hb b n) q,fun b u q n _ _=>⟨u.slots,k b u (hb b n) q⟩,fun b u q n _=>by rw[bY (hx b n)];exact n,fun b u q _=>?_,
  fun b xs q=>by rw[bY (hm b _ q fun z=>z)];exact q,fun b u xs q=>by rw[bY (hm b _ q fun z=>z)];exact q,fun b ps q=>⟨#[],by rw[bY (hm b _ q fun z=>z),q];simp⟩⟩
 by_cases hbe:b=e
 ·subst hbe;exact heo
 ·exact⟨u,k b u hbe q⟩
end
def trk(h:cY)(H:Hp):List ak:=(bK h.objs.size).filter fun a=>(H a).isSome
def OB(h:cY)(H:Hp):cY:=PySem.W.hideAll h (trk h H)
theorem Ws(h:cY)(H:Hp):(OB h H).objs.size=h.objs.size:=PySem.W.hideAll_size _ _
theorem Yl{h:cY}{H:Hp}{b:ak}{o:mC}(e:h.get? b=some o)(n:H b=none):(OB h H).get? b=some o:=
 PySem.W.hideAll_get _ e fun hm=>by
  have q:(H b).isSome=true:=(cP.mp hm).2
  rw[n]at q;simp at q
theorem abp{h:cY}{H:Hp}{b:ak}{o:mC}(e:(OB h H).get? b=some o):h.get? b=some o/\H b=none:=by
 have e':h.get? b=some o:=PySem.W.of_hideAll (trk h H) e
 refine⟨e',?_⟩
 cases q:H b with
 |none=>rfl
 |some x=>
  have hm:b∈trk h H:=cP.mpr ⟨cH.mpr (bU e'),by simp[q]⟩
  have z:(OB h H).get? b=none:=PySem.W.hideAll_none (trk h H) hm
  rw[z]at e;cases e
structure Mod(K:ah)(mg:cM->Option ao)(base:cY):Prop where
 kin:K.In base
 glob:base.Ns f_ mg
 blt:∃mb,base.Ns builtinsNs mb/\∀x:cM,x≠"__name__"->mb x=r8 x
 nolimit:base.NoLimit
structure Cx where
 prog:bD
 w:cC
 K:ah
 mg:cM->Option ao
 base:cY
 A:eG
 N:List cM
 MI:aN
 H_0:Hp
 env:Ou
 outer:List Ou
 stack:List Ou
 ex:List ak
 fn:cM->Bool
 calm:Bool
 pn:List (ak×mC)
 xe:ao->aN->Prop
def Ym(l:List Ou):List ak:=l.filterMap (·.frame)
abbrev Cx.fs(X:Cx):List ak:=Ym X.outer
def Vis(sc:tY)(x:cM):Prop:=sc.names.lookup x=some .local\/sc.names.lookup x=some .cell\/sc.names.lookup x=some .free
def Loc(sc:tY)(x:cM):Prop:=sc.names.lookup x=some .local\/sc.names.lookup x=some .cell
def aiw(env:Ou)(h:cY)(m:cM->Option ao)(x:cM)(u:ao):Prop:=
 (env.kindOf x=some .local/\m x=some u)\/((env.kindOf x=some .cell\/env.kindOf x=some .free)/\∃c,env.cells.lookup x=some c/\h.IsCell c (some u))
structure Cx.Ok(X:Cx):Prop where
 mod:Mod X.K X.mg X.base
 kind:X.env.scope.kind=.function
 glob:X.env.globals=f_
 blt:X.env.builtins=builtinsNs
 above:X.MI.heap.objs.size<=X.env.locals
 inj:∀x y c,X.env.cells.lookup x=some c->X.env.cells.lookup y=some c->x=y
 has:∀x,(X.env.kindOf x=some .cell\/X.env.kindOf x=some .free)->∃c,X.env.cells.lookup x=some c
 cab:∀x c,X.fn x=true->X.env.cells.lookup x=some c->X.MI.heap.objs.size<=c
 hd:X.calm=true->X.A.handled=none
 frames:X.A.frames=some X.stack
 stk:X.stack=X.outer\/(X.stack=X.env::X.outer/\X.env.frame=some X.env.locals)
 exf:∀b∈X.ex,b≠X.env.locals/\∀x c,X.env.cells.lookup x=some c->c≠b
 bs:∀b o,X.base.get? b=some o->X.MI.heap.get? b=some o/\X.H_0 b=none
 bsz:X.base.objs.size<=X.MI.heap.objs.size
 Yn:∀b o,X.base.get? b=some o->b∉X.ex
 Yo:∀b∈X.ex,b∉X.fs
 Hr:X.MI.heap.FunFrames X.base X.outer
 frf:∀b∈X.fs,X.H_0 b=none
structure dO(X:Cx)(pins:List (ak×mC))(σ:List (Option V))(H:Hp)(s:aN):Prop where
 ok:X.Ok
 os:s.os=X.MI.os
 bare:Nm s.gens
 base:Un X.fs X.ex X.H_0 H X.MI.heap s.heap
 loc:∃m,s.heap.Ns X.env.locals m/\∀(i:Nat)(x:cM)(v:V),X.N[i]?=some x->σ[i]?=some (some v)->Vis X.env.scope x->∃u,gW v u/\aiw X.env s.heap m x u
 cell:∀x c,X.env.cells.lookup x=some c->∃v,s.heap.IsCell c v
 free:H X.env.locals=none
 CB:∀x c,X.env.cells.lookup x=some c->H c=none
 pin:∀p∈X.pn++pins,s.heap.get? p.1=some p.2/\H p.1=none/\p.1≠X.env.locals/\p.1∉X.fs/\∀v,p.2.data≠.cell v
 dz:CA X.prog X.w H s.heap
 len:σ.length=X.N.length
section
variable{X:Cx}{pins:List (ak×mC)}{σ:List (Option V)}{H H':Hp}{s:aN}{h':cY}
theorem Cx.Ok.aix(ok:X.Ok){b:ak}{o:mC}(e:X.base.get? b=some o):b∉X.fs:=fun hb=>by
 have:=(ok.Hr.mem hb).1
 rw[e]at this;cases this
theorem dO.bs(I:dO X pins σ H s):∀b o,X.base.get? b=some o->s.heap.get? b=some o/\H b=none:=fun b o e=>
 ⟨I.base.keep b o (I.ok.bs b o e).1 (I.ok.bs b o e).2 (I.ok.aix e) (I.ok.Yn b o e),I.base.free b o (I.ok.bs b o e).1 (I.ok.bs b o e).2 (I.ok.Yn b o e)⟩
theorem dO.bk(I:dO X pins σ H s):∀b o,X.base.get? b=some o->s.heap.get? b=some o:=fun b o e=>(I.bs b o e).1
theorem dO.mod(I:dO X pins σ H s):Mod X.K X.mg X.base:=I.ok.mod
theorem dO.SO(I:dO X pins σ H s):X.K.In s.heap:=I.ok.mod.kin.keeps I.bk
theorem dO.lt(I:dO X pins σ H s):X.env.locals<s.heap.objs.size:=let⟨_,hn,_⟩:=I.loc;hn.lt
theorem dO.sz(I:dO X pins σ H s):X.MI.heap.objs.size<=s.heap.objs.size:=bQ I.ok.above (qM I.lt)
theorem dO.aiy(I:dO X pins σ H s){a:ak}(h:s.heap.objs.size<=a):a∉X.fs:=fun hb=>by
 obtain⟨_,o,ho,_⟩:=I.ok.Hr.mem hb
 exact absurd (dw (bU ho) (bQ I.sz h)) (gI _)
theorem dO.cne(I:dO X pins σ H s):∀x c,X.env.cells.lookup x=some c->c≠X.env.locals:=fun x c e z=>by
 obtain⟨v,o,ho,hd⟩:=I.cell x c e
 obtain⟨m,⟨o',es,ep,SQ,J9,_⟩,_⟩:=I.loc
 rw[z,SQ]at ho;cases ho;rw[J9]at hd;cases hd
theorem dO.Hr(I:dO X pins σ H s):s.heap.FunFrames X.base X.outer:=by
 have all:∀(l:List Ou),(∀b∈Ym l,b∈X.fs)->X.MI.heap.FunFrames X.base l->s.heap.FunFrames X.base l:=by
  intro l
  induction l with
  |nil=>intro _ _;trivial
  |cons env r ih=>
   intro hs hl
   obtain⟨hk,⟨L,o,hf,hn,ho,hd⟩,hr⟩:=hl
   have hL:L∈X.fs:=hs L (by unfold Ym;rw[rB,hf];exact cV)
   obtain⟨sl,e⟩:=I.base.slot L o ho (I.ok.frf L hL) hL fun z=>I.ok.Yo L z hL
   exact⟨hk,⟨L,_,hf,hn,e,hd⟩,ih (fun b hb=>hs b (by unfold Ym;rw[rB,hf];exact bO _ hb)) hr⟩
 exact all X.outer (fun _ hb=>hb) I.ok.Hr
theorem dO.stack(I:dO X pins σ H s):s.heap.FunFrames X.base X.stack:=by
 rcases I.ok.stk with e|⟨e,hf⟩
 ·rw[e];exact I.Hr
 ·rw[e]
  obtain⟨m,hn,_⟩:=I.loc
  refine .cons (by rw[I.ok.kind];decide) hf hn ?_ I.Hr
  exact Heap.get?_none_of_le (bQ I.ok.bsz I.ok.above)
theorem dO.Ti(I:dO X pins σ H s):∀b∈Ym X.stack,b∈X.env.locals::X.fs:=fun b hb=>by
 rcases I.ok.stk with e|⟨e,hf⟩
 ·rw[e]at hb;exact bO _ hb
 ·rw[e]at hb
  unfold Ym at hb
  rw[rB,hf]at hb
  exact hb
theorem dO.Vn(I:dO X pins σ H s):∀b∈Ym X.stack,H b=none:=fun b hb=>by
 rcases aW.mp (I.Ti b hb)with e|hb
 ·rw[e];exact I.free
 ·obtain⟨_,o,ho,_⟩:=I.ok.Hr.mem hb
  exact I.base.free b o ho (I.ok.frf b hb) fun z=>I.ok.Yo b z hb
theorem dO.step{g':Array GenState}{t':Nat}{d':Drawn}{ch:List ak}(I:dO X pins σ H s)(hch:∀b∈ch,(b∈X.ex\/X.MI.heap.objs.size<=b)/\b≠X.env.locals/\(∀x c,X.env.cells.lookup x=some c->c≠b)/\∀p∈X.pn++pins,p.1≠b)(keep:∀b o,b≠X.env.locals->b∉X.fs->b∉ch->s.heap.get? b=some o->H b=none->h'.get? b=some o)(slot:∀b o,b≠X.env.locals->b∈X.fs->b∉ch->s.heap.get? b=some o->H b=none->∃sl,h'.get? b=some {o with slots:=sl})(free:∀b o,b∉ch->s.heap.get? b=some o->H b=none->H' b=none)(there:∀b o,b∉ch->s.heap.get? b=some o->∃o',h'.get? b=some o')(MH:∀b xs,H b=some (.tup xs)->H' b=some (.tup xs))(OA:∀b o u,H b=some (.Oz o u)->H' b=some (.Oz o u))(QJ:∀b ps,H b=some (.tbl ps)->∃adX,H' b=some (.tbl (ps++adX)))(ns:∀m,s.heap.Ns X.env.locals m->h'.Ns X.env.locals m)(dz:CA X.prog X.w H' h')(hg:Nm g'):dO X pins σ H' {s with heap:=h',gens:=g',drawn:=d',toks:=t'}:=by
 have neL:∀b o,X.MI.heap.get? b=some o->b≠X.env.locals:=fun b o e=>d8 (dw (bU e) I.ok.above)
 have neC:∀b o,X.MI.heap.get? b=some o->b∉X.ex->b∉ch:=fun b o e hx hb=>by
  rcases(hch b hb).1 with z|z
  ·exact hx z
  ·exact absurd (dw (bU e) z) (gI _)
 have acZ:∀x c,X.env.cells.lookup x=some c->∀v,s.heap.IsCell c v->h'.IsCell c v:=fun x c e v⟨o,ho,hd⟩=>by
  have nch:c∉ch:=fun z=>(hch c z).2.2.1 x c e rfl
  by_cases hc:c∈X.fs
  ·obtain⟨sl,q⟩:=slot c o (I.cne x c e) hc nch ho (I.CB x c e)
   exact⟨_,q,hd⟩
  ·exact⟨o,keep c o (I.cne x c e) hc nch ho (I.CB x c e),hd⟩
 refine⟨I.ok,I.os,hg,⟨fun b o e n hb hx=>?_,fun b o e n hb hx=>?_,fun b o e n hx=>?_,fun b o e hx=>?_,fun b xs e=>MH b xs (I.base.MH b xs e),fun b o xs e=>OA b o xs (I.base.OA b o xs e),fun b ps e=>?_⟩,?_,fun x c e=>?_,?_,fun x c e=>?_,fun p hp=>?_,dz,I.len⟩
 ·exact keep b o (neL b o e) hb (neC b o e hx) (I.base.keep b o e n hb hx) (I.base.free b o e n hx)
 ·obtain⟨sl,e1⟩:=I.base.slot b o e n hb hx
  obtain⟨sl',e2⟩:=slot b _ (neL b o e) hb (neC b o e hx) e1 (I.base.free b o e n hx)
  exact⟨sl',e2⟩
 ·obtain⟨o',e1⟩:=I.base.there b o e hx
  exact free b o' (neC b o e hx) e1 (I.base.free b o e n hx)
 ·obtain⟨o',e1⟩:=I.base.there b o e hx
  exact there b o' (neC b o e hx) e1
 ·obtain⟨m1,e1⟩:=I.base.QJ b ps e
  obtain⟨m2,e2⟩:=QJ b _ e1
  exact⟨m1++m2,by rw[e2,Array.append_assoc]⟩
 ·obtain⟨m,hn,hl⟩:=I.loc
  refine⟨m,ns m hn,fun i x v e1 e2 e3=>?_⟩
  obtain⟨u,r,l⟩:=hl i x v e1 e2 e3
  refine⟨u,r,?_⟩
  rcases l with l|⟨k,c,e,z⟩
  ·exact .inl l
  ·exact .inr ⟨k,c,e,acZ x c e _ z⟩
 ·obtain⟨v,z⟩:=I.cell x c e
  exact⟨v,acZ x c e v z⟩
 ·obtain⟨m,⟨o,_,_,ho,_⟩,_⟩:=I.loc
  exact free _ o (fun z=>(hch _ z).2.1 rfl) ho I.free
 ·obtain⟨v,o,ho,hd⟩:=I.cell x c e
  exact free c o (fun z=>(hch c z).2.2.1 x c e rfl) ho (I.CB x c e)
 ·obtain⟨e,n,ne,nf,d⟩:=I.pin p hp
  have nch:p.1∉ch:=fun z=>(hch p.1 z).2.2.2 p hp rfl
  exact⟨keep p.1 p.2 ne nf nch e n,free p.1 p.2 nch e n,ne,nf,d⟩
theorem dO.un{t':Nat}(I:dO X pins σ H s)(u:Un X.fs [] H H' s.heap h')(dz:CA X.prog X.w H' h'):dO X pins σ H' {s with heap:=h',toks:=t'}:=by
 obtain⟨m,⟨o,es,ep,ho,r⟩,_⟩:=id I.loc
 obtain⟨sl,hL⟩:=u.any ho I.free (by simp)
 exact I.step (g':=s.gens) (d':=s.drawn) (ch:=[]) (fun _ z=>nomatch z) (fun b o _ hb _ e n=>u.keep b o e n hb (by simp)) (fun b o _ hb _ e n=>u.slot b o e n hb (by simp)) (fun b o _ e n=>u.free b o e n (by simp)) (fun b o _ e=>u.there b o e (by simp)) u.MH u.OA u.QJ (fun m' hm=>by
  obtain⟨o',es',Tj,SQ,r'⟩:=hm
  rw[ho]at SQ;cases SQ
  exact⟨_,es',Tj,hL,r'⟩) dz I.bare
theorem dO.call{g':Array GenState}{t':Nat}{d':Drawn}{ch:List ak}(I:dO X pins σ H s)(u:Un (Ym X.stack) ch H H' s.heap h')(dz:CA X.prog X.w H' h')(hg:Nm g')(hch:∀b∈ch,(b∈X.ex\/X.MI.heap.objs.size<=b)/\b≠X.env.locals/\(∀x c,X.env.cells.lookup x=some c->c≠b)/\∀p∈X.pn++pins,p.1≠b):dO X pins σ H' {s with heap:=h',gens:=g',drawn:=d',toks:=t'}:=by
 obtain⟨m,⟨o,es,ep,ho,r⟩,_⟩:=id I.loc
 obtain⟨sl,hL⟩:=u.any ho I.free fun z=>(hch _ z).2.1 rfl
 exact I.step (ch:=ch) hch (fun b o hL hb hc e n=>u.keep b o e n (fun z=>(aW.mp (I.Ti b z)).elim hL hb) hc) (fun b o _ _ hc e n=>u.any e n hc) (fun b o hc e n=>u.free b o e n hc) (fun b o hc e=>u.there b o e hc) u.MH u.OA u.QJ (fun m' hm=>by
  obtain⟨o',es',Tj,SQ,r'⟩:=hm
  rw[ho]at SQ;cases SQ
  exact⟨_,es',Tj,hL,r'⟩) dz hg
theorem dO.turned{t':Nat}{it:ak}(I:dO X pins σ H s)(k:∀b o,b≠it->s.heap.get? b=some o->h'.get? b=some o)(hn:H it=none)(hL:it≠X.env.locals)(h1:it∈X.ex\/X.MI.heap.objs.size<=it)(h2:∀x c,X.env.cells.lookup x=some c->c≠it)(h3:∀p∈X.pn++pins,p.1≠it):dO X pins σ H {s with heap:=h',toks:=t'}:=by
 have nit:∀b u,H b=some u->b≠it:=fun b u e z=>by rw[z,hn]at e;cases e
 refine I.step (g':=s.gens) (d':=s.drawn) (ch:=[it]) (fun b hb=>?_) (fun b o _ _ hc e _=>k b o (fun z=>hc (by simp[z])) e) (fun b o _ _ hc e _=>⟨o.slots,k b o (fun z=>hc (by simp[z])) e⟩) (fun _ _ _ _ n=>n)
  (fun b o hc e=>⟨o,k b o (fun z=>hc (by simp[z])) e⟩) (fun _ _ e=>e) (fun _ _ _ e=>e) (fun b ps e=>⟨#[],by rw[e];simp⟩) (fun m hm=>?_) (fun b u e=>?_) I.bare
 ·have e:b=it:=by simpa using hb
  subst e
  exact⟨h1,hL,h2,h3⟩
 ·obtain⟨o,es,ep,ho,r⟩:=hm
  exact⟨o,es,ep,k _ o (iG hL) ho,r⟩
 ·refine(I.dz b u e).nZ (fun c v hc q=>k c v ?_ q) (fun _ q=>q) fun _ _ q=>q
  rcases hc with z|z
  ·rw[z];exact nit b u e
  ·exact nit c _ z
theorem dO.tok(I:dO X pins σ H s)(t:Nat):dO X pins σ H {s with toks:=t}:=I.un (h':=s.heap) (t':=t) Un.refl I.dz
theorem dO.kept{t':Nat}(I:dO X pins σ H s)(k:∀b u,s.heap.get? b=some u->h'.get? b=some u):dO X pins σ H {s with heap:=h',toks:=t'}:=I.un (Un.kept k) (I.dz.kept k)
theorem dO.laid{a:ak}{o:HO}{t':Nat}(I:dO X pins σ H s)(k:∀b u,s.heap.get? b=some u->h'.get? b=some u)(hp:s.heap.objs.size<=a)(new:kP X.prog X.w (upd H a o) h' a o):dO X pins σ (upd H a o) {s with heap:=h',toks:=t'}:=I.un (Un.laid k hp (I.dz.fresh hp)) (I.dz.laid k hp new)
theorem dO.write{x e:ak}{o:HO}{t':Nat}(I:dO X pins σ H s)(mu:Mut (H x))(he:e=x\/H e=some (.own x))(k:∀b u,b≠e->s.heap.get? b=some u->h'.get? b=some u)(heo:∃u,h'.get? e=some u)(new:kP X.prog X.w (upd H x o) h' x o):dO X pins σ (upd H x o) {s with heap:=h',toks:=t'}:=I.un (Un.write mu he k heo) (I.dz.write mu he k heo new)
theorem dO.weak{σ':List (Option V)}(I:dO X pins σ H s)(hl:σ'.length=σ.length)(w:∀(i:Nat)v,σ'[i]?=some (some v)->σ[i]?=some (some v)):dO X pins σ' H s:=
 ⟨I.ok,I.os,I.bare,I.base,let⟨m,hn,hl'⟩:=I.loc;⟨m,hn,fun i x v e1 e2 e3=>hl' i x v e1 (w i v e2) e3⟩,I.cell,I.free,I.CB,I.pin,I.dz,hl.trans I.len⟩
theorem dO.Vo{ac1:List (ak×mC)}(I:dO X pins σ H s)(h:∀p∈ac1,s.heap.get? p.1=some p.2/\H p.1=none/\p.1≠X.env.locals/\p.1∉X.fs/\∀v,p.2.data≠.cell v):dO X ac1 σ H s:=
 ⟨I.ok,I.os,I.bare,I.base,I.loc,I.cell,I.free,I.CB,fun p hp=>(aX.mp hp).elim (fun z=>I.pin p (We _ z)) (h p),I.dz,I.len⟩
theorem KC{N:List cM}(hN:N.Nodup){i j:Nat}{x:cM}(a:N[i]?=some x)(b:N[j]?=some x):i=j:=by
 obtain⟨h1,e1⟩:=az.mp a
 obtain⟨h2,e2⟩:=az.mp b
 exact(List.getElem_inj hN).mp (e1.trans e2.symm)
theorem NB{M:acJ}{A:eG}{E:ao->aN->Prop}{i:Nat}{x:cM}{v:V}{u:ao}{Q:Unit->aN->Prop}(I:dO X pins σ H s)(hN:X.N.Nodup)(hi:X.N[i]?=some x)(hx:Loc X.env.scope x)(r:gW v u)
  (h:∀s',dO X pins (σ.set i (some v)) H s'->(∃a,Jh a s.heap s'.heap/\(a=X.env.locals\/X.env.cells.lookup x=some a))->Q () s')(hf:X.fn x=true\/X.env.scope.names.lookup x=some .local:=by first|exact .inl rfl|exact .inr rfl|assumption):b8 M A (storeName X.env x u) Q E s:=by
 obtain⟨m,hn,hl⟩:=id I.loc
 have aiB:(X.env.scope.kind== .class||(X.env.scope.kind== .module&&X.env.locals != X.env.globals))=false:=by rw[I.ok.kind];rfl
 have hiσ:i<σ.length:=by rw[I.len];exact(az.mp hi).1
 have cne:=I.cne
 have Vp:∀{a:ak}{h':cY},(∃o,s.heap.get? a=some o/\H a=none)->Jh a s.heap h'->CA X.prog X.w H h':=fun{a h'}ha hs b ob e=>by
  obtain⟨_,_,NC⟩:=ha
  refine(I.dz b ob e).nZ (fun c w' hc q=>(hs.2 c ?_).trans q) (fun _ q=>q) fun _ _ q=>q
  rintro rfl
  rcases hc with rfl|hc
  ·rw[NC]at e;cases e
  ·rw[NC]at hc;cases hc
 rcases hx with hk|hk
 ·refine wpAny_storeName_local hk hn (fun h' hn' hs=>?_) aiB
  obtain⟨oL,_,_,hoL,_⟩:=id hn
  refine h _ ⟨I.ok,I.os,I.bare,⟨fun b o e n hb hx=>?_,fun b o e n hb hx=>?_,I.base.free,fun b o e hx=>?_,I.base.MH,I.base.OA,I.base.QJ⟩,⟨_,hn',fun j y v' e1 e2 e3=>?_⟩,fun y c e=>?_,I.free,I.CB,fun p hp=>?_,Vp ⟨oL,hoL,I.free⟩ hs,by simpa using I.len⟩ ⟨_,hs,.inl rfl⟩
  ·exact(hs.2 b (d8 (dw (bU e) I.ok.above))).trans (I.base.keep b o e n hb hx)
  ·obtain⟨sl,e1⟩:=I.base.slot b o e n hb hx
   exact⟨sl,(hs.2 b (d8 (dw (bU e) I.ok.above))).trans e1⟩
  ·obtain⟨o',e1⟩:=I.base.there b o e hx
   exact⟨o',(hs.2 b (d8 (dw (bU e) I.ok.above))).trans e1⟩
  ·by_cases hj:j=i
   ·subst hj
    rw[hi]at e1;cases e1
    rw[Cs hiσ]at e2
    cases e2
    exact⟨u,r,.inl ⟨hk,by simp⟩⟩
   ·rw[EU (iG hj)]at e2
    obtain⟨u',r',q⟩:=hl j y v' e1 e2 e3
    refine⟨u',r',?_⟩
    rcases q with⟨k,e⟩|⟨k,c,e,z⟩
    ·refine .inl ⟨k,?_⟩
     have:y≠x:=fun e=>hj (KC hN e1 (e▸hi))
     simp[this,e]
    ·exact .inr ⟨k,c,e,z.sameBut hs (cne y c e)⟩
  ·obtain⟨w',z⟩:=I.cell y c e
   exact⟨w',z.sameBut hs (cne y c e)⟩
  ·obtain⟨e,n,ne,nf,d⟩:=I.pin p hp
   exact⟨(hs.2 p.1 ne).trans e,n,ne,nf,d⟩
 ·have hfn:X.fn x=true:=by
   rcases hf with z|z
   ·exact z
   ·rw[z]at hk;cases hk
  obtain⟨c,hc⟩:=I.ok.has x (.inl hk)
  obtain⟨w',z⟩:=I.cell x c hc
  refine wpAny_storeName_cell I.ok.kind hk hc z (fun h' Tg hs=>?_)
  obtain⟨oc,hoc,aiD⟩:=id z
  refine h {s with heap:=h'} ⟨I.ok,I.os,I.bare,⟨fun b o e n hb hx=>?_,fun b o e n hb hx=>?_,I.base.free,fun b o e hx=>?_,I.base.MH,I.base.OA,I.base.QJ⟩,⟨m,hn.sameBut hs (iG (cne x c hc)),fun j y v' e1 e2 e3=>?_⟩,fun y c' e=>?_,I.free,I.CB,fun p hp=>?_,Vp ⟨oc,hoc,I.CB x c hc⟩ hs,by simpa using I.len⟩ ⟨c,hs,.inr hc⟩
  ·exact(hs.2 b (d8 (dw (bU e) (I.ok.cab x c hfn hc)))).trans (I.base.keep b o e n hb hx)
  ·obtain⟨sl,e1⟩:=I.base.slot b o e n hb hx
   exact⟨sl,(hs.2 b (d8 (dw (bU e) (I.ok.cab x c hfn hc)))).trans e1⟩
  ·obtain⟨o',e1⟩:=I.base.there b o e hx
   exact⟨o',(hs.2 b (d8 (dw (bU e) (I.ok.cab x c hfn hc)))).trans e1⟩
  ·by_cases hj:j=i
   ·subst hj
    rw[hi]at e1;cases e1
    rw[Cs hiσ]at e2
    cases e2
    exact⟨u,r,.inr ⟨.inl hk,c,hc,Tg⟩⟩
   ·rw[EU (iG hj)]at e2
    obtain⟨u',r',q⟩:=hl j y v' e1 e2 e3
    refine⟨u',r',?_⟩
    rcases q with q|⟨k,c',e,z'⟩
    ·exact .inl q
    ·refine .inr ⟨k,c',e,z'.sameBut hs ?_⟩
     rintro rfl
     exact hj (KC hN e1 (I.ok.inj _ _ _ e hc▸hi))
  ·by_cases hcc:c'=c
   ·subst hcc;exact⟨_,Tg⟩
   ·obtain⟨w2,z2⟩:=I.cell y c' e
    exact⟨w2,z2.sameBut hs hcc⟩
  ·obtain⟨e,n,ne,nf,d⟩:=I.pin p hp
   refine⟨(hs.2 p.1 ?_).trans e,n,ne,nf,d⟩
   intro q
   rw[q,hoc]at e
   have q':oc=p.2:=bH e
   exact d w' (by rw[<-q'];exact aiD)
theorem KD{M:acJ}{A:eG}{E:ao->aN->Prop}{i:Nat}{x:cM}{v:V}{u:ao}{Q:Unit->aN->Prop}(I:dO X pins σ H s)(hN:X.N.Nodup)(hi:X.N[i]?=some x)(hx:Loc X.env.scope x)(r:gW v u)
  (h:∀s',dO X pins (σ.set i (some v)) H s'->Q () s')(hf:X.fn x=true\/X.env.scope.names.lookup x=some .local:=by first|exact .inl rfl|exact .inr rfl|assumption):b8 M A (storeName X.env x u) Q E s:=
 NB I hN hi hx r (fun s' I' _=>h s' I') hf
theorem dO.afH{s':aN}{ch:List ak}(I:dO X pins σ H s)(ho:s'.os=s.os)(u:Un (Ym X.stack) ch H H' s.heap s'.heap)(dz:CA X.prog X.w H' s'.heap)(hg:Nm s'.gens)(hch:∀b∈ch,(b∈X.ex\/X.MI.heap.objs.size<=b)/\b≠X.env.locals/\(∀x c,X.env.cells.lookup x=some c->c≠b)/\∀p∈X.pn++pins,p.1≠b):dO X pins σ H' s':=by
 obtain⟨h',g',d',t',o'⟩:=s'
 have e:o'=s.os:=ho
 subst e
 exact I.call (g':=g') (t':=t') (d':=d') u dz hg hch
end
abbrev XK:=ao->Option ak->Hp->Prop
abbrev St:=List (Option V)
abbrev VK:=V->Hp->Prop
abbrev TE:=St->Hp->VK->Prop
abbrev TT:=St->Hp->(Bool->Hp->Prop)->Prop
abbrev TA:=St->Hp->(List V->Hp->Prop)->Prop
structure KG where
 nx:St->Hp->Prop
 rt:VK
 bk:St->Hp->Prop:=fun _ _=>False
 ct:St->Hp->Prop:=fun _ _=>False
abbrev TS:=KG->St->Hp->Prop
def EP(X:Cx)(pins:List (ak×mC))(σ:St)(Q:VK)(u:ao)(s':aN):Prop:=∃v H',dO X pins σ H' s'/\gW v u/\Q v H'
def TP(X:Cx)(pins:List (ak×mC))(σ:St)(Q:Bool->Hp->Prop)(b:Bool)(s':aN):Prop:=∃H',dO X pins σ H' s'/\Q b H'
def AP(X:Cx)(pins:List (ak×mC))(σ:St)(Q:List V->Hp->Prop)(us:List ao)(s':aN):Prop:=∃vs H',dO X pins σ H' s'/\eU vs us/\Q vs H'
def SP(X:Cx)(pins:List (ak×mC))(D:KG)(f:Flow)(s':aN):Prop:=
 match f with
 |.next=>∃σ' H',dO X pins σ' H' s'/\D.nx σ' H'
 |.brk=>∃σ' H',dO X pins σ' H' s'/\D.bk σ' H'
 |.cont=>∃σ' H',dO X pins σ' H' s'/\D.ct σ' H'
 |.ret u=>∃v σ' H',dO X pins σ' H' s'/\gW v u/\D.rt v H'
def PE(X:Cx)(e:fK)(t:TE):Prop:=
 ∀(pins:List (ak×mC))(s:aN)(σ:St)(H:Hp)(Q:VK),dO X pins σ H s->t σ H Q->b8 (cI X.prog X.w) X.A (eval e X.env) (EP X pins σ Q) X.xe s
def PT(X:Cx)(e:fK)(t:TT):Prop:=
 ∀(pins:List (ak×mC))(s:aN)(σ:St)(H:Hp)(Q:Bool->Hp->Prop),dO X pins σ H s->t σ H Q->b8 (cI X.prog X.w) X.A (isTrue e X.env (eval e X.env)) (TP X pins σ Q) X.xe s
def PW(X:Cx)(e:fK)(t:TT):Prop:=
 ∀(whole:Sem ao)(pins:List (ak×mC))(s:aN)(σ:St)(H:Hp)(Q:Bool->Hp->Prop),dO X pins σ H s->t σ H Q->b8 (cI X.prog X.w) X.A (isTrue e X.env whole) (TP X pins σ Q) X.xe s
theorem PW.pt{X:Cx}{e:fK}{t:TT}(h:PW X e t):PT X e t:=h _
def PA(X:Cx)(es:List fK)(t:TA):Prop:=
 ∀(pos:AB)(pins:List (ak×mC))(s:aN)(σ:St)(H:Hp)(Q:List V->Hp->Prop),dO X pins σ H s->t σ H Q->b8 (cI X.prog X.w) X.A (spliced (jI pos (b_ es X.env))) (AP X pins σ Q) X.xe s
def PS(X:Cx)(st:d9)(t:TS):Prop:=
 ∀(pins:List (ak×mC))(s:aN)(σ:St)(H:Hp)(D:KG),dO X pins σ H s->t D σ H->b8 (cI X.prog X.w) X.A (exec st X.env) (SP X pins D) X.xe s
def SR(X:Cx)(st:List d9)(t:TS):Prop:=
 ∀(pins:List (ak×mC))(s:aN)(σ:St)(H:Hp)(D:KG),dO X pins σ H s->t D σ H->b8 (cI X.prog X.w) X.A (execs st X.env) (SP X pins D) X.xe s
theorem jw{α:Type}{t:Sem α}{Q Q':α->aN->Prop}{M:acJ}{A:eG}{E:ao->aN->Prop}{s:aN}(h:b8 M A t Q E s)(hQ:∀a s,Q a s->Q' a s):b8 M A t Q' E s:=i9 h hQ fun _ _ x=>x
section
variable{X:Cx}
def adZ(i:Nat):TE:=fun σ H Q=>∃v,σ[i]?=some (some v)/\Q v H
def tC(v:V):TE:=fun _ H Q=>Q v H
theorem ad0{i:Nat}{x:cM}{pos:AB}(hN:X.N[i]?=some x)(hv:Vis X.env.scope x)(hd:(x==("__debug__":cM))=false:=by decide)(hcd:(x==("__classdict__":cM))=false:=by decide):PE X (.Name x pos) (adZ i):=by
 intro pins s σ H Q I h
 obtain⟨v,e,h⟩:=h
 obtain⟨m,hn,hl⟩:=I.loc
 obtain⟨u,r,l⟩:=hl i x v hN e hv
 have fin:EP X pins σ Q u s:=⟨v,H,I,r,h⟩
 rcases l with⟨hk,hm⟩|⟨hk,c,hc,Vq⟩
 ·exact wpAny_Name (acK I.ok.kind hk hn hm fin) hd
 ·rcases hk with hk|hk
  ·exact wpAny_Name (adF I.ok.kind hk hc Vq fin) hd
  ·exact wpAny_Name (wpAny_loadName_free I.ok.kind hk hc Vq fin hcd) hd
theorem b9{i j pos}:PE X (.Constant (.int i) j pos) (tC (.int i)):=fun _ _ _ H _ I h=>wpAny_Constant_int ⟨.int i,H,I.tok _,⟨_,rfl⟩,h⟩
theorem QK{b j pos}:PE X (.Constant (.bool b) j pos) (tC (.bl b)):=fun _ _ _ H _ I h=>Constant_bool ⟨.bl b,H,I,rfl,h⟩
theorem xx{j pos}:PE X (.Constant .none j pos) (tC .jX):=fun _ _ _ H _ I h=>XG ⟨.jX,H,I,rfl,h⟩
def Gl(X:Cx)(x:cM):Prop:=X.env.kindOf x=some .globalImplicit
theorem J_{E:ao->aN->Prop}{pins:List (ak×mC)}{s:aN}{σ:St}{H:Hp}{x:cM}{u:ao}{pos:AB}{Q:ao->aN->Prop}(I:dO X pins σ H s)(hg:Gl X x)(hm:X.mg x=some u)(h:Q u s)
  (hd:(x==("__debug__":cM))=false:=by decide):b8 (cI X.prog X.w) X.A (eval (.Name x pos) X.env) Q E s:=
 Np I.ok.kind hg (Calls.loadGlobal_global (by rw[I.ok.glob];exact I.mod.glob.keeps I.bk) hm h) hd
theorem AU{E:ao->aN->Prop}{pins:List (ak×mC)}{s:aN}{σ:St}{H:Hp}{x:cM}{u:ao}{pos:AB}{Q:ao->aN->Prop}(I:dO X pins σ H s)(hg:Gl X x)(hm:X.mg x=none)(hv:r8 x=some u)(h:Q u s)
  (hn:x≠"__name__":=by decide)(hd:(x==("__debug__":cM))=false:=by decide):b8 (cI X.prog X.w) X.A (eval (.Name x pos) X.env) Q E s:=by
 obtain⟨mb,h1,h2⟩:=I.mod.blt
 exact Np I.ok.kind hg (Calls.loadGlobal_builtin (by rw[I.ok.glob];exact I.mod.glob.keeps I.bk) hm (by rw[I.ok.blt];exact h1.keeps I.bk) ((h2 x hn).trans hv) h) hd
theorem OC{x:cM}{v:V}{u:ao}{pos:AB}(hg:Gl X x)(hm:X.mg x=some u)(r:gW v u)(hd:(x==("__debug__":cM))=false:=by decide):PE X (.Name x pos) (tC v):=
 fun _ _ _ H _ I h=>J_ I hg hm ⟨v,H,I,r,h⟩ hd
variable{a b:fK}{ta tb:TE}{pos:AB}
def PC(X:Cx)(op:Qv)(a b:fK)(t:TE):Prop:=
 ∀(pins:List (ak×mC))(s:aN)(σ:St)(H:Hp)(Q:VK),dO X pins σ H s->t σ H Q->
  b8 (cI X.prog X.w) X.A (eval a X.env) (fun v s₁=>b8 (cI X.prog X.w) X.A (eval b X.env) (fun u s₂=>b8 (cI X.prog X.w) X.A (jh op v u) (EP X pins σ Q) X.xe s₂) X.xe s₁) X.xe s
theorem QL(b:fK){op:Qv}(h:op≠.In)(h2:op≠.NotIn):qp op b=false:=by
 have e1:(op==CmpOp.In)=false:=by cases op<;>first|rfl|exact absurd rfl h
 have e2:(op==CmpOp.NotIn)=false:=by cases op<;>first|rfl|exact absurd rfl h2
 cases b<;>simp[qp,e1,e2]
def aiE(ta:TE):TE:=fun σ H Q=>ta σ H fun x H1=>Q (.bl (decide (x=.jX))) H1
def afI(ta:TE):TE:=fun σ H Q=>ta σ H fun x H1=>Q (.bl (!decide (x=.jX))) H1
theorem gW.QM{x:V}{v:ao}(r:gW x v):(v==Co)=decide (x=.jX):=by
 cases x with
 |jX=>cases r;rfl
 |bl _=>cases r;rfl
 |int _=>obtain⟨t,rfl⟩:=r;rfl
 |str _=>obtain⟨t,rfl⟩:=r;rfl
 |QI _=>obtain⟨t,rfl⟩:=r;rfl
 |flt _=>obtain⟨t,rfl⟩:=r;rfl
 |ref _=>cases r;rfl
 |ty _=>cases r;rfl
theorem CF{j AV}(ha:PE X a ta):PC X .Is a (.Constant .none j AV) (aiE ta):=by
 intro pins s σ H Q I h
 refine jw (ha pins s σ H _ I h) fun v s1⟨x,H1,I1,r1,q1⟩=>?_
 exact XG (is_none_gen ⟨.bl _,H1,I1,by rw[r1.QM];rfl,q1⟩)
theorem J'{j AV}(ha:PE X a ta):PC X .IsNot a (.Constant .none j AV) (afI ta):=by
 intro pins s σ H Q I h
 refine jw (ha pins s σ H _ I h) fun v s1⟨x,H1,I1,r1,q1⟩=>?_
 exact XG (isnot_none_gen ⟨.bl _,H1,I1,by rw[r1.QM];rfl,q1⟩)
def tB(t:TE):TT:=fun σ H Q=>t σ H fun x H1=>∃c,x=.bl c/\Q c H1
theorem Tn{op:Qv}{t:TE}(h:PC X op a b t)(h1:qp op b=false:=by first|exact QL _ (by decide) (by decide)|rfl):PE X (.Compare a [op] [b] pos) t:=fun pins s σ H Q I hw=>wpAny_Compare1 (h pins s σ H Q I hw) h1
theorem ue{op:Qv}{t:TE}(h:PC X op a b t)(h1:qp op b=false:=by first|exact QL _ (by decide) (by decide)|rfl):PT X (.Compare a [op] [b] pos) (tB t):=by
 intro pins s σ H Q I hw
 refine abh (jw (h pins s σ H _ I hw) fun v s1 h1=>jw h1 fun u s2 h2=>jw h2 fun c s3⟨x,H1,I1,r1,q1⟩=>?_) h1
 obtain⟨d,rfl,q⟩:=q1
 cases r1
 exact gj ⟨H1,I1,q⟩
theorem rC{e:fK}{t:TE}(h:PE X e t)(he:∀whole,isTrue e X.env whole=(do let v<-whole;standAt e.pos;holding [v] (truthy v)):=by intro _;rfl):PT X e (tB t):=by
 intro pins s σ H Q I hw
 refine isTrue_plain (jw (h pins s σ H _ I hw) fun v s1⟨x,H1,I1,r1,q1⟩=>?_) (he _)
 obtain⟨d,rfl,q⟩:=q1
 cases r1
 exact gj ⟨H1,I1,q⟩
variable{tA tB':TT}{o9:List fK}
def aiF(t u:TT):TT:=fun σ H Q=>t σ H fun c H1=>if c=true then u σ H1 Q else Q false H1
def tOr(t u:TT):TT:=fun σ H Q=>t σ H fun c H1=>if c=true then Q true H1 else u σ H1 Q
def aiG(t:TT):TT:=fun σ H Q=>t σ H fun c H1=>Q (!c) H1
theorem OD(ha:PT X a tA):PW X (.BoolOp .And [a] pos) tA:=by
 intro wh pins s σ H Q I h
 refine isTrue_and (jw (ha pins s σ H Q I h) fun c s1 e=>?_)
 cases c with
 |true=>exact isTrue_and_nil e
 |false=>exact e
theorem Hs(ha:PT X a tA):PW X (.BoolOp .Or [a] pos) tA:=by
 intro wh pins s σ H Q I h
 refine isTrue_or (jw (ha pins s σ H Q I h) fun c s1 e=>?_)
 cases c with
 |false=>exact isTrue_or_nil e
 |true=>exact e
theorem To(ha:PT X a tA)(hb:PW X (.BoolOp .And (b::o9) pos) tB'):PW X (.BoolOp .And (a::b::o9) pos) (aiF tA tB'):=by
 intro wh pins s σ H Q I h
 refine isTrue_and (jw (ha pins s σ H _ I h) fun c s1⟨H1,I1,q1⟩=>?_)
 cases c with
 |true=>exact hb wh pins s1 σ H1 Q I1 q1
 |false=>exact⟨H1,I1,q1⟩
theorem KH(ha:PT X a tA)(hb:PW X (.BoolOp .Or (b::o9) pos) tB'):PW X (.BoolOp .Or (a::b::o9) pos) (tOr tA tB'):=by
 intro wh pins s σ H Q I h
 refine isTrue_or (jw (ha pins s σ H _ I h) fun c s1⟨H1,I1,q1⟩=>?_)
 cases c with
 |true=>exact⟨H1,I1,q1⟩
 |false=>exact hb wh pins s1 σ H1 Q I1 q1
theorem qw(ha:PT X a tA):PT X (.UnaryOp .Not a pos) (aiG tA):=by
 intro pins s σ H Q I h
 exact isTrue_not (ha pins s σ H (fun c H1=>Q (!c) H1) I h)
def afJ(ta tb:TE):TE:=fun σ H Q=>ta σ H fun x H1=>∃c,x=.bl c/\if c=true then tb σ H1 Q else Q (.bl false) H1
def aiH(ta tb:TE):TE:=fun σ H Q=>ta σ H fun x H1=>∃c,x=.bl c/\if c=true then Q (.bl true) H1 else tb σ H1 Q
theorem OE{op}{t:TE}(h:PE X a t):PE X (.BoolOp op [a] pos) t:=fun pins s σ H Q I hw=>BoolOp_one (h pins s σ H Q I hw)
theorem Yp(ha:PE X a ta)(hb:PE X (.BoolOp .And (b::o9) pos) tb):PE X (.BoolOp .And (a::b::o9) pos) (afJ ta tb):=by
 intro pins s σ H Q I h
 refine BoolOp_and (jw (ha pins s σ H _ I h) fun v s1⟨x,H1,I1,r1,q1⟩=>?_)
 obtain⟨c,rfl,q1⟩:=q1
 cases r1
 refine gj ?_
 cases c with
 |true=>exact hb pins s1 σ H1 Q I1 q1
 |false=>exact⟨.bl false,H1,I1,rfl,q1⟩
theorem Yq(ha:PE X a ta)(hb:PE X (.BoolOp .Or (b::o9) pos) tb):PE X (.BoolOp .Or (a::b::o9) pos) (aiH ta tb):=by
 intro pins s σ H Q I h
 refine BoolOp_or (jw (ha pins s σ H _ I h) fun v s1⟨x,H1,I1,r1,q1⟩=>?_)
 obtain⟨c,rfl,q1⟩:=q1
 cases r1
 refine gj ?_
 cases c with
 |false=>exact hb pins s1 σ H1 Q I1 q1
 |true=>exact⟨.bl true,H1,I1,rfl,q1⟩
def tIf(t:TT)(ta tb:TE):TE:=fun σ H Q=>t σ H fun c H1=>if c=true then ta σ H1 Q else tb σ H1 Q
theorem CG{c:fK}(hc:PT X c tA)(ha:PE X a ta)(hb:PE X b tb):PE X (.IfExp c a b pos) (tIf tA ta tb):=by
 intro pins s σ H Q I h
 refine wpAny_IfExp (jw (hc pins s σ H _ I h) fun d s1⟨H1,I1,q1⟩=>?_)
 cases d with
 |true=>exact ha pins s1 σ H1 Q I1 q1
 |false=>exact hb pins s1 σ H1 Q I1 q1
end
def cG(K:ah)(H:Hp)(a:ak)(xs:List V):Prop:=
 Rd H a (.lst xs)\/
  ∃(o:mC)(fi:Array ao)(n:Nat),K.lookup a=some o/\o.cls=.type "list"/\o.dict=none/\o.data=.seq fi n/\fi.size<=aK/\eU xs fi.toList
def rN(K:ah)(H:Hp)(a:ak)(xs:List V):Prop:=
 Rd H a (.tup xs)\/
  ∃(o:mC)(fi:Array ao)(n:Nat),K.lookup a=some o/\o.cls=.type "tuple"/\o.data=.seq fi n/\fi.size<=aK/\eU xs fi.toList
def Yr:ao->Option V
 |.none=>some .jX
 |.bool b=>some (.bl b)
 |.int i _=>some (.int i)
 |.str x _=>some (.str x)
 |.bytes b _=>some (.QI b)
 |.float b _=>some (.flt b)
 |.ref a=>some (.ref a)
 |.type n=>some (.ty n)
 |_=>none
theorem gW.abs{x:V}{u:ao}(r:gW x u):Yr u=some x:=by
 cases x with
 |jX=>cases r;rfl
 |bl _=>cases r;rfl
 |int _=>obtain⟨t,rfl⟩:=r;rfl
 |str _=>obtain⟨t,rfl⟩:=r;rfl
 |QI _=>obtain⟨t,rfl⟩:=r;rfl
 |flt _=>obtain⟨t,rfl⟩:=r;rfl
 |ref _=>cases r;rfl
 |ty _=>cases r;rfl
theorem gW.inj{x y:V}{u:ao}(r:gW x u)(q:gW y u):x=y:=bH (r.abs.symm.trans q.abs)
theorem eU.inj:∀{xs ys:List V}{us:List ao},eU xs us->eU ys us->xs=ys
 |_,_,_,.nil,.nil=>rfl
 |_,_,_,.cons r t,.cons r' t'=>by rw[r.inj r',eU.inj t t']
section
variable{X:Cx}{pins:List (ak×mC)}{σ:St}{H:Hp}{s:aN}{a:ak}{xs ys:List V}
theorem cG.of{K:ah}(h:H a=some (.lst xs)):cG K H a xs:=.inl (.inl h)
theorem rN.of{K:ah}(h:H a=some (.tup xs)):rN K H a xs:=.inl (.inl h)
theorem dO.list(I:dO X pins σ H s)(h:cG X.K H a xs):∃fi:List ao,eU xs fi/\PlainL s.heap a fi.toArray/\xs.length<=aK:=by
 rcases h with h|⟨o,fi,n,hk,hc,hd,hs,hz,r⟩
 ·obtain⟨z,fi,n,r,e⟩:=h.ok I.dz
  exact⟨fi,r,⟨_,n,e,rfl,rfl,rfl⟩,z⟩
 ·refine⟨fi.toList,r,⟨o,n,I.SO a o hk,hc,hd,by simpa using hs⟩,?_⟩
  have e:=r.length
  simp only[ji]at e
  omega
theorem dO.tuple(I:dO X pins σ H s)(h:rN X.K H a xs):∃fi:List ao,eU xs fi/\IsTup s.heap a fi.toArray/\xs.length<=aK:=by
 rcases h with h|⟨o,fi,n,hk,hc,hs,hz,r⟩
 ·obtain⟨z,fi,r,p⟩:=h.ok I.dz
  exact⟨fi,r,p,z⟩
 ·refine⟨fi.toList,r,⟨o,I.SO a o hk,hc,n,by simpa using hs⟩,?_⟩
  have e:=r.length
  simp only[ji]at e
  omega
theorem dO.Ag(I:dO X pins σ H s)(h:cG X.K H a xs)(h':cG X.K H a ys):xs=ys:=by
 obtain⟨fi,r,⟨o,n,e,_,_,d⟩,_⟩:=I.list h
 obtain⟨its',r',⟨o',n',e',_,_,d'⟩,_⟩:=I.list h'
 rw[e]at e';cases e'
 rw[d]at d'
 injection d' with d1 _
 have:fi=its':=by simpa using congrArg Array.toList d1
 subst this
 exact r.inj r'
end
abbrev Cx.MJ(X:Cx)(E:ao->aN->Prop):Cx:={X with xe:=E}
abbrev Cx.nox(X:Cx):Cx:=X.MJ fun _ _=>False
theorem Cx.Ok.MJ{X:Cx}(ok:X.Ok)(E:ao->aN->Prop):(X.MJ E).Ok:=
 ⟨ok.mod,ok.kind,ok.glob,ok.blt,ok.above,ok.inj,ok.has,ok.cab,ok.hd,ok.frames,ok.stk,ok.exf,ok.bs,ok.bsz,ok.Yn,ok.Yo,ok.Hr,ok.frf⟩
theorem Cx.Ok.CI{X:Cx}{E:ao->aN->Prop}(ok:(X.MJ E).Ok):X.Ok:=
 ⟨ok.mod,ok.kind,ok.glob,ok.blt,ok.above,ok.inj,ok.has,ok.cab,ok.hd,ok.frames,ok.stk,ok.exf,ok.bs,ok.bsz,ok.Yn,ok.Yo,ok.Hr,ok.frf⟩
section
variable{X:Cx}{pins:List (ak×mC)}{σ:St}{H:Hp}{s:aN}{E:ao->aN->Prop}
theorem dO.MJ(I:dO X pins σ H s)(E:ao->aN->Prop):dO (X.MJ E) pins σ H s:=⟨I.ok.MJ E,I.os,I.bare,I.base,I.loc,I.cell,I.free,I.CB,I.pin,I.dz,I.len⟩
theorem dO.CI(I:dO (X.MJ E) pins σ H s):dO X pins σ H s:=⟨I.ok.CI,I.os,I.bare,I.base,I.loc,I.cell,I.free,I.CB,I.pin,I.dz,I.len⟩
theorem SP.CI{D:KG}{f:Flow}{s':aN}(h:SP (X.MJ E) pins D f s'):SP X pins D f s':=by
 cases f with
 |next=>obtain⟨σ',H',I,q⟩:=h;exact⟨σ',H',I.CI,q⟩
 |brk=>obtain⟨σ',H',I,q⟩:=h;exact⟨σ',H',I.CI,q⟩
 |cont=>obtain⟨σ',H',I,q⟩:=h;exact⟨σ',H',I.CI,q⟩
 |ret u=>obtain⟨v,σ',H',I,r,q⟩:=h;exact⟨v,σ',H',I.CI,r,q⟩
theorem SR.nox{st:List d9}{t:TS}(h:SR X.nox st t):SR X st t:=fun pins s σ H D I hw=>
 i9 (h pins s σ H D (I.MJ _) hw) (fun _ _ q=>q.CI) fun _ _ z=>gX z
end
section
variable{X:Cx}{st:d9}{o9:List d9}{t u:TS}{e:fK}{te:TE}{pos:AB}
def afK:TS:=fun D σ H=>D.nx σ H
def aiI(t u:TS):TS:=fun D σ H=>t {D with nx:=u D} σ H
theorem cN:SR X [] afK:=fun _ _ σ H _ I h=>F3 ⟨σ,H,I,h⟩
theorem aC(h1:PS X st t)(h2:SR X o9 u):SR X (st::o9) (aiI t u):=by
 intro pins s σ H D I h
 refine wpAny_execs_cons (jw (h1 pins s σ H {D with nx:=u D} I h) fun f s1 q=>?_)
 cases f with
 |next=>
  obtain⟨σ',H',I',q⟩:=q
  exact h2 pins s1 σ' H' D I' q
 |ret v=>exact q
 |brk=>exact q
 |cont=>exact q
theorem aJ(h1:PS X st t):SR X [st] t:=by
 intro pins s σ H D I h
 refine wpAny_execs_cons (jw (h1 pins s σ H D I h) fun f s1 q=>?_)
 cases f with
 |next=>exact F3 q
 |ret v=>exact q
 |brk=>exact q
 |cont=>exact q
theorem dO.quiet{pins:List (ak×mC)}{σ:St}{H:Hp}{s:aN}(I:dO X pins σ H s):interactive X.env=false:=by simp[interactive,I.ok.kind]
def afL(te:TE):TS:=fun D σ H=>te σ H fun _ H1=>D.nx σ H1
theorem eZ(he:PE X e te)(hs:AL e none pos.line X.env=pure false:=by rfl):PS X (.Expr e pos) (afL te):=by
 intro pins s σ H D I h
 exact wpAny_Expr_any (jw (he pins s σ H _ I h) fun v s1⟨x,H1,I1,r1,q1⟩=>⟨σ,H1,I1,q1⟩) I.quiet hs
def aiJ(te:TE):TS:=fun D σ H=>te σ H D.rt
theorem bF(he:PE X e te):PS X (.Return (some e) pos) (aiJ te):=by
 intro pins s σ H D I h
 exact wpAny_Return_some (jw (he pins s σ H _ I h) fun v s1⟨x,H1,I1,r1,q1⟩=>⟨x,σ,H1,I1,r1,q1⟩)
def aiK(c:TT)(t u:TS):TS:=fun D σ H=>c σ H fun b H1=>if b=true then t D σ H1 else u D σ H1
theorem eW{c:fK}{a b:List d9}{tc:TT}(hc:PT X c tc)(ha:SR X a t)(hb:SR X b u):PS X (.If c a b pos) (aiK tc t u):=by
 intro pins s σ H D I h
 refine wpAny_If (jw (hc pins s σ H _ I h) fun d s1⟨H1,I1,q1⟩=>?_)
 cases d with
 |true=>exact ha pins s1 σ H1 D I1 q1
 |false=>exact hb pins s1 σ H1 D I1 q1
def ad2:TS:=fun _ _ _=>False
theorem Ys:PS X st ad2:=fun _ _ _ _ _ _ h=>h.elim
end
abbrev TG:=V->St->Hp->(St->Hp->Prop)->Prop
abbrev TGs:=List V->St->Hp->(St->Hp->Prop)->Prop
def PG(X:Cx)(Ht:fK)(t:TG):Prop:=
 ∀(pins:List (ak×mC))(s:aN)(σ:St)(H:Hp)(v:V)(u:ao)(Q:St->Hp->Prop),dO X pins σ H s->gW v u->t v σ H Q->
  b8 (cI X.prog X.w) X.A (assign Ht X.env u) (fun _ s'=>∃σ' H',dO X pins σ' H' s'/\Q σ' H') X.xe s
def PGs(X:Cx)(ts:List fK)(t:TGs):Prop:=
 ∀(pins:List (ak×mC))(s:aN)(σ:St)(H:Hp)(vs:List V)(us:List ao)(Q:St->Hp->Prop),dO X pins σ H s->eU vs us->t vs σ H Q->
  b8 (cI X.prog X.w) X.A (assignInOrder ((F1 ts X.env).map (·.2)) us) (fun _ s'=>∃σ' H',dO X pins σ' H' s'/\Q σ' H') X.xe s
abbrev ad4:=V->V->V->Hp->(Hp->Prop)->Prop
def afM(X:Cx)(t:ad4):Prop:=
 ∀(pins:List (ak×mC))(s:aN)(σ:St)(H:Hp)(o i v:V)(ov iv u:ao)(Q:Hp->Prop),dO X pins σ H s->gW o ov->gW i iv->gW v u->t o i v H Q->
  b8 (cI X.prog X.w) X.A (setItem ov iv u) (fun _ s'=>∃H',dO X pins σ H' s'/\Q H') X.xe s
abbrev TIp:=V->V->Hp->VK->Prop
def PIp(X:Cx)(op:Operator)(t:TIp):Prop:=
 ∀(pins:List (ak×mC))(s:aN)(σ:St)(H:Hp)(x y:V)(v u:ao)(Q:VK),dO X pins σ H s->gW x v->gW y u->t x y H Q->
  b8 (cI X.prog X.w) X.A (inplaceOp op v u) (EP X pins σ Q) X.xe s
section
variable{X:Cx}{pos:AB}
def wm(i:Nat):TG:=fun v σ H Q=>Q (σ.set i (some v)) H
theorem cJ{i:Nat}{x:cM}(hN:X.N.Nodup)(hi:X.N[i]?=some x)(hx:Loc X.env.scope x)(hf:X.fn x=true\/X.env.scope.names.lookup x=some .local:=by first|exact .inl rfl|exact .inr rfl|assumption):PG X (.Name x pos) (wm i):=by
 intro pins s σ H v u Q I r h
 exact wpAny_assign_Name (KD I hN hi hx r (fun s' I'=>⟨_,H,I',h⟩) hf)
def Yt:TGs:=fun vs σ H Q=>vs=[]/\Q σ H
def F_(t:TG)(u:TGs):TGs:=fun vs σ H Q=>∃v r,vs=v::r/\t v σ H fun σ' H'=>u r σ' H' Q
theorem su:PGs X [] Yt:=by
 intro pins s σ H vs us Q I r h
 obtain⟨e,h⟩:=h
 subst e
 cases r
 exact assignInOrder_nil ⟨σ,H,I,h⟩
theorem gQ{e:fK}{es:List fK}{t:TG}{u:TGs}(h1:PG X e t)(h2:PGs X es u)
  (hs:(F1 (e::es) X.env).map (·.2)=assign e X.env::(F1 es X.env).map (·.2):=by rfl):PGs X (e::es) (F_ t u):=by
 intro pins s σ H vs us Q I r h
 obtain⟨v,vr,e1,h⟩:=h
 subst e1
 cases r with
 |cons r rr=>
  rw[hs]
  refine assignInOrder_cons (jw (h1 pins s σ H _ _ _ I r h) fun _ s1⟨σ1,H1,I1,q1⟩=>?_)
  exact h2 pins s1 σ1 H1 _ _ Q I1 rr q1
def Yu(K:ah)(n:Nat)(t:TGs):TG:=fun v σ H Q=>∃a xs,v=.ref a/\rN K H a xs/\xs.length=n/\t xs σ H Q
theorem xy{es:List fK}{k:Nat}{t:TGs}{n:Nat}(hc:X.calm=true)(h:PGs X es t)
  (hn:(F1 es X.env).length=n:=by rfl)(lQ:(F1 es X.env).findIdx? (·.1)=none:=by rfl):PG X (.Tuple es k pos) (Yu X.K n t):=by
 intro pins s σ H v u Q I r hw
 obtain⟨a,xs,e1,hq,hl,hw⟩:=hw
 subst e1
 cases r
 obtain⟨fi,rv,ht,hz⟩:=I.tuple hq
 refine assign_Tuple_tuple (I.ok.hd hc) ht (by simp[hn,<-hl,rv.length]) lQ fun h' hx=>?_
 have I1:dO X pins σ H {s with heap:=h'}:=I.kept (t':=s.toks) fun b o e=>hx b o (d8 (bU e)) e
 exact h pins _ σ H xs _ Q I1 (by simpa using rv) hw
def aiL(to ti:TE)(t:ad4):TG:=fun v σ H Q=>to σ H fun o H1=>ti σ H1 fun i H2=>t o i v H2 fun H3=>Q σ H3
theorem Yv{o i:fK}{to ti:TE}{t:ad4}(ho:PE X o to)(hi:PE X i ti)(hs:afM X t)
  (ha:∀v,assign (.Subscript o i pos) X.env v=(do
   let ov<-holding [v] (eval o X.env)
   let iv<-holding [v,ov] (eval i X.env)
   standAt pos
   holding [v,ov,iv] (setItem ov iv v)
   release [v,ov,iv] []):=by intro _;rfl):PG X (.Subscript o i pos) (aiL to ti t):=by
 intro pins s σ H v u Q I r h
 rw[ha]
 refine aP (qo (jw (ho pins s σ H _ I h) fun ov s1⟨x,H1,I1,r1,q1⟩=>?_))
 refine aP (qo (jw (hi pins s1 σ H1 _ I1 q1) fun iv s2⟨y,H2,I2,r2,q2⟩=>?_))
 refine aP (DR (aP (qo (jw (hs pins s2 σ H2 x y v ov iv u _ I2 r1 r2 r q2) fun _ s3⟨H3,I3,q3⟩=>?_))))
 exact wpAny_release ⟨σ,H3,I3,q3⟩
def ad5(te:TE)(g:TG):TS:=fun D σ H=>te σ H fun x H1=>g x σ H1 D.nx
theorem Yw{tg e:fK}{te:TE}{g:TG}(he:PE X e te)(hg:PG X tg g)(hs:swapsWithSole [tg] e pos.line X.env=pure false:=by rfl)(hw:swappedStores [tg] e X.env=pure none:=by rfl)
  (h1:(F1 [tg] X.env).map (·.2)=[assign tg X.env]:=by rfl):PS X (.Assign [tg] e pos) (ad5 te g):=by
 intro pins s σ H D I h
 refine wpAny_Assign_stores (jw (he pins s σ H _ I h) fun v s1⟨x,H1,I1,r1,q1⟩=>?_) hs hw
 rw[h1]
 exact jw (hg pins s1 σ H1 x v _ I1 r1 q1) fun _ s2 q=>q
theorem cR{i:Nat}{x:cM}{e:fK}{te:TE}{AV:AB}(hN:X.N.Nodup)(hi:X.N[i]?=some x)(hx:Loc X.env.scope x)(he:PE X e te)(hs:AL e (some (.Name x AV)) pos.line X.env=pure false:=by rfl)(hf:X.fn x=true\/X.env.scope.names.lookup x=some .local:=by first|exact .inl rfl|exact .inr rfl|assumption):
  PS X (.Assign [.Name x AV] e pos) (ad5 te (wm i)):=by
 intro pins s σ H D I h
 refine wpAny_Assign_Name (jw (he pins s σ H _ I h) fun v s1⟨y,H1,I1,r1,q1⟩=>?_) hs
 exact KD I1 hN hi hx r1 (fun s2 I2=>⟨_,H1,I2,q1⟩) hf
def aiM(i:Nat)(te:TE)(ti:TIp):TS:=fun D σ H=>∃x,σ[i]?=some (some x)/\te σ H fun y H1=>ti x y H1 fun z H2=>D.nx (σ.set i (some z)) H2
theorem Yx{i:Nat}{x:cM}{e:fK}{te:TE}{op:Operator}{ti:TIp}{AV:AB}(hN:X.N.Nodup)(hi:X.N[i]?=some x)(hx:Loc X.env.scope x)(he:PE X e te)(ho:PIp X op ti)(hf:X.fn x=true\/X.env.scope.names.lookup x=some .local:=by first|exact .inl rfl|exact .inr rfl|assumption):
  PS X (.AugAssign (.Name x AV) op e pos) (aiM i te ti):=by
 intro pins s σ H D I h
 obtain⟨v,e1,h⟩:=h
 obtain⟨m,hn,hl⟩:=I.loc
 have vis:Vis X.env.scope x:=by rcases hx with k|k;exact .inl k;exact .inr (.inl k)
 obtain⟨u,r,l⟩:=hl i x v hi e1 vis
 refine wpAny_AugAssign_Name ?_
 have go:b8 (cI X.prog X.w) X.A (eval e X.env) (fun w s₂=>b8 (cI X.prog X.w) X.A (inplaceOp op u w) (fun r s₃=>b8 (cI X.prog X.w) X.A (storeName X.env x r) (fun _=>SP X pins D .next) X.xe s₃) X.xe s₂) X.xe s:=by
  refine jw (he pins s σ H _ I h) fun w s1⟨y,H1,I1,r1,q1⟩=>?_
  refine jw (ho pins s1 σ H1 v y u w _ I1 r r1 q1) fun z s2⟨zv,H2,I2,r2,q2⟩=>?_
  exact KD I2 hN hi hx r2 (fun s3 I3=>⟨_,H2,I3,q2⟩) hf
 rcases l with⟨hk,hm⟩|⟨hk,c,hc,Vq⟩
 ·exact acK I.ok.kind hk hn hm go
 ·rcases hk with hk|hk
  ·exact adF I.ok.kind hk hc Vq go
  ·rcases hx with k|k
   ·have:X.env.scope.names.lookup x=some .free:=hk
    rw[k]at this;cases this
   ·have:X.env.scope.names.lookup x=some .free:=hk
    rw[k]at this;cases this
def ipI(f:Int->Int->Int):TIp:=fun x y H Q=>∃i j,x=.int i/\y=.int j/\Q (.int (f i j)) H
theorem Yy:PIp X .Add (ipI fun i j=>i+j):=by
 intro pins s σ H x y v u Q I r1 r2 h
 obtain⟨i,j,e1,e2,q⟩:=h
 subst e1;subst e2
 obtain⟨t,rfl⟩:=r1
 obtain⟨t',rfl⟩:=r2
 exact iadd_int ⟨.int _,H,I.tok _,⟨_,rfl⟩,q⟩
end
section
variable{X:Cx}{pos:AB}
def ad6(c:TT)(tb:TS):TS:=fun D σ H=>∃W:Nat->St->Hp->Prop,(∃m,W m σ H)/\∀m σ H,W m σ H->
 c σ H fun b H1=>if b=true then∃N:St->Hp->Prop,(∀σ' H',N σ' H'->∃m',m'<m/\W m' σ' H')/\tb {D with nx:=N,ct:=N,bk:=D.nx} σ H1 else D.nx σ H1
theorem QN{c:fK}{body:List d9}{tc:TT}{tb:TS}(hp:PassesOwn (cI X.prog X.w) X.A X.env X.xe)(hc:PT X c tc)(hb:SR X body tb):PS X (.While c body [] pos) (ad6 tc tb):=by
 intro pins s σ H D I h
 obtain⟨W,⟨m0,w0⟩,Tp⟩:=h
 refine wpAny_While (codeAny_whileLoop (fun n s'=>∃σ' H',dO X pins σ' H' s'/\W n σ' H') ?_ m0 ⟨σ,H,I,w0⟩)
 rintro n s1 ⟨σ1,H1,I1,w1⟩
 refine qj hp (jw (hc pins s1 σ1 H1 _ I1 (Tp n σ1 H1 w1)) fun b s2⟨H2,I2,q2⟩=>?_)
 cases b with
 |true=>
  obtain⟨N,hN,q2⟩:=q2
  rw[aG rfl]
  refine qj hp (jw (hb pins s2 σ1 H2 _ I2 q2) fun f s3 q3=>?_)
  cases f with
  |next=>
   obtain⟨σ3,H3,I3,n3⟩:=q3
   obtain⟨m',hm,w3⟩:=hN σ3 H3 n3
   exact⟨m',hm,σ3,H3,I3,w3⟩
  |cont=>
   obtain⟨σ3,H3,I3,n3⟩:=q3
   obtain⟨m',hm,w3⟩:=hN σ3 H3 n3
   exact⟨m',hm,σ3,H3,I3,w3⟩
  |brk=>exact q3
  |ret v=>exact q3
 |false=>
  rw[aD aF]
  exact F3 ⟨σ1,H2,I2,q2⟩
end
structure It where
 go:Nat->Hp->Prop
 Qi:Nat->Hp->V->Hp->Prop
 stop:Nat->Hp->Prop
def Ga(X:Cx)(pins:List (ak×mC))(H:Hp)(b:ak):Prop:=
 H b=none/\b≠X.env.locals/\b∉X.fs/\(b∈X.ex\/X.MI.heap.objs.size<=b)/\(∀x c,X.env.cells.lookup x=some c->c≠b)/\∀p∈X.pn++pins,p.1≠b
theorem dO.QO{X:Cx}{pins:List (ak×mC)}{σ:St}{H H':Hp}{s:aN}{b:ak}(I:dO X pins σ H s)(hb:s.heap.objs.size<=b)(hn:H' b=none):Ga X pins H' b:=by
 refine⟨hn,JW (dw I.lt hb),I.aiy hb,.inr (bQ I.sz hb),fun x c e z=>?_,fun p hp z=>?_⟩
 ·obtain⟨v,q⟩:=I.cell x c e
  exact absurd (dw q.lt (by rw[z];exact hb)) (gI _)
 ·exact absurd (dw (bU (I.pin p hp).1) (by rw[z];exact hb)) (gI _)
structure OF(P:bD)(w:cC)(K:ah)(tg:fK)(J:It)(fp:List ak)(it:ak)(tn:Nat->cY->Prop):Prop where
 mem:it∈fp
 obj:∀i h,tn i h->∀b∈fp,∃o,h.get? b=some o/\∀v,o.data≠.cell v
 keep:∀i h h',tn i h->(∀b∈fp,∀o,h.get? b=some o->h'.get? b=some o)->tn i h'
 item:∀(X:Cx),X.prog=P->X.w=w->X.K=K->X.calm=true->∀(i:Nat)(pins:List (ak×mC))(s:aN)(σ:St)(H:Hp)(E:ao->aN->Prop),dO X pins σ H s->(∀b∈fp,Ga X pins H b)->tn i s.heap->J.go i H->
  b8 (cI P w) X.A (pyNext (.ref it)) (fun r s1=>∃u,r=some u/\
   b8 (cI P w) X.A (F4 tg (.ref it) u) (fun _ s2=>∃x H',dO X pins σ H' s2/\gW x u/\J.Qi i H x H'/\tn (i+1) s2.heap/\∀b∈fp,H' b=none) E s1) E s
 done:∀(X:Cx),X.prog=P->X.w=w->X.K=K->X.calm=true->∀(i:Nat)(pins:List (ak×mC))(s:aN)(σ:St)(H:Hp)(E:ao->aN->Prop),dO X pins σ H s->(∀b∈fp,Ga X pins H b)->tn i s.heap->J.stop i H->
  b8 (cI P w) X.A (pyNext (.ref it)) (fun r s1=>r=none/\dO X pins σ H s1) E s
 self:∀(A:eG)(i:Nat)(s:aN)(Q:ao->aN->Prop)(E:ao->aN->Prop),tn i s.heap->Q (.ref it) s->b8 (cI P w) A (pyIter (.ref it)) Q E s
abbrev TI:=St->Hp->(It->Hp->Prop)->Prop
def PIE(X:Cx)(pins:List (ak×mC))(σ:St)(tg:fK)(R:It->Hp->Prop)(itv:ao)(s2:aN):Prop:=
 ∃(it:ak)(fp:List ak)(tn:Nat->cY->Prop)(J:It)(H':Hp),itv=.ref it/\dO X pins σ H' s2/\OF X.prog X.w X.K tg J fp it tn/\tn 0 s2.heap/\(∀b∈fp,Ga X pins H' b)/\R J H'
def PI(X:Cx)(tg uf:fK)(wi:TI):Prop:=
 ∀(pins:List (ak×mC))(s:aN)(σ:St)(H:Hp)(R:It->Hp->Prop),dO X pins σ H s->wi σ H R->
  b8 (cI X.prog X.w) X.A (eval uf X.env) (fun v s1=>b8 (cI X.prog X.w) X.A (pyIter v) (PIE X pins σ tg R) X.xe s1) X.xe s
theorem Vr{M:acJ}{A:eG}{E:ao->aN->Prop}{s:aN}{tg:fK}{it:ak}{u:ao}{o:mC}{n:String}{vs:Array ao}{Q:Unit->aN->Prop}(ho:s.heap.get? it=some o)(hc:o.cls=.type n)(hd:o.data=.fields vs)(hn:["enumerate","zip","dict_itemiterator","dict_reverseitemiterator","odict_iterator","itertools.zip_longest","itertools.pairwise"].contains n=false)(hQ:Q () s):b8 M A (F4 tg (.ref it) u) Q E s:=by
 unfold F4
 cases tg<;>first
  |exact bR hQ
  | (cases u<;>first
    |exact bR hQ
    | (refine aP (wpAny_load ho ?_)
       rw[hc,hd]
       show b8 M A (if(["enumerate","zip","dict_itemiterator","dict_reverseitemiterator","odict_iterator","itertools.zip_longest","itertools.pairwise"].contains n&&vs[0]?==some (rawInt _))=true then _ else _) Q E s
       rw[aD (by intro h;rw[hn,qt]at h;cases h)]
       exact bR hQ))
def QR(K:ah)(a:ak):It:=
 ⟨fun i H=>∃xs x,cG K H a xs/\xs[i]?=some x,fun i H x H'=>H'=H/\∀xs,cG K H a xs->xs[i]?=some x,fun i H=>∃xs,cG K H a xs/\xs.length<=i⟩
def XO(lo:Int)(n:Nat):It:=⟨fun i _=>i<n,fun i H x H'=>H'=H/\x=.int (lo+i),fun i _=>n<=i⟩
theorem Wt{P:bD}{w:cC}{K:ah}{tg:fK}(a it:ak):OF P w K tg (QR K a) [it] it (fun i h=>h.IsListIter it a i) where
 mem:=by simp
 obj:=fun i h st b hb=>by
  have e:b=it:=by simpa using hb
  subst e
  obtain⟨o,e,c,d⟩:=st
  exact⟨o,e,fun v z=>by rw[d]at z;cases z⟩
 keep:=fun i h h' st k=>st.at fun o e=>k it (by simp) o e
 item:=by
  intro X hP hw hK hc i pins s σ H E I hf st hg
  subst hP hw hK
  obtain⟨xs,x,hq,hx⟩:=hg
  obtain⟨fi,rv,p,hz⟩:=I.list hq
  obtain⟨u,hu,ru⟩:=rv.get hx
  obtain⟨f0,f1,f2,f3,f4,f5⟩:=hf it (by simp)
  refine wpAny_pyNext_list_item st p.isList (x:=u) (by simpa using hu) fun h' J8 sb=>?_
  have I1:dO X pins σ H {s with heap:=h'}:=I.turned (t':=s.toks) (fun b o hb e=>(sb.2 b hb).trans e) f0 f1 f3 f4 f5
  obtain⟨o,e,c,d⟩:=id J8
  exact⟨u,rfl,Vr (s:={s with heap:=h'}) e c d (by decide) ⟨x,H,I1,ru,⟨rfl,fun ys hy=>by rw[I.Ag hy hq];exact hx⟩,J8,fun b hb=>(hf b hb).1⟩⟩
 done:=by
  intro X hP hw hK hc i pins s σ H E I hf st hg
  subst hP hw hK
  obtain⟨xs,hq,hx⟩:=hg
  obtain⟨fi,rv,p,hz⟩:=I.list hq
  obtain⟨f0,f1,f2,f3,f4,f5⟩:=hf it (by simp)
  have hl:=rv.length
  exact wpAny_pyNext_list_end (I.ok.hd hc) st p.isList (by simp;omega) fun h' eb=>⟨rfl,I.turned (t':=s.toks) (fun b o hb e=>eb b o hb e) f0 f1 f3 f4 f5⟩
 self:=fun _ _ _ _ _ st h=>wpAny_pyIter_listiter st h
theorem Tq{P:bD}{w:cC}{K:ah}{tg:fK}(it:ak)(lo:Int)(n:Nat):OF P w K tg (XO lo n) [it] it (fun i h=>Qw h it (lo+(i:Nat)*1) ((n:Int)-(i:Nat)) 1) where
 mem:=by simp
 obj:=fun i h st b hb=>by
  have e:b=it:=by simpa using hb
  subst e
  exact⟨_,st,fun v z=>by
   have z':Data.fields _=Data.cell v:=z
   cases z'⟩
 keep:=fun i h h' st k=>k it (by simp) _ st
 item:=by
  intro X hP hw hK hc i pins s σ H E I hf st hg
  subst hP hw hK
  obtain⟨f0,f1,f2,f3,f4,f5⟩:=hf it (by simp)
  have W:=Walks.range (prog:=X.prog) (w:=X.w) (I.ok.hd hc) it lo 1 n
  refine W.item i s _ _ hg st fun v h' tk hv J8 kk=>?_
  obtain⟨t,rfl⟩:=hv
  have I1:dO X pins σ H {s with heap:=h',toks:=tk}:=I.turned (fun b o hb e=>kk b o (by simpa using hb) e) f0 f1 f3 f4 f5
  refine⟨_,rfl,Vr (s:={s with heap:=h',toks:=tk}) (n:="range_iterator") J8 rfl rfl (by decide) ⟨.int (lo+i),H,I1,⟨t,?_⟩,⟨rfl,rfl⟩,J8,fun b hb=>(hf b hb).1⟩⟩
  rw[Int.mul_one]
 done:=by
  intro X hP hw hK hc i pins s σ H E I hf st hg
  subst hP hw hK
  obtain⟨f0,f1,f2,f3,f4,f5⟩:=hf it (by simp)
  exact aaV (I.ok.hd hc) st (by have:n<=i:=hg;omega) fun h' eb=>⟨rfl,I.turned (t':=s.toks) (fun b o hb e=>eb b o hb e) f0 f1 f3 f4 f5⟩
 self:=fun _ _ _ _ _ st h=>aaW st h
section
variable{X:Cx}{tg:fK}
def afN(K:ah)(tl:TE):TI:=fun σ H R=>tl σ H fun x H1=>∃a,x=.ref a/\(∃xs,cG K H1 a xs)/\R (QR K a) H1
theorem fE{l:fK}{tl:TE}(hl:PE X l tl):PI X tg l (afN X.K tl):=by
 intro pins s σ H R I h
 refine jw (hl pins s σ H _ I h) fun v s1⟨x,H1,I1,r1,q1⟩=>?_
 obtain⟨a,e,⟨xs,hq⟩,q⟩:=q1
 subst e
 cases r1
 obtain⟨fi,rv,p,hz⟩:=I1.list hq
 refine we p.isList ?_
 refine⟨s1.heap.objs.size,[s1.heap.objs.size],_,_,H1,rfl,I1.kept (t':=s1.toks) fun b o e=>bh _ e,Wt a _,⟨_,cF _ rfl,rfl,rfl⟩,fun b hb=>?_,q⟩
 have e:b=s1.heap.objs.size:=by simpa using hb
 subst e
 exact I1.QO (aV _) (I1.dz.fresh (aV _))
theorem Yz{pins:List (ak×mC)}{σ:St}{H:Hp}{s:aN}{R:It->Hp->Prop}{E:ao->aN->Prop}{lo hi:Int}{t u v:Tok}{tk:Nat}(I:dO X pins σ H s)(h1:-(2^62)<=lo)(h2:lo<2^62)(h3:-(2^62)<=hi)(h4:hi<2^62)(q:R (XO lo (hi-lo).toNat) H):b8 (cI X.prog X.w) X.A (pyIter (.ref s.heap.objs.size)) (PIE X pins σ tg R) E {s with heap:=s.heap.push {cls:=.type "range",data:=.fields #[.int lo t,.int hi u,.int 1 v]},toks:=tk}:=by
 refine wpAny_pyIter_range (adG ..) (small_one h1 h2 h3 h4) ?_
 have I1:dO X pins σ H {s with heap:=s.heap.push {cls:=.type "range",data:=.fields #[.int lo t,.int hi u,.int 1 v]},toks:=tk}:=I.kept fun b o e=>bh _ e
 refine⟨(s.heap.push {cls:=.type "range",data:=.fields #[.int lo t,.int hi u,.int 1 v]}).objs.size,[(s.heap.push {cls:=.type "range",data:=.fields #[.int lo t,.int hi u,.int 1 v]}).objs.size],_,_,H,rfl,
  I1.kept (t':=tk) fun b o e=>bh _ e,Tq _ lo (hi-lo).toNat,?_,fun b hb=>?_,q⟩
 ·have e1:lo+((0:Nat):Int)*1=lo:=by simp
  have e2:(((hi-lo).toNat:Nat):Int)-((0:Nat):Int)=yj lo hi 1:=by rw[rangeSize_one];split<;>omega
  show Qw _ _ (lo+((0:Nat):Int)*1) ((((hi-lo).toNat:Nat):Int)-((0:Nat):Int)) 1
  rw[e1,e2]
  exact cF _ rfl
 ·have e:b=(s.heap.push {cls:=.type "range",data:=.fields #[.int lo t,.int hi u,.int 1 v]}).objs.size:=by simpa using hb
  subst e
  exact I1.QO (aV _) (I1.dz.fresh (aV _))
def afO(ta:TA):TI:=fun σ H R=>ta σ H fun vs H1=>∃j:Int,vs=[.int j]/\-(2^62)<=j/\j<2^62/\R (XO 0 j.toNat) H1
theorem ND{a:fK}{ta:TA}{p pos:AB}(hg:Gl X "range")(hm:X.mg "range"=none)(ha:PA X [a] ta)(hs:b_ [a] X.env=[(false,eval a X.env)]:=by rfl):PI X tg (.Call (.Name "range" p) [a] [] pos) (afO ta):=by
 intro pins s σ H R I h
 refine Call_ (AU I hg hm boot_range (iH (jw (ha pos pins s σ H _ I h) fun us s1⟨vs,H1,I1,r1,q1⟩=>?_) hs rfl))
 obtain⟨j,e,q1,q2,q⟩:=q1
 subst e
 cases r1 with
 |cons r rr=>
  cases rr
  obtain⟨t,rfl⟩:=r
  exact call_range_1 (Yz I1 (by omega) (by omega) q1 q2 (by simpa using q))
def aiP(wi:TI)(g:TG)(tb:TS):TS:=fun D σ H=>wi σ H fun J H1=>∃W:Nat->Nat->St->Hp->Prop,(∃m,W 0 m σ H1)/\∀i m σ H,W i m σ H->
 (J.stop i H/\D.nx σ H)\/(J.go i H/\∃N:St->Hp->Prop,(∀σ' H',N σ' H'->∃m',m'<m/\W (i+1) m' σ' H')/\∀x H',J.Qi i H x H'->g x σ H' fun σ2 H2=>tb {D with nx:=N,ct:=N,bk:=D.nx} σ2 H2)
def KI(fp:List ak)(h:cY):List (ak×mC):=fp.filterMap fun b=>(h.get? b).map fun o=>(b,o)
theorem xA{fp:List ak}{h:cY}{b:ak}{o:mC}(hb:b∈fp)(e:h.get? b=some o):(b,o)∈KI fp h:=XZ.mpr ⟨b,hb,by rw[e];rfl⟩
theorem Wu{fp:List ak}{h:cY}{p:ak×mC}(hp:p∈KI fp h):p.1∈fp/\h.get? p.1=some p.2:=by
 obtain⟨b,hb,e⟩:=XZ.mp hp
 cases q:h.get? b with
 |none=>rw[q]at e;cases e
 |some o=>
  rw[q]at e
  have e':(b,o)=p:=bH e
  subst e'
  exact⟨hb,q⟩
theorem dO.pinned{pins:List (ak×mC)}{σ:St}{H:Hp}{s:aN}{fp:List ak}(I:dO X pins σ H s)(hf:∀b∈fp,Ga X pins H b)(ho:∀b∈fp,∃o,s.heap.get? b=some o/\∀v,o.data≠.cell v):dO X (pins++KI fp s.heap) σ H s:=
 I.Vo fun p hp=>(aX.mp hp).elim (fun z=>I.pin p (eO _ z)) fun z=>by
  obtain⟨hb,e⟩:=Wu z
  obtain⟨f0,f1,f2,_⟩:=hf p.1 hb
  obtain⟨o,e',d⟩:=ho p.1 hb
  rw[e]at e';cases e'
  exact⟨e,f0,f1,f2,d⟩
theorem dO.CJ{pins pl:List (ak×mC)}{σ:St}{H:Hp}{s:aN}(I:dO X (pins++pl) σ H s):dO X pins σ H s:=I.Vo fun p hp=>I.pin p (eO _ (We _ hp))
theorem jO{uf:fK}{body:List d9}{wi:TI}{g:TG}{tb:TS}{pos:AB}(hp:PassesOwn (cI X.prog X.w) X.A X.env X.xe)(hc:X.calm=true)(hi:PI X tg uf wi)(hg:PG X tg g)(hb:SR X body tb)
  (hs:∀x,Ct uf X.env x=pure x:=by intro _;rfl):PS X (.For tg uf body [] pos) (aiP wi g tb):=by
 intro pins s σ H D I h
 refine wpAny_For (jw (hi pins s σ H _ I h) fun v s1 h1=>jw h1 fun itv s2 h2=>?_) hs
 obtain⟨it,fp,tn,J,H2,e,I2,T,st2,f2,W,⟨m0,w0⟩,Tp⟩:=h2
 subst e
 have Tr:∀{H':Hp},(∀b∈fp,H' b=none)->∀b∈fp,Ga X pins H' b:=fun hn b hb=>⟨hn b hb,(f2 b hb).2⟩
 refine codeAny_forLoop_any (fun n s'=>∃i σ' H',dO X pins σ' H' s'/\tn i s'.heap/\(∀b∈fp,H' b=none)/\W i n σ' H') ?_ m0 ⟨0,σ,H2,I2,st2,fun b hb=>(f2 b hb).1,w0⟩
 rintro n s3 ⟨i,σ3,H3,I3,st3,fr3,w3⟩
 rcases Tp i n σ3 H3 w3 with⟨stop,qn⟩|⟨go,N,hN,step⟩
 ·refine qj hp (jw (T.done X rfl rfl rfl hc i pins s3 σ3 H3 X.xe I3 (Tr fr3) st3 stop) fun r s4⟨hr,I4⟩=>?_)
  subst hr
  exact F3 ⟨σ3,H3,I4,qn⟩
 ·refine qj hp (jw (T.item X rfl rfl rfl hc i pins s3 σ3 H3 X.xe I3 (Tr fr3) st3 go) fun r s4⟨u,hr,h4⟩=>?_)
  subst hr
  refine qj hp (jw h4 fun _ s5⟨x,H5,I5,r5,y5,st5,fr5⟩=>?_)
  have I5':=I5.pinned (Tr fr5) (T.obj _ _ st5)
  refine qj hp (jw (hg _ s5 σ3 H5 x u _ I5' r5 (step x H5 y5)) fun _ s6⟨σ6,H6,I6,q6⟩=>?_)
  refine qj hp (jw (hb _ s6 σ6 H6 _ I6 q6) fun f s7 q7=>?_)
  have again:∀{σ7:St}{H7:Hp},dO X (pins++KI fp s5.heap) σ7 H7 s7->N σ7 H7->∃m,m<n/\∃i σ' H',dO X pins σ' H' s7/\tn i s7.heap/\(∀b∈fp,H' b=none)/\W i m σ' H':=fun{σ7 H7}I7 n7=>by
   obtain⟨m',hm,w7⟩:=hN σ7 H7 n7
   refine⟨m',hm,i+1,σ7,H7,I7.CJ,T.keep _ _ _ st5 fun b hb o e=>(I7.pin (b,o) (eO _ (eO _ (xA hb e)))).1,fun b hb=>?_,w7⟩
   obtain⟨o,e,d⟩:=T.obj _ _ st5 b hb
   exact(I7.pin (b,o) (eO _ (eO _ (xA hb e)))).2.1
  cases f with
  |next=>obtain⟨σ7,H7,I7,n7⟩:=q7;exact again I7 n7
  |cont=>obtain⟨σ7,H7,I7,n7⟩:=q7;exact again I7 n7
  |brk=>obtain⟨σ7,H7,I7,q7⟩:=q7;exact⟨σ7,H7,I7.CJ,q7⟩
  |ret v=>obtain⟨x7,σ7,H7,I7,r7,q7⟩:=q7;exact⟨x7,σ7,H7,I7.CJ,r7,q7⟩
end
theorem kq{K:ah}{a:ak}{xs:List V}{g:TG}{tb:TS}{D:KG}{σ:St}{H:Hp}(Pv:Nat->St->Hp->Prop)(h0:Pv 0 σ H)(hl:∀i σ H,i<=xs.length->Pv i σ H->cG K H a xs)(hs:∀i x σ H,xs[i]?=some x->Pv i σ H->g x σ H fun σ2 H2=>tb {D with nx:=Pv (i+1),ct:=Pv (i+1),bk:=D.nx} σ2 H2)(hd:∀σ H,Pv xs.length σ H->D.nx σ H):∃W:Nat->Nat->St->Hp->Prop,(∃m,W 0 m σ H)/\∀i m σ H,W i m σ H->((QR K a).stop i H/\D.nx σ H)\/((QR K a).go i H/\∃N:St->Hp->Prop,(∀σ' H',N σ' H'->∃m',m'<m/\W (i+1) m' σ' H')/\∀x H',(QR K a).Qi i H x H'->g x σ H' fun σ2 H2=>tb {D with nx:=N,ct:=N,bk:=D.nx} σ2 H2):=by
 refine⟨fun i m σ H=>m=xs.length-i/\i<=xs.length/\Pv i σ H,⟨xs.length,by simp,bE _,h0⟩,?_⟩
 rintro i m σ H ⟨rfl,hi,p⟩
 have q:=hl i σ H hi p
 by_cases wD:i<xs.length
 ·refine .inr ⟨⟨xs,xs[i],q,by simp[wD]⟩,Pv (i+1),fun σ' H' p'=>⟨xs.length-(i+1),by omega,rfl,wD,p'⟩,fun x H' y=>?_⟩
  obtain⟨e,y⟩:=y
  subst e
  exact hs i x σ _ (y xs q) p
 ·have e:i=xs.length:=by omega
  subst e
  exact .inl ⟨⟨xs,q,aV _⟩,hd σ H p⟩
theorem Wv{lo:Int}{n:Nat}{g:TG}{tb:TS}{D:KG}{σ:St}{H:Hp}(Pv:Nat->St->Hp->Prop)(h0:Pv 0 σ H)(hs:∀i σ H,i<n->Pv i σ H->g (.int (lo+i)) σ H fun σ2 H2=>tb {D with nx:=Pv (i+1),ct:=Pv (i+1),bk:=D.nx} σ2 H2)(hd:∀σ H,Pv n σ H->D.nx σ H):∃W:Nat->Nat->St->Hp->Prop,(∃m,W 0 m σ H)/\∀i m σ H,W i m σ H->((XO lo n).stop i H/\D.nx σ H)\/((XO lo n).go i H/\∃N:St->Hp->Prop,(∀σ' H',N σ' H'->∃m',m'<m/\W (i+1) m' σ' H')/\∀x H',(XO lo n).Qi i H x H'->g x σ H' fun σ2 H2=>tb {D with nx:=N,ct:=N,bk:=D.nx} σ2 H2):=by
 refine⟨fun i m σ H=>m=n-i/\i<=n/\Pv i σ H,⟨n,by simp,bE _,h0⟩,?_⟩
 rintro i m σ H ⟨rfl,hi,p⟩
 by_cases wD:i<n
 ·refine .inr ⟨wD,Pv (i+1),fun σ' H' p'=>⟨n-(i+1),by omega,rfl,wD,p'⟩,fun x H' y=>?_⟩
  obtain⟨e,y⟩:=y
  subst e y
  exact hs i σ _ wD p
 ·have e:i=n:=by omega
  subst e
  exact .inl ⟨aV _,hd σ H p⟩
abbrev R2:=V->V->Hp->VK->Prop
def Ka(X:Cx)(f:ao->ao->Sem ao)(r:R2):Prop:=
 ∀(pins:List (ak×mC))(s:aN)(σ:St)(H:Hp)(x y:V)(v u:ao)(Q:VK),dO X pins σ H s->gW x v->gW y u->r x y H Q->
  b8 (cI X.prog X.w) X.A (f v u) (EP X pins σ Q) X.xe s
def UnR(X:Cx)(f:ao->Sem ao)(r:V->Hp->VK->Prop):Prop:=
 ∀(pins:List (ak×mC))(s:aN)(σ:St)(H:Hp)(x:V)(v:ao)(Q:VK),dO X pins σ H s->gW x v->r x H Q->
  b8 (cI X.prog X.w) X.A (f v) (EP X pins σ Q) X.xe s
def Gb(X:Cx)(f:ao)(r:List V->Hp->VK->Prop):Prop:=
 ∀(pins:List (ak×mC))(s:aN)(σ:St)(H:Hp)(xs:List V)(us:List ao)(Q:VK),dO X pins σ H s->eU xs us->r xs H Q->
  b8 (cI X.prog X.w) X.A (call f us) (EP X pins σ Q) X.xe s
def tOp(r:R2)(ta tb:TE):TE:=fun σ H Q=>ta σ H fun x H1=>tb σ H1 fun y H2=>r x y H2 Q
def tUn(r:V->Hp->VK->Prop)(ta:TE):TE:=fun σ H Q=>ta σ H fun x H1=>r x H1 Q
def XQ(g:Int->Int->V):R2:=fun x y H Q=>∃i j,x=.int i/\y=.int j/\Q (g i j) H
def rU(g:Int->V):V->Hp->VK->Prop:=fun x H Q=>∃i,x=.int i/\Q (g i) H
section
variable{X:Cx}{a b c:fK}{ta tb tc:TE}{pos:AB}
theorem ad7(ha:PE X a ta)(hb:PE X b tb){pins:List (ak×mC)}{s:aN}{σ:St}{H:Hp}{R:V->V->Hp->Prop}(I:dO X pins σ H s)(h:ta σ H fun x H1=>tb σ H1 fun y H2=>R x y H2){Q:ao->aN->Prop}{f:ao->ao->Sem ao}(hf:∀v u s2 x y H2,dO X pins σ H2 s2->gW x v->gW y u->R x y H2->b8 (cI X.prog X.w) X.A (f v u) Q X.xe s2):b8 (cI X.prog X.w) X.A (eval a X.env) (fun v s₁=>b8 (cI X.prog X.w) X.A (eval b X.env) (fun u s₂=>b8 (cI X.prog X.w) X.A (f v u) Q X.xe s₂) X.xe s₁) X.xe s:=by
 refine jw (ha pins s σ H _ I h) fun v s1⟨x,H1,I1,r1,q1⟩=>?_
 refine jw (hb pins s1 σ H1 _ I1 q1) fun u s2⟨y,H2,I2,r2,q2⟩=>?_
 exact hf v u s2 x y H2 I2 r1 r2 q2
theorem jx{op:Operator}{r:R2}(ho:Ka X (Ir op) r)(ha:PE X a ta)(hb:PE X b tb):PE X (.BinOp a op b pos) (tOp r ta tb):=by
 intro pins s σ H Q I h
 exact wpAny_BinOp (ad7 ha hb I h fun v u s2 x y H2 I2 rx ry q=>ho pins s2 σ H2 x y v u Q I2 rx ry q)
theorem Ah{op:UnaryOp}{r:V->Hp->VK->Prop}(ho:UnR X (unaryOp op) r)(ha:PE X a ta):PE X (.UnaryOp op a pos) (tUn r ta):=by
 intro pins s σ H Q I h
 exact UnaryOp_ (jw (ha pins s σ H _ I h) fun v s1⟨x,H1,I1,r1,q1⟩=>ho pins s1 σ H1 x v Q I1 r1 q1)
theorem afP{f:ao->ao->Sem ao}{g:Int->Int->Int}(rule:∀(i j:Int)(t u:Tok)(s:aN)(Q:ao->aN->Prop)(E:ao->aN->Prop),Q (.int (g i j) s.toks) {s with toks:=s.toks+1}->b8 (cI X.prog X.w) X.A (f (.int i t) (.int j u)) Q E s):Ka X f (XQ fun i j=>.int (g i j)):=by
 intro pins s σ H x y v u Q I rx ry h
 obtain⟨i,j,rfl,rfl,q⟩:=h
 obtain⟨t,rfl⟩:=rx
 obtain⟨t',rfl⟩:=ry
 exact rule i j t t' s _ _ ⟨.int (g i j),H,I.tok _,⟨_,rfl⟩,q⟩
theorem ad8{f:ao->ao->Sem ao}{g:Int->Int->Bool}(rule:∀(i j:Int)(t u:Tok)(s:aN)(Q:ao->aN->Prop)(E:ao->aN->Prop),Q (.bool (g i j)) s->b8 (cI X.prog X.w) X.A (f (.int i t) (.int j u)) Q E s):Ka X f (XQ fun i j=>.bl (g i j)):=by
 intro pins s σ H x y v u Q I rx ry h
 obtain⟨i,j,rfl,rfl,q⟩:=h
 obtain⟨t,rfl⟩:=rx
 obtain⟨t',rfl⟩:=ry
 exact rule i j t t' s _ _ ⟨.bl (g i j),H,I,rfl,q⟩
theorem oA:Ka X (Ir .Add) (XQ fun i j=>.int (i+j)):=afP fun _ _ _ _ _ _ _ q=>add_int q
theorem Tt:Ka X (Ir .Sub) (XQ fun i j=>.int (i-j)):=afP fun _ _ _ _ _ _ _ q=>sub_int q
theorem unI{f:ao->Sem ao}{g:Int->Int}(rule:∀(i:Int)(t:Tok)(s:aN)(Q:ao->aN->Prop)(E:ao->aN->Prop),Q (.int (g i) s.toks) {s with toks:=s.toks+1}->b8 (cI X.prog X.w) X.A (f (.int i t)) Q E s):UnR X f (rU fun i=>.int (g i)):=by
 intro pins s σ H x v Q I rx h
 obtain⟨i,rfl,q⟩:=h
 obtain⟨t,rfl⟩:=rx
 exact rule i t s _ _ ⟨.int (g i),H,I.tok _,⟨_,rfl⟩,q⟩
theorem ug:UnR X (unaryOp .USub) (rU fun i=>.int (-i)):=unI fun _ _ _ _ _ q=>neg_int q
end
def ad9:V->V->Bool
 |.jX,.jX=>true|.jX,.int _=>true|.int _,.jX=>true|.jX,.bl _=>true|.bl _,.jX=>true|.jX,.str _=>true|.str _,.jX=>true
 |.int _,.int _=>true|.bl _,.bl _=>true|.str _,.str _=>true|.QI _,.QI _=>true
 |.int _,.str _=>true|.str _,.int _=>true|.bl _,.str _=>true|.str _,.bl _=>true
 |_,_=>false
def rEq:R2:=fun x y H Q=>ad9 x y=true/\Q (.bl (decide (x=y))) H
def rNe:R2:=fun x y H Q=>ad9 x y=true/\Q (.bl (!decide (x=y))) H
theorem Vs{i j:Int}:decide (V.int i=V.int j)=(i==j):=by
 rw[jr]
 simp
theorem YA{i j:Bool}:decide (V.bl i=V.bl j)=(i==j):=by
 rw[jr]
 simp
theorem Vt{i j:cM}:decide (V.str i=V.str j)=(i==j):=by
 rw[jr]
 simp
theorem Vu{i j:Array UInt8}:decide (V.QI i=V.QI j)=(i.toList==j.toList):=by
 rw[jr]
 cases i
 cases j
 simp
section
variable{X:Cx}{a b c:fK}{ta tb tc:TE}{pos:AB}
theorem iU{pins:List (ak×mC)}{σ:St}{H:Hp}{s:aN}{Q:VK}{k k':Bool}(I:dO X pins σ H s)(q:Q (.bl k) H)(e:k=k'):EP X pins σ Q (.bool k') s:=by
 subst e
 exact⟨.bl k,H,I,rfl,q⟩
theorem jM:Ka X (jh .Eq) rEq:=by
 intro pins s σ H x y v u Q I rx ry h
 obtain⟨hs,q⟩:=h
 cases x with
 |jX=>
  cases rx
  cases y with
  |jX=>cases ry;exact PySem.EqNone.eq_none_none (iU I q (by simp))
  |bl j=>cases ry;exact PySem.EqNone.eq_none_bool (iU I q (by simp))
  |int j=>obtain⟨t',rfl⟩:=ry;exact PySem.EqNone.eq_none_int (iU I q (by simp))
  |str j=>obtain⟨t',rfl⟩:=ry;exact PySem.EqNone.eq_none_str (iU I q (by simp))
  |_=>exact absurd (show false=true from hs) aF
 |bl i=>
  cases rx
  cases y with
  |jX=>cases ry;exact PySem.EqNone.eq_bool_none (iU I q (by simp))
  |bl j=>cases ry;exact eq_bool (iU I q YA)
  |str j=>obtain⟨t',rfl⟩:=ry;exact PySem.EqMixed.eq_bool_str (iU I q (by simp))
  |_=>exact absurd (show false=true from hs) aF
 |int i=>
  obtain⟨t,rfl⟩:=rx
  cases y with
  |jX=>cases ry;exact PySem.EqNone.eq_int_none (iU I q (by simp))
  |int j=>obtain⟨t',rfl⟩:=ry;exact eq_int (iU I q Vs)
  |str j=>obtain⟨t',rfl⟩:=ry;exact PySem.EqMixed.eq_int_str (iU I q (by simp))
  |_=>exact absurd (show false=true from hs) aF
 |str i=>
  obtain⟨t,rfl⟩:=rx
  cases y with
  |jX=>cases ry;exact PySem.EqNone.eq_str_none (iU I q (by simp))
  |bl j=>cases ry;exact PySem.EqMixed.eq_str_bool (iU I q (by simp))
  |int j=>obtain⟨t',rfl⟩:=ry;exact PySem.EqMixed.eq_str_int (iU I q (by simp))
  |str j=>obtain⟨t',rfl⟩:=ry;exact eq_str (iU I q Vt)
  |_=>exact absurd (show false=true from hs) aF
 |QI i=>
  obtain⟨t,rfl⟩:=rx
  cases y with
  |QI j=>obtain⟨t',rfl⟩:=ry;exact PySem.W.eq_bytes (iU I q Vu)
  |_=>exact absurd (show false=true from hs) aF
 |_=>cases y<;>exact absurd (show false=true from hs) aF
theorem Vv:Ka X (jh .NotEq) rNe:=by
 intro pins s σ H x y v u Q I rx ry h
 obtain⟨hs,q⟩:=h
 cases x with
 |jX=>
  cases rx
  cases y with
  |jX=>cases ry;exact PySem.EqNone.ne_none_none (iU I q (by simp))
  |bl j=>cases ry;exact PySem.EqNone.ne_none_bool (iU I q (by simp))
  |int j=>obtain⟨t',rfl⟩:=ry;exact PySem.EqNone.ne_none_int (iU I q (by simp))
  |str j=>obtain⟨t',rfl⟩:=ry;exact PySem.EqNone.ne_none_str (iU I q (by simp))
  |_=>exact absurd (show false=true from hs) aF
 |bl i=>
  cases rx
  cases y with
  |jX=>cases ry;exact PySem.EqNone.ne_bool_none (iU I q (by simp))
  |bl j=>cases ry;exact ne_bool (iU I q (congrArg not YA))
  |str j=>obtain⟨t',rfl⟩:=ry;exact PySem.EqMixed.ne_bool_str (iU I q (by simp))
  |_=>exact absurd (show false=true from hs) aF
 |int i=>
  obtain⟨t,rfl⟩:=rx
  cases y with
  |jX=>cases ry;exact PySem.EqNone.ne_int_none (iU I q (by simp))
  |int j=>obtain⟨t',rfl⟩:=ry;exact ne_int (iU I q (congrArg not Vs))
  |str j=>obtain⟨t',rfl⟩:=ry;exact PySem.EqMixed.ne_int_str (iU I q (by simp))
  |_=>exact absurd (show false=true from hs) aF
 |str i=>
  obtain⟨t,rfl⟩:=rx
  cases y with
  |jX=>cases ry;exact PySem.EqNone.ne_str_none (iU I q (by simp))
  |bl j=>cases ry;exact PySem.EqMixed.ne_str_bool (iU I q (by simp))
  |int j=>obtain⟨t',rfl⟩:=ry;exact PySem.EqMixed.ne_str_int (iU I q (by simp))
  |str j=>obtain⟨t',rfl⟩:=ry;exact ne_str (iU I q (congrArg not Vt))
  |_=>exact absurd (show false=true from hs) aF
 |QI i=>
  obtain⟨t,rfl⟩:=rx
  cases y with
  |QI j=>obtain⟨t',rfl⟩:=ry;exact PySem.W.ne_bytes (iU I q (congrArg not Vu))
  |_=>exact absurd (show false=true from hs) aF
 |_=>cases y<;>exact absurd (show false=true from hs) aF
theorem xB:Ka X (jh .Lt) (XQ fun i j=>.bl (decide (i<j))):=ad8 fun _ _ _ _ _ _ _ q=>lt_int q
theorem qH:Ka X (jh .LtE) (XQ fun i j=>.bl (decide (i<=j))):=ad8 fun _ _ _ _ _ _ _ q=>le_int q
theorem YB:Ka X (jh .Gt) (XQ fun i j=>.bl (decide (j<i))):=ad8 fun _ _ _ _ _ _ _ q=>gt_int q
theorem dZ(b:fK){op:Qv}(h:op≠.In:=by decide)(h2:op≠.NotIn:=by decide):qp op b=false:=by
 have e1:(op==CmpOp.In)=false:=by cases op<;>first|rfl|exact absurd rfl h
 have e2:(op==CmpOp.NotIn)=false:=by cases op<;>first|rfl|exact absurd rfl h2
 cases b<;>simp[qp,e1,e2]
theorem AW{op:Qv}{r:R2}(ho:Ka X (jh op) r)(ha:PE X a ta)(hb:PE X b tb)(hm:qp op b=false):PE X (.Compare a [op] [b] pos) (tOp r ta tb):=by
 intro pins s σ H Q I h
 exact wpAny_Compare1 (ad7 ha hb I h fun v u s2 x y H2 I2 rx ry q=>ho pins s2 σ H2 x y v u Q I2 rx ry q) hm
def YC(t:TE):TT:=fun σ H Q=>t σ H fun x H'=>∃k,x=.bl k/\Q k H'
theorem dB{op:Qv}{r:R2}(ho:Ka X (jh op) r)(ha:PE X a ta)(hb:PE X b tb)(hm:qp op b=false):PT X (.Compare a [op] [b] pos) (YC (tOp r ta tb)):=by
 intro pins s σ H Q I h
 refine abh (jw (ha pins s σ H _ I h) fun v s1⟨x,H1,I1,r1,q1⟩=>jw (hb pins s1 σ H1 _ I1 q1) fun u s2⟨y,H2,I2,r2,q2⟩=>
  jw (ho pins s2 σ H2 x y v u _ I2 r1 r2 q2) fun c s3⟨z,H3,I3,r3,k,e,q3⟩=>?_) hm
 subst e
 cases r3
 exact gj ⟨H3,I3,q3⟩
def Tu(r r':R2)(ta tb tc:TE):TE:=fun σ H Q=>ta σ H fun x H1=>tb σ H1 fun y H2=>r x y H2 fun z H3=>∃k,z=.bl k/\
 (if k=true then tc σ H3 fun w' H4=>r' y w' H4 Q else Q (.bl false) H3)
theorem CK{op YD:Qv}{r r':R2}(ho:Ka X (jh op) r)(SQ:Ka X (jh YD) r')(ha:PE X a ta)(hb:PE X b tb)(hc:PE X c tc)
  (hm:lastMarks [op,YD] [b,c]=false:=by with_unfolding_all rfl):PE X (.Compare a [op,YD] [b,c] pos) (Tu r r' ta tb tc):=by
 intro pins s σ H Q I h
 refine Compare_chain (jw (ha pins s σ H _ I h) fun v s1⟨x,H1,I1,r1,q1⟩=>chain_link (jw (hb pins s1 σ H1 _ I1 q1) fun u s2⟨y,H2,I2,r2,q2⟩=>
  jw (ho pins s2 σ H2 x y v u _ I2 r1 r2 q2) fun d s3⟨z,H3,I3,r3,k,e,q3⟩=>?_)) hm
 subst e
 cases r3
 refine gj ?_
 cases k with
 |false=>exact ite_ff ⟨.bl false,H3,I3,rfl,q3⟩
 |true=>exact ite_tt (chain_last (jw (hc pins s3 σ H3 _ I3 q3) fun w' s4⟨z',H4,I4,r4,q4⟩=>SQ pins s4 σ H4 y z' u w' Q I4 r2 r4 q4))
theorem CL{op YD:Qv}{r r':R2}(ho:Ka X (jh op) r)(SQ:Ka X (jh YD) r')(ha:PE X a ta)(hb:PE X b tb)(hc:PE X c tc)
  (hm:lastMarks [op,YD] [b,c]=false:=by with_unfolding_all rfl):PT X (.Compare a [op,YD] [b,c] pos) (YC (Tu r r' ta tb tc)):=by
 intro pins s σ H Q I h
 refine isTrue_chain (jw (ha pins s σ H _ I h) fun v s1⟨x,H1,I1,r1,q1⟩=>test_link (jw (hb pins s1 σ H1 _ I1 q1) fun u s2⟨y,H2,I2,r2,q2⟩=>
  jw (ho pins s2 σ H2 x y v u _ I2 r1 r2 q2) fun d s3⟨z,H3,I3,r3,k,e,q3⟩=>?_)) hm
 subst e
 cases r3
 refine gj ?_
 cases k with
 |false=>
  obtain⟨k',e',q'⟩:=q3
  cases e'
  exact ite_ff ⟨H3,I3,q'⟩
 |true=>
  refine ite_tt (test_last (jw (hc pins s3 σ H3 _ I3 q3) fun w' s4⟨z',H4,I4,r4,q4⟩=>jw (SQ pins s4 σ H4 y z' u w' _ I4 r2 r4 q4) fun d' s5⟨z2,H5,I5,r5,k2,e2,q5⟩=>?_))
  subst e2
  cases r5
  exact gj ⟨H5,I5,q5⟩
theorem OG:(aK:Nat)<2^63:=by rw[iJ];decide
theorem YE{x:V}{us:List ao}(r:eU [x] us):∃u,us=[u]/\gW x u:=by
 cases r with
 |cons r1 r2=>cases r2;exact⟨_,rfl,r1⟩
end
structure Tv(h:cY)(x dx C:ak)(mA:cM->Option ao):Prop where
 obj:h.get? x=some (kZ C dx)
 ns:h.Ns1 dx mA
 ne:dx≠x
theorem Ww{h:cY}{dx:ak}{mA:cM->Option ao}(n:h.Ns1 dx mA):∃od,h.get? dx=some od/\∀name,DS name od=some (mA name):=by
 obtain⟨o,es,ep,ho,hd,hk,_,hm⟩:=n
 refine⟨o,ho,fun name=>?_⟩
 have e:=hm name
 unfold nsFind findBy at e
 rw[<-Array.find?_toList]at e
 unfold DS
 rw[hd]
 dsimp only
 split
 ·rename_i y q
  rw[q]at e
  exact congrArg some e
 ·rename_i q
  rw[q]at e
  have a:es.toList.any (·.refKey)=false:=by
   rw[List.any_eq_false]
   intro y hy
   obtain⟨z,t,YF⟩:=hk y (Array.mem_toList_iff.mp hy)
   simp[DictEntry.refKey,YF]
  have a':¬es.toList.any (·.refKey)=true:=by rw[a];exact aF
  rw[aD a']
  exact congrArg some e
theorem Tv.look{h:cY}{x dx C:ak}{mA:cM->Option ao}(I:Tv h x dx C mA):∃od,PySem.W.InstAt h x (kZ C dx) C (some od)/\∀name,DS name od=some (mA name):=
 let⟨od,ho,hl⟩:=Ww I.ns
 ⟨od,⟨I.obj,rfl,rfl,ho⟩,hl⟩
section
variable{prog:bD}{w:cC}{A:eG}{E:ao->aN->Prop}{s:aN}{K:ah}{x dx C f:ak}{mA:cM->Option ao}{name:cM}{v:ao}
theorem abr{expr:Bool}{Q:ao->aN->Prop}(X:K.In s.heap)(I:Tv s.heap x dx C mA)(hg:uO K C name=true)(hh:yY K C=true)(ha:gU K (.ref C) name=some none)(hv:mA name=some v)(hv':XH v=true)(h:Q v {s with toks:=s.toks+1}):b8 (cI prog w) A (getAttr (.ref x) name expr) Q E s:=by
 obtain⟨od,J,hl⟩:=I.look
 exact PySem.W.get_value X J (ED hg).1 (PySem.W.findObj_own hh ha rfl (by rw[hl,hv])) hv' h
theorem YG{pl:Sem Bool}{Q:ao×List ao->aN->Prop}(X:K.In s.heap)(I:Tv s.heap x dx C mA)(hg:uO K C name=true)(hf:gU K (.ref C) name=some (some (.ref f)))(ht:BV K (.ref f)=true)(hv:mA name=none)(h:Q (.ref f,[.ref x]) s):b8 (cI prog w) A (getMethod (.ref x) name pl) Q E s:=by
 obtain⟨od,J,hl⟩:=I.look
 exact PySem.W.method_fn X J (ED hg).1 (ED hg).2 hf (i_.mp ht) (by show(DS name od).map (·.isSome)=some false;rw[hl,hv];rfl) h
theorem abt{ns:List cM}{Q:Unit->aN->Prop}(X:K.In s.heap)(I:Tv s.heap x dx C mA)(hs:gU K (.ref C) "__setattr__"=some (some (.builtin "object.__setattr__")))(hp:Hf K C=true)(ht:JX K C name=some none)(hh:yY K C=true)(hw:SH mA ns)(hsz:ns.length<=aK)(h:∀h',Tv h' x dx C (fun y=>if y=name then some v else mA y)->Jh dx s.heap h'->Q () {s with heap:=h',toks:=s.toks+2}):b8 (cI prog w) A (setAttr (.ref x) name v) Q E s:=by
 obtain⟨od,J,hl⟩:=I.look
 refine PySem.W.set_plain X J hs (PySem.W.osa_open (s:={s with toks:=s.toks+1}) (r:=none) X J hp ht fun b=>?_)
 obtain⟨cd,hc,J9⟩:=PySem.W.any_some hh
 have hx:s.heap.get? x=some ⟨.ref C,some dx,.plain,#[]⟩:=I.obj
 refine aP (bR (aP (aP (wpAny_loadPart hx (aP (PySem.W.Looks.here (s:={s with toks:=s.toks+1}) (PySem.W.looks_clsIn X hc) ?_))))))
 rw[J9]
 refine bR (a:=some dx) (aP (bR (aP ?_)))
 refine wpAny_nsSet1 (s:={s with toks:=s.toks+1}) I.ns fun h' hn2 hs2=>?_
 obtain⟨oD,esD,epD,hoD,hdD,hcD⟩:=hn2.count (PySem.Within.cons name v hw)
 refine aP (wpAny_lookBehind hoD (by rw[hdD];exact pastItsLine_dict (bQ hcD (by rw[br];omega))) ?_)
 exact bR (h _ ⟨(hs2.2 _ (iG I.ne)).trans I.obj,hn2,I.ne⟩ hs2)
theorem YH{R:Result->aN->Prop}{vs:List ao}{kw:List (cM×ao)}(X:K.In s.heap)(hm:JY K C=true)(hi:gU K (.ref C) "__init__"=some (some (.ref f)))(hf:PySem.W.typeIn K (.ref f)=some (.type "function"))(h:Nq (cI prog w) (A.under (.builtin "type.__call__" ⟨.ref C::vs,kw⟩)) (.call (.ref f) ⟨.ref (s.heap.objs.size+1)::vs,kw⟩) (PySem.W.InitBack (s.heap.objs.size+1) R) {s with heap:=(s.heap.push ja).push (kZ C s.heap.objs.size)}):Nq (cI prog w) A (.call (.ref C) ⟨vs,kw⟩) R s:=by
 obtain⟨hh,g,d,t,os⟩:=s
 exact PySem.W.make_core (PySem.W.makes_of X hm) (PySem.W.looks_findIn X hi) (fun self=>PySem.W.bind_fn X self hf) (.inl rfl) h
end
def gM(f:cM)(v:V):List (cM×V)->List (cM×V)
 |[]=>[(f,v)]
 |(g,x)::r=>if g=f then(g,v)::r else(g,x)::gM f v r
theorem Iv(f g:cM)(v:V):∀fs:List (cM×V),(gM f v fs).lookup g=if g=f then some v else fs.lookup g
 |[]=>by
  show tQ g [(f,v)]=_
  by_cases h:g=f
  ·have hb:(g==f)=true:=i_.mpr h
   simp only[tQ,hb,aG h]
  ·have hb:(g==f)=false:=dU.mpr h
   simp only[tQ,hb,aD h]
 |(k,x)::r=>by
  have ih:=Iv f g v r
  rw[show gM f v ((k,x)::r)=(if k=f then(k,v)::r else(k,x)::gM f v r)from rfl]
  by_cases hk:k=f
  ·rw[aG hk]
   by_cases h:g=k
   ·have hb:(g==k)=true:=i_.mpr h
    simp only[tQ,hb,aG (h.trans hk)]
   ·have hb:(g==k)=false:=dU.mpr h
    simp only[tQ,hb,aD (fun e:g=f=>h (e.trans hk.symm))]
  ·rw[aD hk]
   by_cases h:g=k
   ·have hb:(g==k)=true:=i_.mpr h
    simp only[tQ,hb,aD (fun e:g=f=>hk (h.symm.trans e))]
   ·have hb:(g==k)=false:=dU.mpr h
    simp only[tQ,hb]
    exact ih
theorem Hu(f:cM)(v:V):∀fs:List (cM×V),f∈(gM f v fs).map (·.1)/\∀g,g∈fs.map (·.1)->g∈(gM f v fs).map (·.1)
 |[]=>⟨by simp[gM],fun g h=>by simp at h⟩
 |(k,x)::r=>by
  obtain⟨i1,i2⟩:=Hu f v r
  rw[show gM f v ((k,x)::r)=(if k=f then(k,v)::r else(k,x)::gM f v r)from rfl]
  by_cases hk:k=f
  ·rw[aG hk]
   subst hk
   exact⟨by simp,fun g h=>by simpa using h⟩
  ·rw[aD hk]
   refine⟨?_,fun g h=>?_⟩
   ·rw[bg]
    exact bO _ i1
   ·rw[bg]at h⊢
    rcases aW.mp h with e|e
    ·exact aW.mpr (.inl e)
    ·exact bO _ (i2 g e)
theorem Iw(f:cM)(v:V):∀fs:List (cM×V),(gM f v fs).length<=fs.length+1
 |[]=>by simp[gM]
 |(k,x)::r=>by
  have ih:=Iw f v r
  rw[show gM f v ((k,x)::r)=(if k=f then(k,v)::r else(k,x)::gM f v r)from rfl]
  by_cases hk:k=f
  ·rw[aG hk,br,br];omega
  ·rw[aD hk,br,br];omega
theorem En.some_of{v:V}{o:Option ao}(r:En (some v) o):∃u,o=some u/\gW v u:=by
 cases o with
 |none=>exact(show False from r).elim
 |some u=>exact⟨u,rfl,r⟩
theorem En.none_of{o:Option ao}(r:En none o):o=none:=by
 cases o with
 |none=>rfl
 |some u=>exact(show False from r).elim
theorem Wx{v:V}{u:ao}(r:gW v u):XH u=true:=by
 cases v with
 |jX=>cases(show u=Co from r);rfl
 |bl b=>cases(show u=Cp b from r);rfl
 |int i=>obtain⟨t,e⟩:=(show∃t,u=ET i t from r);cases e;rfl
 |str x=>obtain⟨t,e⟩:=(show∃t,u=Qs x t from r);cases e;rfl
 |QI b=>obtain⟨t,e⟩:=(show∃t,u=Value.bytes b t from r);cases e;rfl
 |flt b=>obtain⟨t,e⟩:=(show∃t,u=Value.float b t from r);cases e;rfl
 |ref a=>cases(show u=dI a from r);rfl
 |ty n=>cases(show u=vG n from r);rfl
section
variable{P:bD}{w:cC}{H H':Hp}{h h':cY}{a C dx:ak}{fs fs':List (cM×V)}
theorem OH(dz:CA P w H h)(e:H a=some (.ins C dx fs)):∃mA,Tv h a dx C mA/\(∀f,En (fs.lookup f) (mA f))/\SH mA (fs.map (·.1))/\fs.length<=1000/\H dx=some (.own a):=by
 obtain⟨d,z,ne,ob,mA,n,r,q⟩:=(show kP P w H h a (.ins C dx fs)from dz a _ e)
 exact⟨mA,⟨ob,n,ne⟩,r,q,z,d⟩
end
structure Tw(K:ah)(C:ak):Prop where
 pg:uO K C Str.empty=true
 hd:yY K C=true
 po:Hf K C=true
 sa:gU K (.ref C) "__setattr__"=some (some (.builtin "object.__setattr__"))
theorem Tw.get{K:ah}{C:ak}(c:Tw K C)(f:cM):uO K C f=true:=c.pg
def AX(K:ah)(C:ak)(f:cM):Prop:=gU K (.ref C) f=some none
theorem AX.afR{K:ah}{C:ak}{f:cM}(n:AX K C f):JX K C f=some none:=by
 unfold JX
 rw[show gU K (.ref C) f=some none from n]
 rfl
structure YI(K:ah)(C:ak)(m:cM)(f:ak):Prop where
 at_:gU K (.ref C) m=some (some (.ref f))
 fn:BV K (.ref f)=true
 kp:jb K (.ref f)=true
section
variable{X:Cx}{pins:List (ak×mC)}{σ:St}{H:Hp}{s:aN}{a C dx:ak}{fs:List (cM×V)}{f:cM}{v:V}{A:eG}{E:ao->aN->Prop}
theorem Tz{b:Bool}{Q:ao->aN->Prop}(I:dO X pins σ H s)(e:H a=some (.ins C dx fs))(c:Tw X.K C)(n:AX X.K C f)(l:fs.lookup f=some v)(h:∀u s',dO X pins σ H s'->gW v u->Q u s'):b8 (cI X.prog X.w) A (getAttr (.ref a) f b) Q E s:=by
 obtain⟨mA,O,r,_,_,_⟩:=OH I.dz e
 obtain⟨u,hu,ru⟩:=En.some_of (v:=v) (o:=mA f) (by rw[<-l];exact r f)
 exact abr I.SO O (c.get f) c.hd n hu (Wx ru) (h u _ (I.tok _) ru)
theorem KJ{m:cM}{g:ak}{pl:Sem Bool}{Q:ao×List ao->aN->Prop}(I:dO X pins σ H s)(e:H a=some (.ins C dx fs))(c:Tw X.K C)(k:YI X.K C m g)(l:fs.lookup m=none)(h:Q (.ref g,[.ref a]) s):b8 (cI X.prog X.w) A (getMethod (.ref a) m pl) Q E s:=by
 obtain⟨mA,O,r,_,_,_⟩:=OH I.dz e
 have hn:mA m=none:=En.none_of (by rw[<-l];exact r m)
 exact YG I.SO O (c.get m) k.at_ k.fn hn h
theorem TF{y:V}{u:ao}{Q:Unit->aN->Prop}(I:dO X pins σ H s)(e:H a=some (.ins C dx fs))(c:Tw X.K C)(n:AX X.K C f)(hl:fs.length<1000)(ry:gW y u)(h:∀s',dO X pins σ (upd H a (.ins C dx (gM f y fs))) s'->Q () s'):b8 (cI X.prog X.w) A (setAttr (.ref a) f u) Q E s:=by
 obtain⟨mA,O,r,wi,_,ho⟩:=OH I.dz e
 have hz:(fs.map (·.1)).length<=aK:=by rw[aa,iJ];omega
 refine abt I.SO O c.sa c.po n.afR c.hd wi hz fun h' O' sb=>h _ ?_
 have hd:∃o,h'.get? dx=some o:=let⟨o,_,_,e',_⟩:=O'.ns;⟨o,e'⟩
 refine I.write (x:=a) (e:=dx) (by rw[e];exact yZ) (.inr ho) (fun b q hb z=>(sb.2 b hb).trans z) hd ?_
 refine⟨by rw[bY O.ne];exact ho,?_,O.ne,O'.obj,_,O'.ns,fun g=>?_,fun g hg=>?_⟩
 ·have:=Iw f y fs;omega
 ·show En ((gM f y fs).lookup g) (if g=f then some u else mA g)
  rw[Iv]
  by_cases q:g=f
  ·rw[aG q,aG q];exact ry
  ·rw[aD q,aD q];exact r g
 ·by_cases q:g=f
  ·rw[q];exact(Hu f y fs).1
  ·refine(Hu f y fs).2 g (wi g fun z=>hg ?_)
   show(if g=f then some u else mA g)=none
   rw[aD q];exact z
theorem dO.made(I:dO X pins σ H s):dO X pins σ (upd (upd H s.heap.objs.size (.own (s.heap.objs.size+1))) (s.heap.objs.size+1) (.ins C s.heap.objs.size [])) {s with heap:=(s.heap.push ja).push (kZ C s.heap.objs.size)}:=by
 have e1:(s.heap.push ja).get? s.heap.objs.size=some ja:=cF s.heap rfl
 have e2:((s.heap.push ja).push (kZ C s.heap.objs.size)).get? (s.heap.objs.size+1)=some (kZ C s.heap.objs.size):=by
  have:=cF (s.heap.push ja) (o:=kZ C s.heap.objs.size) rfl
  rwa[gz]at this
 have e3:(s.heap.push ja).Ns s.heap.objs.size (fun _=>none):=⟨ja,#[],_,e1,rfl,(fun e he=>absurd he (by simp)),fun _=>rfl⟩
 have I1:=I.laid (a:=s.heap.objs.size) (o:=.own (s.heap.objs.size+1)) (h':=s.heap.push ja) (t':=s.toks) (fun b u q=>bh _ q) (aV _) ⟨_,e1⟩
 refine I1.laid (a:=s.heap.objs.size+1) (o:=.ins C s.heap.objs.size []) (t':=s.toks) (fun b u q=>bh _ q) (uP (gz _ _)) ?_
 have ne:s.heap.objs.size≠s.heap.objs.size+1:=d8 (Cq _)
 refine⟨by rw[bY ne,aE],bE _,ne,e2,fun _=>none,(Heap.Ns1.of_empty e3).at fun o q=>bh _ q,fun _=>yZ,fun y hy=>absurd rfl hy⟩
theorem abu{prog:bD}{w:cC}{env:Ou}{e:fK}{f:cM}{pos:AB}{s:aN}{Q:ao->aN->Prop}(hb:DT e f env (eval e env)=eval e env)(h:b8 (cI prog w) A (eval e env) (fun o s₁=>b8 (cI prog w) A (getAttr o f true) Q E s₁) E s):b8 (cI prog w) A (eval (.Attribute e f pos) env) Q E s:=
 Attribute_any_ h (by rw[arm_eval_Attribute,hb])
end
def afS(K:ah)(ta:TE)(f:cM):TE:=fun σ H Q=>ta σ H fun x H1=>∃a C dx fs v,x=.ref a/\H1 a=some (.ins C dx fs)/\Tw K C/\AX K C f/\fs.lookup f=some v/\Q v H1
def aiR(K:ah)(ta tv:TE)(f:cM):TS:=fun D σ H=>tv σ H fun y H1=>ta σ H1 fun x H2=>∃a C dx fs,x=.ref a/\H2 a=some (.ins C dx fs)/\Tw K C/\AX K C f/\fs.length<1000/\
 D.nx σ (upd H2 a (.ins C dx (gM f y fs)))
section
variable{X:Cx}{o e value:fK}{f:cM}{pos AV Gd:AB}{ta tv:TE}
theorem ad_(he:PE X e ta)(hb:DT e f X.env (eval e X.env)=eval e X.env):PE X (.Attribute e f pos) (afS X.K ta f):=by
 intro pins s σ H Q I h
 refine abu hb (jw (he pins s σ H _ I h) fun u s1⟨x,H1,I1,rx,a,C,dx,fs,v,ex,ea,c,n,l,q⟩=>?_)
 subst ex
 obtain rfl:u=dI a:=rx
 exact Tz I1 ea c n l fun u' s2 I2 ru=>⟨v,H1,I2,ru,q⟩
theorem iV(ha:PE X o ta)(hv:PE X value tv)(hs:AL value (some (.Attribute o f AV)) pos.line X.env=pure false):PS X (.Assign [.Attribute o f AV] value pos) (aiR X.K ta tv f):=by
 intro pins s σ H D I h
 refine plainObj_wpAny_Assign_Attribute (jw (hv pins s σ H _ I h) fun u s1⟨y,H1,I1,ry,q⟩=>jw (ha pins s1 σ H1 _ I1 q) fun ov s2⟨x,H2,I2,rx,a,C,dx,fs,ex,ea,c,n,l,q2⟩=>?_) hs
 subst ex
 obtain rfl:ov=dI a:=rx
 exact TF I2 ea c n l ry fun s3 I3=>⟨σ,_,I3,q2⟩
end
structure lZ(k:Nat)(A:eG):Prop where
 hd:A.handled=none
 dp:A.depth+3*k+5<recursionLimit
 un:A.units+16*k+200<qD
theorem lZ.mono{j k:Nat}{A:eG}(r:lZ k A)(h:j<=k):lZ j A:=⟨r.hd,by have:=r.dp;omega,by have:=r.un;omega⟩
theorem lZ.deeper{k:Nat}{A:eG}(r:lZ (k+1) A)(env:Ou):lZ k (A.deeper env):=
 ⟨r.hd,by have:=r.dp;show A.depth+1+3*k+5<_;omega,by have:=r.un;show A.units+3+16*k+200<_;omega⟩
theorem lZ.in1{k:Nat}{A:eG}(r:lZ (k+1) A):lZ k A.in1:=
 ⟨r.hd,by have:=r.dp;show A.depth+3*k+5<_;omega,by have:=r.un;show A.units+1+16*k+200<_;omega⟩
theorem TJ{A:eG}{C:ak}{us:List ao}{kw:List (cM×ao)}:(A.under (.builtin "type.__call__" ⟨.ref C::us,kw⟩)).depth=A.depth+1:=by
 first|rfl|simp[Qx,Code.weight,Code.isCreation,Code.isGuard,Code.isCaller,Code.frames,SV,guardIds]
theorem TM{A:eG}{C:ak}{us:List ao}{kw:List (cM×ao)}:(A.under (.builtin "type.__call__" ⟨.ref C::us,kw⟩)).units=A.units+1:=by
 first|rfl|simp[Qx,Code.cUnits,Code.frames,SV]
theorem lZ.make{k:Nat}{A:eG}(r:lZ (k+1) A)(C:ak)(us:List ao)(kw:List (cM×ao)):lZ k (A.under (.builtin "type.__call__" ⟨.ref C::us,kw⟩)):=
 ⟨r.hd,by have:=r.dp;rw[TJ];omega,by have:=r.un;rw[TM];omega⟩
theorem lZ.depth{k:Nat}{A:eG}(r:lZ k A):A.depth<recursionLimit:=by have:=r.dp;omega
theorem lZ.units{k:Nat}{A:eG}(r:lZ k A):A.units+64<qD:=by have:=r.un;omega
def TN:TA:=fun _ H Q=>Q [] H
def YJ(ta:TE)(tr:TA):TA:=fun σ H Q=>ta σ H fun x H1=>tr σ H1 fun xs H2=>Q (x::xs) H2
section
variable{X:Cx}{e:fK}{es:List fK}{te:TE}{t:TA}{pos:AB}
theorem aA:PA X [] TN:=fun _ _ _ _ H Q I h=>Calls.spliced_nil ⟨[],H,I,.nil,h⟩
theorem aj(ha:PE X e te)(hr:PA X es t)(hs:b_ (e::es) X.env=(false,eval e X.env)::b_ es X.env:=by rfl):PA X (e::es) (YJ te t):=by
 intro pos pins s σ H Q I h
 rw[hs]
 show b8 _ _ (spliced ((false,eval e X.env)::jI pos (b_ es X.env))) _ _ s
 refine Calls.spliced_cons (jw (ha pins s σ H _ I h) fun u s1⟨x,H1,I1,r1,q1⟩=>?_)
 exact jw (hr pos pins s1 σ H1 _ I1 q1) fun us s2⟨xs,H2,I2,r2,q2⟩=>⟨x::xs,H2,I2,.cons r1 r2,q2⟩
def aiS(t:TA):TE:=fun σ H Q=>t σ H fun xs H1=>xs.length<=aK/\∀p,H1 p=none->Q (.ref p) (upd H1 p (.tup xs))
def aiT(t:TA):TE:=fun σ H Q=>t σ H fun xs H1=>xs.length<=aK/\∀p,H1 p=none->Q (.ref p) (upd H1 p (.lst xs))
theorem CM{x1}(h:PA X es t):PE X (.Tuple es x1 pos) (aiS t):=by
 intro pins s σ H Q I hq
 refine wpAny_Tuple_spliced (jw (h pos pins s σ H _ I hq) fun us s1⟨xs,H1,I1,r,z,q⟩=>⟨by rw[<-r.length];exact z,?_⟩)
 have hf:H1 s1.heap.objs.size=none:=I1.dz.fresh (aV _)
 refine⟨.ref s1.heap.objs.size,upd H1 s1.heap.objs.size (.tup xs),I1.laid (t':=s1.toks) (fun b u e=>bh _ e) (aV _) ?_,rfl,q _ hf⟩
 exact⟨z,us,r,⟨_,cF _ rfl,rfl,_,rfl⟩⟩
theorem c_(h:PA X es t):PE X (.List es pos) (aiT t):=by
 intro pins s σ H Q I hq
 refine wpAny_List_spliced (jw (h pos pins s σ H _ I hq) fun us s1⟨xs,H1,I1,r,z,q⟩=>⟨by rw[<-r.length];exact z,?_⟩)
 have hf:H1 s1.heap.objs.size=none:=I1.dz.fresh (aV _)
 refine⟨.ref s1.heap.objs.size,upd H1 s1.heap.objs.size (.lst xs),I1.laid (t':=s1.toks) (fun b u e=>bh _ e) (aV _) ?_,rfl,q _ hf⟩
 exact⟨z,us,0,r,cF _ rfl⟩
end
abbrev Sp:=List V->Hp->VK->XK->Prop
abbrev XR:=List Ou->Hp->aN->XK->ao->aN->Prop
structure QS(P:bD)(w:cC)(K:ah)(mg:cM->Option ao)(base:cY)(A:eG)(outer:List Ou)(s:aN)(H:Hp):Prop where
 frames:A.frames=some outer
 mod:Mod K mg base
 bs:∀b o,base.get? b=some o->s.heap.get? b=some o/\H b=none
 bsz:base.objs.size<=s.heap.objs.size
 Hr:s.heap.FunFrames base outer
 frf:∀b∈Ym outer,H b=none
 dz:CA P w H s.heap
 bare:Nm s.gens
def CE(outer:List Ou)(P:bD)(w:cC)(H:Hp)(s:aN)(Q:VK)(u:ao)(s':aN):Prop:=
 ∃v H',s'.os=s.os/\Nm s'.gens/\Un (Ym outer) [] H H' s.heap s'.heap/\CA P w H' s'.heap/\gW v u/\Q v H'
def CR(CX:XR)(outer:List Ou)(P:bD)(w:cC)(H:Hp)(s:aN)(Q:VK)(E:XK)(r:Result)(s':aN):Prop:=
 match r with
 |.ok (.ret u)=>CE outer P w H s Q u s'
 |.ok _=>False
 |.error e=>CX outer H s E e s'
structure yr(P:bD)(w:cC)(K:ah)(mg:cM->Option ao)(base:cY)(CX:XR)(k:Nat)(f:ak)(fd:iW)(ps:List cM)(sp:Sp):Prop where
 len:∀vs H Q E,sp vs H Q E->vs.length=ps.length
 run:∀(A:eG)(outer:List Ou)(s:aN)(H:Hp)(args:Args)(us:List ao)(vs:List V)(Q:VK)(E:XK),lZ k A->QS P w K mg base A outer s H->SW s fd args (ps.zip us)->eU vs us->sp vs H Q E->
  Nq (cI P w) A (.call (.ref f) args) (CR CX outer P w H s Q E) s
theorem QS.make{P:bD}{w:cC}{K:ah}{mg:cM->Option ao}{base:cY}{A:eG}{outer:List Ou}{s:aN}{H:Hp}(e:QS P w K mg base A outer s H)(C:ak)(us:List ao)(kw:List (cM×ao)):QS P w K mg base (A.under (.builtin "type.__call__" ⟨.ref C::us,kw⟩)) outer s H:=⟨by first|exact e.frames|(simpa[Qx,Code.envs,SV,pushEnvs]using e.frames),e.mod,e.bs,e.bsz,e.Hr,e.frf,e.dz,e.bare⟩
section
variable{X:Cx}{pins:List (ak×mC)}{σ:St}{H:Hp}{s s':aN}
theorem dO.ad'(I:dO X pins σ H s):QS X.prog X.w X.K X.mg X.base X.A X.stack s H:=
 ⟨I.ok.frames,I.ok.mod,I.bs,bQ I.ok.bsz I.sz,I.stack,I.Vn,I.dz,I.bare⟩
theorem dO.after{Q:VK}{u:ao}(I:dO X pins σ H s)(h:CE X.stack X.prog X.w H s Q u s'):EP X pins σ Q u s':=by
 obtain⟨v,H',os,bare,un,dz,r,q⟩:=h
 obtain⟨hh,g,d,t,os'⟩:=s'
 obtain rfl:os'=s.os:=os
 exact⟨v,H',I.call (h':=hh) (g':=g) (d':=d) (t':=t) (ch:=[]) un dz bare (fun b z=>absurd z (by simp)),r,q⟩
end
def ac3(sp:Sp)(KL:List V)(E:XK)(t:TA):TE:=fun σ H Q=>t σ H fun vs H1=>sp (vs++KL) H1 Q E
def Vw(C:ak)(m:cM)(sp:Sp)(KL:List V)(E:XK)(ta:TE)(t:TA):TE:=fun σ H Q=>ta σ H fun x H1=>∃a dx fs,x=.ref a/\H1 a=some (.ins C dx fs)/\fs.lookup m=none/\
 t σ H1 fun vs H2=>sp (x::(vs++KL)) H2 Q E
def Vx(C:ak)(sp:Sp)(KL:List V)(E:XK)(t:TA):TE:=fun σ H Q=>t σ H fun vs H1=>∀x dx,H1 x=none->H1 dx=none->dx≠x->
 sp (.ref x::(vs++KL)) (upd (upd H1 dx (.own x)) x (.ins C dx [])) (fun v H2=>v=.jX/\Q (.ref x) H2) E
def sA(K:ah)(fd:iW)(ps:List cM)(ds:List ao):Prop:=
 ∀(s:aN)(us:List ao),K.In s.heap->(us++ds).length=ps.length->SW s fd ⟨us,[]⟩ (ps.zip (us++ds))
theorem sA.all{K:ah}{fd:iW}{ps:List cM}(h:∀us:List ao,us.length=ps.length->Vf fd ⟨us,[]⟩=pure (ps.zip us)):sA K fd ps []:=fun s us _ hl=>by
 rw[cQ]at hl⊢
 exact .of_eq (h us hl)
def CN(CX:XR)(X:Cx)(E:XK):Prop:=∀(pins:List (ak×mC))(σ:St)(H:Hp)(s:aN)(e:ao)(s':aN),dO X pins σ H s->CX X.stack H s E e s'->X.xe e s'
section
variable{X:Cx}{CX:XR}{k:Nat}{f C:ak}{fd:iW}{ps:List cM}{sp:Sp}{KL:List V}{ds:List ao}{E:XK}{x m:cM}{p pos AY:AB}{e o:fK}{es:List fK}{ta:TE}{t:TA}
theorem TQ{pins:List (ak×mC)}{σ:St}{H:Hp}{s:aN}{Q:VK}{us:List ao}{vs:List V}(F:yr X.prog X.w X.K X.mg X.base CX k f fd ps sp)(hr:lZ k X.A)(hb:sA X.K fd ps ds)(hd:eU KL ds)(hx:CN CX X E)(I:dO X pins σ H s)(r:eU vs us)(h:sp (vs++KL) H Q E):b8 (cI X.prog X.w) X.A (call (.ref f) us) (EP X pins σ Q) X.xe s:=by
 have r2:eU (vs++KL) (us++ds):=r.append hd
 have hl:(us++ds).length=ps.length:=by rw[<-r2.length];exact F.len _ _ _ _ h
 refine Ve (wg (F.run X.A X.stack s H ⟨us,[]⟩ (us++ds) (vs++KL) Q E hr I.ad' (hb s us I.SO hl) r2 h) fun r s' hq=>?_)
 cases r with
 |error e=>exact hx pins σ H s e s' I hq
 |ok fl=>
  cases fl with
  |ret u=>exact I.after hq
  |next=>exact gX hq
  |brk=>exact gX hq
  |cont=>exact gX hq
theorem abv(F:yr X.prog X.w X.K X.mg X.base CX k f fd ps sp)(hr:lZ k X.A)(hg:Gl X x)(hm:X.mg x=some (.ref f))(hk:jb X.K (.ref f)=true)(hb:sA X.K fd ps ds)(hd:eU KL ds)(hx:CN CX X E)
  (ha:PA X (e::es) t)(TU:(x==("__debug__":cM))=false:=by decide)(he:b_ (e::es) X.env=(false,eval e X.env)::b_ es X.env:=by rfl)(Eo:(jI pos (b_ es X.env)).any (·.1)=false:=by rfl):
  PE X (.Call (.Name x p) (e::es) [] pos) (ac3 sp KL E t):=by
 intro pins s σ H Q I h
 refine lO (J_ I hg hm ?_ TU)
 refine F2 (h₀:=X.base) I.ok.mod.kin hk (jw (ha pos pins s σ H _ I h) fun us s1⟨vs,H1,I1,r,q⟩=>⟨I1.SO,?_⟩) he Eo
 exact TQ F hr hb hd hx I1 r q
theorem abw{pl:Sem Bool}(he:PE X o ta)(c:Tw X.K C)(hm:YI X.K C m f)(F:yr X.prog X.w X.K X.mg X.base CX k f fd ps sp)(hr:lZ k X.A)(hb:sA X.K fd ps ds)(hd:eU KL ds)(hx:CN CX X E)(ha:PA X (e::es) t)
  (lQ:b_ (e::es) X.env=(false,eval e X.env)::b_ es X.env:=by rfl)(Eo:(jI pos (b_ es X.env)).any (·.1)=false:=by rfl)
  (ht:eval (.Call (.Attribute o m AY) (e::es) [] pos) X.env=(do
   let ov<-eval o X.env
   standAt AY.atName
   let(f,first)<-holding [ov] (getMethod ov m pl)
   Nk pos f first (jI pos (b_ (e::es) X.env)) (backToKw pos (keywordEach [] X.env))):=by rfl):
  PE X (.Call (.Attribute o m AY) (e::es) [] pos) (Vw C m sp KL E ta t):=by
 intro pins s σ H Q I h
 refine Qy (pl:=pl) (jw (he pins s σ H _ I h) fun u s1⟨x,H1,I1,rx,a,dx,fs,ex,ea,l,q⟩=>?_) ht
 subst ex
 obtain rfl:u=dI a:=rx
 refine KJ I1 ea c hm l ?_
 refine F2 (first:=[.ref a]) (h₀:=X.base) I.ok.mod.kin hm.kp (jw (ha pos pins s1 σ H1 _ I1 q) fun us s2⟨vs,H2,I2,r,q2⟩=>⟨I2.SO,?_⟩) lQ Eo
 exact TQ (us:=.ref a::us) (vs:=.ref a::vs) F hr hb hd hx I2 (.cons rfl r) q2
theorem YK{pl:Sem Bool}(he:PE X o ta)(c:Tw X.K C)(hm:YI X.K C m f)(F:yr X.prog X.w X.K X.mg X.base CX k f fd ps sp)(hr:lZ k X.A)(hb:sA X.K fd ps ds)(hd:eU KL ds)(hx:CN CX X E)
  (ht:eval (.Call (.Attribute o m AY) [] [] pos) X.env=(do
   let ov<-eval o X.env
   standAt AY.atName
   let(f,first)<-holding [ov] (getMethod ov m pl)
   Nk pos f first (jI pos (b_ [] X.env)) (backToKw pos (keywordEach [] X.env))):=by rfl):
  PE X (.Call (.Attribute o m AY) [] [] pos) (Vw C m sp KL E ta TN):=by
 intro pins s σ H Q I h
 refine Qy (pl:=pl) (jw (he pins s σ H _ I h) fun u s1⟨x,H1,I1,rx,a,dx,fs,ex,ea,l,q⟩=>?_) ht
 subst ex
 obtain rfl:u=dI a:=rx
 refine KJ I1 ea c hm l ?_
 exact SX (first:=[.ref a]) I1.SO hm.kp (TQ (us:=[.ref a]) (vs:=[.ref a]) F hr hb hd hx I1 (.cons rfl .nil) q)
structure Mk(K:ah)(C f:ak):Prop where
 makes:JY K C=true
 init:gU K (.ref C) "__init__"=some (some (.ref f))
 fn:BV K (.ref f)=true
 kp:jb K (.ref C)=true
theorem QT{pins:List (ak×mC)}{σ:St}{H:Hp}{s:aN}{Q:VK}{us:List ao}{vs:List V}(M:Mk X.K C f)(F:yr X.prog X.w X.K X.mg X.base CX k f fd ps sp)(hr:lZ (k+1) X.A)(hb:sA X.K fd ps ds)(hd:eU KL ds)(hx:CN CX X E)(I:dO X pins σ H s)(r:eU vs us)(h:∀x dx,H x=none->H dx=none->dx≠x->sp (.ref x::(vs++KL)) (upd (upd H dx (.own x)) x (.ins C dx [])) (fun v H2=>v=.jX/\Q (.ref x) H2) E):b8 (cI X.prog X.w) X.A (call (.ref C) us) (EP X pins σ Q) X.xe s:=by
 have hq:=h (s.heap.objs.size+1) s.heap.objs.size (I.dz.fresh (Nat.le_succ _)) (I.dz.fresh (aV _)) (d8 (Cq _))
 have I2:=dO.made (C:=C) I
 have r2:eU (V.ref (s.heap.objs.size+1)::(vs++KL)) (dI (s.heap.objs.size+1)::(us++ds)):=.cons rfl (r.append hd)
 have hl:(dI (s.heap.objs.size+1)::us++ds).length=ps.length:=by
  have e:=r2.length
  rw[F.len _ _ _ _ hq]at e
  exact e.symm
 refine Ve (YH (f:=f) I.SO M.makes M.init (i_.mp M.fn) (wg (F.run _ X.stack _ _ ⟨dI (s.heap.objs.size+1)::us,[]⟩ (dI (s.heap.objs.size+1)::(us++ds)) _ _ E (hr.make C us [])
  (I2.ad'.make C us []) (hb _ (dI (s.heap.objs.size+1)::us) I2.SO hl) r2 hq) fun r s' Qj=>?_))
 cases r with
 |error e=>exact hx pins σ _ _ e s' I2 Qj
 |ok fl=>
  cases fl with
  |ret u=>
   obtain⟨v,H',I3,rv,ev,q3⟩:=I2.after Qj
   subst ev
   exact⟨rv,⟨V.ref (s.heap.objs.size+1),H',I3,rfl,q3⟩⟩
  |next=>exact gX Qj
  |brk=>exact gX Qj
  |cont=>exact gX Qj
theorem abx(M:Mk X.K C f)(F:yr X.prog X.w X.K X.mg X.base CX k f fd ps sp)(hr:lZ (k+1) X.A)(hg:Gl X x)(hm:X.mg x=some (.ref C))(hb:sA X.K fd ps ds)(hd:eU KL ds)(hx:CN CX X E)
  (ha:PA X (e::es) t)(TU:(x==("__debug__":cM))=false:=by decide)(he:b_ (e::es) X.env=(false,eval e X.env)::b_ es X.env:=by rfl)(Eo:(jI pos (b_ es X.env)).any (·.1)=false:=by rfl):
  PE X (.Call (.Name x p) (e::es) [] pos) (Vx C sp KL E t):=by
 intro pins s σ H Q I h
 refine lO (J_ I hg hm ?_ TU)
 refine F2 (h₀:=X.base) I.ok.mod.kin M.kp (jw (ha pos pins s σ H _ I h) fun us s1⟨vs,H1,I1,r,q⟩=>⟨I1.SO,?_⟩) he Eo
 exact QT M F hr hb hd hx I1 r q
theorem YL(M:Mk X.K C f)(F:yr X.prog X.w X.K X.mg X.base CX k f fd ps sp)(hr:lZ (k+1) X.A)(hg:Gl X x)(hm:X.mg x=some (.ref C))(hb:sA X.K fd ps ds)(hd:eU KL ds)(hx:CN CX X E)
  (TU:(x==("__debug__":cM))=false:=by decide):PE X (.Call (.Name x p) [] [] pos) (Vx C sp KL E TN):=by
 intro pins s σ H Q I h
 refine lO (J_ I hg hm ?_ TU)
 exact SX I.SO M.kp (QT (us:=[]) M F hr hb hd hx I .nil h)
end
def PK(X:Cx)(Yk:List aaU)(t:TA):Prop:=
 ∀(pos:AB)(pins:List (ak×mC))(s:aN)(σ:St)(H:Hp)(Q:List V->Hp->Prop),dO X pins σ H s->t σ H Q->b8 (cI X.prog X.w) X.A (evalAll ((backToKw pos (keywordEach Yk X.env)).map (·.2))) (AP X pins σ Q) X.xe s
section
variable{X:Cx}{CX:XR}{k:Nat}{f C:ak}{fd:iW}{ps ks:List cM}{sp:Sp}{E:XK}{x m:cM}{p pos AY kpos:AB}{e o:fK}{es:List fK}{Yk:List aaU}{te ta:TE}{t tk:TA}{nm:Option cM}
theorem YM:PK X [] TN:=fun _ _ _ _ H Q I h=>wpAny_evalAll_nil ⟨[],H,I,.nil,h⟩
theorem Vy(ha:PE X e te)(hr:PK X Yk t):PK X (⟨nm,e,kpos⟩::Yk) (YJ te t):=by
 intro pos pins s σ H Q I h
 show b8 _ _ (evalAll ((do let v<-eval e X.env;standAt pos;pure v)::(backToKw pos (keywordEach Yk X.env)).map (·.2))) _ _ s
 refine wpAny_evalAll_cons (aP (jw (ha pins s σ H _ I h) fun u s1⟨x,H1,I1,r1,q1⟩=>aP (DR (bR ?_))))
 exact jw (hr pos pins s1 σ H1 _ I1 q1) fun us s2⟨xs,H2,I2,r2,q2⟩=>⟨x::xs,H2,I2,.cons r1 r2,q2⟩
variable{g:List ao->List ao->List ao}{gV:List V->List V->List V}
end
structure bM(N P:List cM)(sc:tY):Prop where
 kind:sc.kind=.function
 co:sc.isCoroutine=false
 gen:sc.isGenerator=false
 nd:N.Nodup
 pre:N.take P.length=P
 par:∀x∈P,sc.names.lookup x=some .local\/sc.names.lookup x=some .cell
 aea:∀y∈sc.names,y.2≠.free
theorem NF{kindOf:cM->Option mV}{x:cM}:∀{binds:List (cM×ao)}{m:cM->Option ao},(∀v,(x,v)∉binds)->X0 kindOf binds m x=m x
 |[],_,_=>rfl
 |(n,v)::r,m,h=>by
  unfold X0
  rw[NF fun w hw=>h w (bO _ hw)]
  split
  ·have:x≠n:=by rintro rfl;exact h v cV
   simp[this]
  ·rfl
theorem NG{kindOf:cM->Option mV}{x:cM}:∀{binds:List (cM×ao)}{m:cM->Option ao},(∀v,(x,v)∉binds)->X7 kindOf binds m x=m x
 |[],_,_=>rfl
 |(n,v)::r,m,h=>by
  unfold X7
  rw[NG fun w hw=>h w (bO _ hw)]
  split
  ·rfl
  ·have:x≠n:=by rintro rfl;exact h v cV
   simp[this]
theorem NH{kindOf:cM->Option mV}{x:cM}{v:ao}:∀{P:List cM}{vs:List ao}{i:Nat}{m:cM->Option ao},P.Nodup->P[i]?=some x->vs[i]?=some v->kindOf x=some .local->X0 kindOf (P.zip vs) m x=some v
 |[],_,_,_,_,h,_,_=>by simp at h
 |_::_,[],_,_,_,_,h,_=>by simp at h
 |p::P,w::vs,0,m,nd,h1,h2,hk=>by
  simp at h1 h2;subst h1;subst h2
  show X0 kindOf ((p,w)::P.zip vs) m p=_
  unfold X0
  rw[NF fun v hv=>(gA.mp nd).1 (xm hv).1,aG hk]
  simp
 |p::P,w::vs,i+1,m,nd,h1,h2,hk=>by
  show X0 kindOf ((p,w)::P.zip vs) m x=_
  unfold X0
  exact NH (i:=i) (gA.mp nd).2 (by simpa using h1) (by simpa using h2) hk
theorem NI{kindOf:cM->Option mV}{x:cM}{v:ao}:∀{P:List cM}{vs:List ao}{i:Nat}{m:cM->Option ao},P.Nodup->P[i]?=some x->vs[i]?=some v->kindOf x≠some .local->X7 kindOf (P.zip vs) m x=some v
 |[],_,_,_,_,h,_,_=>by simp at h
 |_::_,[],_,_,_,_,h,_=>by simp at h
 |p::P,w::vs,0,m,nd,h1,h2,hk=>by
  simp at h1 h2;subst h1;subst h2
  show X7 kindOf ((p,w)::P.zip vs) m p=_
  unfold X7
  rw[NG fun v hv=>(gA.mp nd).1 (xm hv).1,aD hk]
  simp
 |p::P,w::vs,i+1,m,nd,h1,h2,hk=>by
  show X7 kindOf ((p,w)::P.zip vs) m x=_
  unfold X7
  exact NI (i:=i) (gA.mp nd).2 (by simpa using h1) (by simpa using h2) hk
def start(N:List cM)(vs:List V):St:=vs.map some++List.replicate (N.length-vs.length) none
def OI(CX:XR)(P:bD)(w:cC)(K:ah)(mg:cM->Option ao)(base:cY)(N:List cM)(jg:cM)(scope:tY)(f:ak)(cd:ao)(A:eG)(outer:List Ou)(s:aN)(H:Hp)(E:XK):Cx where
 prog:=P
 w:=w
 K:=K
 mg:=mg
 base:=base
 A:=A.deeper (DU jg scope s.heap.objs.size f cd)
 N:=N
 MI:=s
 H_0:=H
 env:=DU jg scope s.heap.objs.size f cd
 outer:=outer
 stack:=DU jg scope s.heap.objs.size f cd::outer
 ex:=[]
 calm:=true
 fn:=fun _=>true
 pn:=[]
 xe:=fun e s'=>b8 (cI P w) (A.deeper (DU jg scope s.heap.objs.size f cd)) (leaving (DU jg scope s.heap.objs.size f cd) e) (fun _ s''=>CX outer H s E e s'') (fun e' s''=>CX outer H s E e' s'') s'
theorem QU{sc:tY}{n:Nat}{x:cM}(h:sc.names.lookup x=some .cell):∃c,(iD n sc.names []).lookup x=some c:=by
 have q:=Qa sc.names n [] (.inl h)
 exact lT.mp q
theorem Wy{CX:XR}{P:bD}{w:cC}{K:ah}{mg:cM->Option ao}{base:cY}{N ps:List cM}{jg:cM}{scope:tY}{f:ak}{cd:ao}{A:eG}{outer:List Ou}{s s1:aN}{H:Hp}{E:XK}{us:List ao}{vs:List V}(S:bM N ps scope)(hd:A.handled=none)(e0:QS P w K mg base A outer s H)(hl:vs.length=ps.length)(r:eU vs us)(x:InCallC s s.heap.objs.size (X0 (DU jg scope s.heap.objs.size f cd).kindOf (ps.zip us) fun _=>none) (iD (s.heap.objs.size+1) scope.names []) (X7 (DU jg scope s.heap.objs.size f cd).kindOf (ps.zip us) fun _=>none) s1):dO (OI CX P w K mg base N jg scope f cd A outer s H E) [] (start N vs) H s1:=by
 have Eo:ps.length<=N.length:=by have:=congrArg AD S.pre;rw[a_]at this;omega
 obtain⟨h1,tk,rfl,hk⟩:=x.done
 have noA:∀b:ak,b∉(OI CX P w K mg base N jg scope f cd A outer s H E).ex:=fun b z=>absurd (show b∈([]:List ak)from z) (by simp)
 refine⟨⟨e0.mod,S.kind,rfl,rfl,aV _,fun y z c h1 h2=>?_,fun y hy=>?_,fun y c _ h=>?_,fun _=>hd,Around.frames_deeper e0.frames,.inr ⟨rfl,rfl⟩,fun b z=>absurd z (noA b),e0.bs,e0.bsz,fun b _ _=>noA b,fun b z=>absurd z (noA b),e0.Hr,e0.frf⟩,
  rfl,e0.bare,Un.kept hk,⟨_,x.toInCall.ns,fun i y v h1 h2 h3=>?_⟩,fun y c h=>⟨_,x.cell y c h⟩,e0.dz.fresh (aV _),fun y c h=>?_,fun p hp=>absurd (show p∈([]:List (ak×mC))from hp) (by simp),e0.dz.kept hk,?_⟩
 ·exact name_of_addr x.apart (dJ h1) (dJ h2)
 ·have hy:scope.names.lookup y=some .cell\/scope.names.lookup y=some .free:=hy
  rcases hy with hy|hy
  ·exact QU hy
  ·exact absurd rfl (S.aea _ (dJ hy))
 ·exact qM (x.above y c (dJ h))
 ·have hi:i<vs.length:=by
   unfold start at h2
   by_cases hi:i<vs.length
   ·exact hi
   ·rw[d_ (by simpa using hi)]at h2
    rw[List.getElem?_replicate]at h2
    split at h2<;>cases h2
  have ha:vs[i]?=some v:=by
   unfold start at h2
   rw[dD (by simpa using hi),aT]at h2
   cases e:vs[i]? with
   |none=>rw[e]at h2;cases h2
   |some a=>rw[e]at h2;cases h2;rfl
  obtain⟨u,hu,rv⟩:=r.get ha
  have hp:ps[i]?=some y:=by
   rw[<-S.pre,List.getElem?_take_of_lt (by omega)];exact h1
  have ndP:ps.Nodup:=by rw[<-S.pre];exact S.nd.sublist (List.take_sublist _ _)
  refine⟨u,rv,?_⟩
  rcases S.par y (aL hp)with k|k
  ·exact .inl ⟨k,NH ndP hp hu k⟩
  ·obtain⟨c,e⟩:=QU (n:=s.heap.objs.size+1) k
   refine .inr ⟨.inl k,c,e,?_⟩
   have q:=x.cell y c e
   rw[NI ndP hp hu (by show scope.names.lookup y≠_;rw[k];decide)]at q
   exact q
 ·exact e0.dz.fresh (qM (x.above y c (dJ h)))
 ·unfold start
  show _=N.length
  rw[au,aa,List.length_replicate]
  omega
theorem afT{CX:XR}{P:bD}{w:cC}{K:ah}{mg:cM->Option ao}{base:cY}{k:Nat}{f:ak}{name jg:cM}{params:Arguments}{body:List d9}{scope:tY}{dV kV vH pm iB ct oc:ao}{an od:Option ak}{osl:Array (Option ao)}{N ps:List cM}{sp:Sp}(lk:K.lookup f=some ⟨oc,od,.func (jc name jg params body scope dV kV vH pm an iB ct),osl⟩)(hcd:pR K iB jg=true)(S:bM N ps scope)(len:∀vs H Q E,sp vs H Q E->vs.length=ps.length)(Ge:∀(A:eG)(outer:List Ou)(s:aN)(H:Hp)(vs:List V)(Q:VK)(E:XK),lZ k (A.deeper (DU jg scope s.heap.objs.size f iB))->sp vs H Q E->∃t,SR (OI CX P w K mg base N jg scope f iB A outer s H E) body t/\t {nx:=fun _ H'=>Q .jX H',rt:=Q} (start N vs) H):yr P w K mg base CX (k+1) f (jc name jg params body scope dV kV vH pm an iB ct) ps sp:=by
 refine⟨len,fun A outer s H args us vs Q E hr e0 hb r hsp=>?_⟩
 have hl:=len _ _ _ _ hsp
 have KX:K.In s.heap:=e0.mod.kin.keeps fun b o e=>(e0.bs b o e).1
 have lim:s.heap.NoLimit:=e0.mod.nolimit.keeps fun b o e=>(e0.bs b o e).1
 have afU:∀y∈ps.zip us,scope.names.lookup y.1=some .local\/(scope.names.lookup y.1=some .cell/\((iD (s.heap.objs.size+1) scope.names []).lookup y.1).isSome=true):=fun⟨n,v⟩hy=>by
  rcases S.par n (xm hy).1 with q|q
  ·exact .inl q
  ·exact .inr ⟨q,Qa _ _ _ (.inl q)⟩
 refine codeAny_call_function hr.depth (KX _ _ lk) rfl S.co S.gen rfl (PySem.W.codeRec_of KX hcd) (hb _ _ _ _ ?_)
 refine wpAny_newFunctionEnv_cells S.kind afU fun env he s1 x=>?_
 subst he
 refine⟨lim.keeps x.toInCall.keep,codeAny_func ?_⟩
 obtain⟨t,ht,hq⟩:=Ge A outer s H vs Q E (hr.deeper _) hsp
 have I:dO (OI CX P w K mg base N jg scope f iB A outer s H E) [] (start N vs) H s1:=Wy S hr.hd e0 hl r x
 refine i9 (ht [] s1 (start N vs) H _ I hq) (fun fl s' hs=>?_) fun e s' hs=>hs
 have fin:∀{σ':St}{H':Hp}{v:V}{u:ao},dO (OI CX P w K mg base N jg scope f iB A outer s H E) [] σ' H' s'->gW v u->Q v H'->CE outer P w H s Q u s':=
  fun{σ' H' v u}J rv q=>⟨v,H',J.os,J.bare,J.base,J.dz,rv,q⟩
 cases fl with
 |ret u=>
  obtain⟨v,σ',H',J,rv,q⟩:=hs
  exact fin J rv q
 |next=>
  obtain⟨σ',H',J,q⟩:=hs
  exact fin (v:=V.jX) (u:=Co) J rfl q
 |brk=>
  obtain⟨_,_,_,q⟩:=hs
  exact gX q
 |cont=>
  obtain⟨_,_,_,q⟩:=hs
  exact gX q
section
variable{X:Cx}{x:cM}{p pos:AB}{e:fK}{es:List fK}{t:TA}{id T:String}{r:List V->Hp->VK->Prop}
def tCB(r:List V->Hp->VK->Prop)(t:TA):TE:=fun σ H Q=>t σ H fun vs H1=>r vs H1 Q
theorem cS(hc:Gb X (.builtin id) r)(hg:Gl X x)(hm:X.mg x=none)(hv:r8 x=some (.builtin id))(ha:PA X (e::es) t)(hn:x≠"__name__":=by decide)(TU:(x==("__debug__":cM))=false:=by decide)
  (he:b_ (e::es) X.env=(false,eval e X.env)::b_ es X.env:=by rfl)(Eo:(jI pos (b_ es X.env)).any (·.1)=false:=by rfl):PE X (.Call (.Name x p) (e::es) [] pos) (tCB r t):=by
 intro pins s σ H Q I h
 refine lO (AU I hg hm hv ?_ hn TU)
 exact PyProof.Rows.callWith_builtin1 (jw (ha pos pins s σ H _ I h) fun us s1⟨vs,H1,I1,r1,q1⟩=>hc pins s1 σ H1 vs us Q I1 r1 q1) he Eo
theorem Hv(hc:Gb X (.type T) r)(hg:Gl X x)(hm:X.mg x=none)(hv:r8 x=some (.type T))(ha:PA X (e::es) t)(hn:x≠"__name__":=by decide)(TU:(x==("__debug__":cM))=false:=by decide)
  (he:b_ (e::es) X.env=(false,eval e X.env)::b_ es X.env:=by rfl)(Eo:(jI pos (b_ es X.env)).any (·.1)=false:=by rfl):PE X (.Call (.Name x p) (e::es) [] pos) (tCB r t):=by
 intro pins s σ H Q I h
 refine lO (AU I hg hm hv ?_ hn TU)
 exact iH (jw (ha pos pins s σ H _ I h) fun us s1⟨vs,H1,I1,r1,q1⟩=>hc pins s1 σ H1 vs us Q I1 r1 q1) he Eo
end
abbrev TO:=St->Hp->(Option Int->Hp->Prop)->Prop
def PO(X:Cx)(e:Option fK)(t:TO):Prop:=
 ∀(pins:List (ak×mC))(s:aN)(σ:St)(H:Hp)(Q:Option Int->Hp->Prop),dO X pins σ H s->t σ H Q->
  b8 (cI X.prog X.w) X.A (evalPart e X.env) (fun u s'=>∃o H',dO X pins σ H' s'/\P8 u o/\Q o H') X.xe s
def abz:TO:=fun _ H Q=>Q none H
def afV(t:TE):TO:=fun σ H Q=>t σ H fun x H1=>∃i,x=.int i/\Q (some i) H1
theorem TV{ns:List Int}:∀{us:List ao},eU (ns.map V.int) us->IntsAre us ns:=by
 induction ns with
 |nil=>intro us r;rw[Cu]at r;cases r;exact .nil
 |cons n ns ih=>
  intro us r
  rw[bg]at r
  cases r with
  |cons r1 r2=>
   obtain⟨t,e⟩:=r1
   subst e
   exact .cons n t (ih r2)
section
variable{X:Cx}{e:fK}{te:TE}{lo hi:Option fK}{tl th:TO}{pos p2:AB}
theorem sC:PO X none abz:=by
 intro pins s σ H Q I h
 rw[evalPart_none]
 exact bR ⟨none,H,I,.none,h⟩
theorem k8(h:PE X e te):PO X (some e) (afV te):=by
 intro pins s σ H Q I hw
 rw[evalPart_some]
 refine jw (h pins s σ H _ I hw) fun u s1⟨x,H1,I1,r1,q1⟩=>?_
 obtain⟨i,rfl,q⟩:=q1
 obtain⟨t,rfl⟩:=r1
 exact⟨some i,H1,I1,.int i t,q⟩
def SlR(X:Cx)(r:V->Option Int->Option Int->Hp->VK->Prop):Prop:=
 ∀(pins:List (ak×mC))(s:aN)(σ:St)(H:Hp)(x:V)(v vl vu:ao)(lo hi:Option Int)(sl:ak)(Q:VK),dO X pins σ H s->gW x v->s.heap.IsSliceOf sl vl vu .none->P8 vl lo->P8 vu hi->r x lo hi H Q->
  ∃T id,typeLookup (.type T) "__getitem__"=pure (some (.builtin id))/\s.TypeIs v T/\b8 (cI X.prog X.w) X.A (Jg v (.ref sl)) (EP X pins σ Q) X.xe s
def tSl(r:V->Option Int->Option Int->Hp->VK->Prop)(te:TE)(tl th:TO):TE:=fun σ H Q=>te σ H fun x H1=>tl σ H1 fun l H2=>th σ H2 fun u H3=>r x l u H3 Q
theorem k9{r:V->Option Int->Option Int->Hp->VK->Prop}(hr:SlR X r)(he:PE X e te)(hl:PO X lo tl)(hu:PO X hi th):PE X (.Subscript e (.Slice lo hi none p2) pos) (tSl r te tl th):=by
 intro pins s σ H Q I h
 refine Subscript_ (jw (he pins s σ H _ I h) fun v s1⟨x,H1,I1,r1,q1⟩=>?_)
 refine wpAny_Slice (jw (hl pins s1 σ H1 _ I1 q1) fun vl s2⟨l,H2,I2,pl,q2⟩=>jw (hu pins s2 σ H2 _ I2 q2) fun vu s3⟨u,H3,I3,pu,q3⟩=>?_)
 rw[evalPart_none]
 refine bR ?_
 have I4:dO X pins σ H3 {s3 with heap:=s3.heap.push {cls:=.type "slice",data:=.fields #[vl,vu,.none]}}:=I3.kept (t':=s3.toks) fun b ob q=>bh _ q
 obtain⟨T,id,hT,ht,hg⟩:=hr pins {s3 with heap:=s3.heap.push {cls:=.type "slice",data:=.fields #[vl,vu,.none]}} σ H3 x v vl vu l u s3.heap.objs.size Q I4 r1 (Heap.IsSliceOf.new ..) pl pu q3
 show b8 (cI X.prog X.w) X.A (XI e (.Slice lo hi none p2) v (.ref s3.heap.objs.size)) (EP X pins σ Q) X.xe {s3 with heap:=s3.heap.push {cls:=.type "slice",data:=.fields #[vl,vu,.none]}}
 exact tail_any (ops:=[.ref s3.heap.objs.size,v]) ht hT hg (by with_unfolding_all rfl)
def Cf(xs:List V)(lo hi:Option Int):List V:=(xs.drop (HT.tZ xs.length 0 lo)).take (HT.tZ xs.length xs.length hi-HT.tZ xs.length 0 lo)
theorem Iz(xs:List V)(lo hi:Option Int):(Cf xs lo hi).length<=xs.length:=by
 unfold Cf
 rw[a_,b7]
 omega
def aiV(K:ah):V->Option Int->Option Int->Hp->VK->Prop:=fun x lo hi H Q=>∃a xs,x=.ref a/\rN K H a xs/\
 ¬(HT.tZ xs.length 0 lo=0/\HT.tZ xs.length xs.length hi=xs.length)/\∀p,H p=none->Q (.ref p) (upd H p (.tup (Cf xs lo hi)))
theorem YN:SlR X (aiV X.K):=by
 intro pins s σ H x v vl vu lo hi sl Q I rx hs pl pu h
 obtain⟨a,xs,rfl,hx,hw,q⟩:=h
 cases rx
 obtain⟨fi,r,ht,hz⟩:=I.tuple hx
 have jT:fi.toArray.size=xs.length:=by rw[bw];exact r.length.symm
 refine⟨"tuple",_,rW.lookup,ht.typeIs,?_⟩
 refine HT.F9 ht hs pl pu (by rw[jT];exact hw) ?_ (by rw[jT];exact hz)
 rw[jT]
 refine⟨.ref s.heap.objs.size,_,I.laid (t':=s.toks) (o:=.tup (Cf xs lo hi)) (fun b ob q=>bh _ q) (aV _) ?_,rfl,q _ (I.dz.fresh (aV _))⟩
 exact⟨bQ (Iz xs lo hi) hz,_,(r.drop (HT.tZ xs.length 0 lo)).take (HT.tZ xs.length xs.length hi-HT.tZ xs.length 0 lo),aaX _ _⟩
def afW(K:ah):R2:=fun x y H Q=>∃a b xs ys,x=.ref a/\y=.ref b/\rN K H a xs/\rN K H b ys/\xs≠[]/\xs.length+ys.length<=aK/\
 (ys=[]->Q (.ref a) H)/\(ys≠[]->∀p,H p=none->Q (.ref p) (upd H p (.tup (xs++ys))))
theorem eU.Kc{xs:List V}{us:List ao}(r:eU xs us):us=[]↔xs=[]:=by
 cases r with
 |nil=>simp
 |cons _ _=>simp
theorem abA:Ka X (Ir .Add) (afW X.K):=by
 intro pins s σ H x y v u Q I rx ry h
 obtain⟨a,b,xs,ys,rfl,rfl,ha,hb,hx,hz,q1,q2⟩:=h
 cases rx
 cases ry
 obtain⟨fi,r1,p1,_⟩:=I.tuple ha
 obtain⟨Gf,r2,p2,_⟩:=I.tuple hb
 refine HT.abo p1 p2 (fun z=>hx (r1.Kc.mp z)) (fun z=>⟨.ref a,H,I,rfl,q1 (r2.Kc.mp z)⟩) (fun z=>?_) (by rw[<-r1.length,<-r2.length];exact hz)
 refine⟨.ref s.heap.objs.size,_,I.laid (t':=s.toks) (o:=.tup (xs++ys)) (fun b ob q=>bh _ q) (aV _) ?_,rfl,q2 (fun w=>z (r2.Kc.mpr w)) _ (I.dz.fresh (aV _))⟩
 exact⟨by rw[au];exact hz,_,r1.append r2,aaX _ _⟩
end
def YO(n:Nat)(i:Int):Option Nat:=if 0<=i then(if i<n then some i.toNat else none)else if -(n:Int)<=i then some (i+n).toNat else none
def QV{α:Type}(xs:List α)(i:Int):Option α:=(YO xs.length i).bind fun j=>xs[j]?
theorem Vz{n:Nat}{i:Int}{j:Nat}(h:YO n i=some j):seqIndex? i n=some j/\j<n/\-(n:Int)<=i/\i<n:=by
 unfold YO at h
 by_cases h0:0<=i
 ·rw[aG h0]at h
  by_cases h1:i<n
  ·rw[aG h1]at h
   have e:i.toNat=j:=bH h
   exact⟨by rw[acL h0 h1,e],by omega,by omega,h1⟩
  ·rw[aD h1]at h;cases h
 ·rw[aD h0]at h
  by_cases h1:-(n:Int)<=i
  ·rw[aG h1]at h
   have e:(i+n).toNat=j:=bH h
   exact⟨by rw[aaY (by omega) h1,e],by omega,h1,by omega⟩
  ·rw[aD h1]at h;cases h
theorem VA{α:Type}{xs:List α}{i:Int}{v:α}(h:QV xs i=some v):∃j,seqIndex? i xs.length=some j/\xs[j]?=some v/\j<xs.length/\-(xs.length:Int)<=i/\i<xs.length:=by
 unfold QV at h
 cases e:YO xs.length i with
 |none=>rw[e]at h;cases h
 |some j=>
  rw[e]at h
  obtain⟨h1,h2,h3,h4⟩:=Vz e
  exact⟨j,h1,h,h2,h3,h4⟩
theorem abB{α:Type}{xs:List α}{j:Nat}{v:α}(h:xs[j]?=some v):QV xs (j:Int)=some v:=by
 have hj:j<xs.length:=(az.mp h).1
 have e:YO xs.length (j:Int)=some j:=by
  unfold YO
  rw[aG (by omega),aG (by omega)];simp
 unfold QV;rw[e];exact h
theorem Gg{α:Type}(xs:List α)(v:α):QV (xs++[v]) (-1)=some v:=by
 have hl:(xs++[v]).length=xs.length+1:=by simp
 have e:YO (xs++[v]).length (-1)=some xs.length:=by
  unfold YO
  rw[hl,aD (by decide),aG (by omega)]
  congr 1
  omega
 unfold QV
 rw[e]
 show(xs++[v])[xs.length]?=some v
 simp
def abC(b:fK):Prop:=∀o i,Qz b false o i=operate [o,i] (Jg o i)
def IxR(X:Cx)(r:R2):Prop:=
 ∀(value Gh:fK)(pins:List (ak×mC))(s:aN)(σ:St)(H:Hp)(x y:V)(v u:ao)(Q:VK),dO X pins σ H s->gW x v->gW y u->r x y H Q->
  Qz Gh false v u=operate [v,u] (Jg v u)->b8 (cI X.prog X.w) X.A (XI value Gh v u) (EP X pins σ Q) X.xe s
def MtR(X:Cx)(id:String)(r:V->List V->Hp->VK->Prop):Prop:=
 ∀(pins:List (ak×mC))(s:aN)(σ:St)(H:Hp)(x:V)(xs:List V)(v:ao)(us:List ao)(Q:VK),dO X pins σ H s->gW x v->eU xs us->r x xs H Q->
  b8 (cI X.prog X.w) X.A (call (.builtin id) (v::us)) (EP X pins σ Q) X.xe s
section
variable{X:Cx}{a b:fK}{ta tb:TE}{pos:AB}
theorem eX{r:R2}(hr:IxR X r)(ha:PE X a ta)(hb:PE X b tb)(hs:abC b):PE X (.Subscript a b pos) (tOp r ta tb):=by
 intro pins s σ H Q I h
 exact Subscript_ (ad7 ha hb I h fun v u s2 x y H2 I2 rx ry q=>hr a b pins s2 σ H2 x y v u Q I2 rx ry q (hs _ _))
def jP(K:ah):R2:=fun x y H Q=>∃p xs i v,x=.ref p/\y=.int i/\cG K H p xs/\QV xs i=some v/\Q v H
def Gi(K:ah):R2:=fun x y H Q=>∃p xs i v,x=.ref p/\y=.int i/\rN K H p xs/\QV xs i=some v/\Q v H
theorem dm:IxR X (jP X.K):=by
 intro value Gh pins s σ H x y v u Q I rx ry h hs
 obtain⟨p,xs,i,z,rfl,rfl,hq,he,q⟩:=h
 cases rx
 obtain⟨t,rfl⟩:=ry
 obtain⟨fi,r,pl,hz⟩:=I.list hq
 obtain⟨j,h1,h2,h3,h4,h5⟩:=VA he
 obtain⟨w,ew,rw'⟩:=r.get h2
 have hl:=r.length
 have hn:=OG
 have fin:EP X pins σ Q w s:=⟨z,H,I,rw',q⟩
 by_cases h0:0<=i
 ·have hj:i.toNat=j:=by
   rw[acL h0 h5]at h1
   exact bH h1
  exact item_listR pl.isList h0 (by omega) (by rw[hj];simpa using ew) fin hs
 ·have hj:(i+(fi.toArray.size:Int)).toNat=j:=by
   rw[aaY (by omega) h4]at h1
   rw[bw,<-hl]
   exact bH h1
  exact aaZ (x:=w) pl.isList.typeIs slot_list_getitem.lookup
   (wpAny_getItem_list_neg (Q:=fun r s'=>r=w/\EP X pins σ Q r s') pl.isList (by omega) (by rw[bw]<;>omega) (by omega) (by rw[hj];simpa using ew) ⟨rfl,fin⟩) hs
theorem rD:IxR X (Gi X.K):=by
 intro value Gh pins s σ H x y v u Q I rx ry h hs
 obtain⟨p,xs,i,z,rfl,rfl,hq,he,q⟩:=h
 cases rx
 obtain⟨t,rfl⟩:=ry
 obtain⟨fi,r,pl,hz⟩:=I.tuple hq
 obtain⟨j,h1,h2,h3,h4,h5⟩:=VA he
 obtain⟨w,ew,rw'⟩:=r.get h2
 have hl:=r.length
 have hn:=OG
 have fin:EP X pins σ Q w s:=⟨z,H,I,rw',q⟩
 exact aaZ (x:=w) pl.typeIs slot_tuple_getitem.lookup
  (getItem_tuple (j:=j) (Q:=fun r s'=>r=w/\EP X pins σ Q r s') pl (by omega) (by omega) (by rw[bw,<-hl];exact h1) (by simpa using ew) ⟨rfl,fin⟩) hs
theorem TX(fi:List ao)(n j:Nat)(u:ao):fG (·.setIfInBounds j u) {cls:=.type "list",data:=.seq fi.toArray n}={cls:=.type "list",data:=.seq (fi.set j u).toArray n}:=by
 simp[fG]
theorem dO.lst{pins:List (ak×mC)}{σ:St}{H:Hp}{s:aN}{p:ak}{xs:List V}(I:dO X pins σ H s)(h:H p=some (.lst xs)):∃(fi:List ao)(n:Nat),eU xs fi/\s.heap.get? p=some {cls:=.type "list",data:=.seq fi.toArray n}/\xs.length<=aK:=by
 obtain⟨z,fi,n,r,e⟩:=I.dz p _ h
 exact⟨fi,n,r,e,z⟩
theorem dO.aeb{pins:List (ak×mC)}{σ:St}{H:Hp}{s:aN}{p:ak}{xs ys:List V}{fi its':List ao}{n n':Nat}{f:mC->mC}(I:dO X pins σ H s)(h:H p=some (.lst xs))(ho:s.heap.get? p=some {cls:=.type "list",data:=.seq fi.toArray n})(hf:f {cls:=.type "list",data:=.seq fi.toArray n}={cls:=.type "list",data:=.seq its'.toArray n'})(r:eU ys its')(hz:ys.length<=aK)(t:Nat):dO X pins σ (upd H p (.lst ys)) {s with heap:=s.heap.update p f,toks:=t}:=by
 have e:(s.heap.update p f).get? p=some {cls:=.type "list",data:=.seq its'.toArray n'}:=by
  rw[Heap.get?_update_self f ho (by rw[hf]<;>rfl),hf]
 refine I.write (x:=p) (e:=p) (by rw[h];trivial) (.inl rfl) (fun b u hb q=>(SY _ _ (iG hb)).trans q) ⟨_,e⟩ ?_
 exact⟨hz,its',n',r,e⟩
def ac5:V->V->V->Hp->(Hp->Prop)->Prop:=fun o i v H Q=>∃p xs k j,o=.ref p/\i=.int k/\H p=some (.lst xs)/\YO xs.length k=some j/\Q (upd H p (.lst (xs.set j v)))
theorem QW:afM X ac5:=by
 intro pins s σ H o i v ov iv u Q I ro ri rv h
 obtain⟨p,xs,k,j,rfl,rfl,hp,hj,q⟩:=h
 cases ro
 obtain⟨t,rfl⟩:=ri
 obtain⟨fi,n,r,ho,hz⟩:=I.lst hp
 obtain⟨h1,h2,h3,h4⟩:=Vz hj
 have hl:=r.length
 have hn:=OG
 have I':dO X pins σ (upd H p (.lst (xs.set j v))) {s with heap:=s.heap.update p (fG (·.setIfInBounds j u))}:=
  I.aeb hp ho (TX fi n j u) (r.set rv j) (by rw[xo];exact hz) s.toks
 by_cases h0:0<=k
 ·have hk:k.toNat=j:=by
   rw[acL h0 h4]at h1
   exact bH h1
  exact PySem.W.ki_setAt ho h0 (by omega) (by rw[bw,<-hl];exact h4) (by rw[hk];exact⟨_,I',q⟩)
 ·have hk:(k+(fi.toArray.size:Int)).toNat=j:=by
   rw[aaY (by omega) h3]at h1
   rw[bw,<-hl]
   exact bH h1
  exact PySem.W.ki_setBack ho (by omega) (by rw[bw,<-hl];exact h3) (by omega) (by rw[hk];exact⟨_,I',q⟩)
theorem OJ(lo hi:Option Int)(n:Nat):(yw lo hi none n).1=((HT.tZ n 0 lo:Nat):Int)/\(yw lo hi none n).2.1=((HT.tZ n n hi:Nat):Int)/\(yw lo hi none n).2.2=1:=by
 refine⟨?_,?_,rfl⟩
 ·cases lo with
  |none=>simp[yw,HT.tZ]
  |some i=>
   simp only[yw,HT.tZ,X8,show(1:Int)>0 by decide,if_true]
   by_cases h:i<0
   ·simp only[h,if_true]<;>omega
   ·simp only[h,if_false]<;>omega
 ·cases hi with
  |none=>simp[yw,HT.tZ]
  |some i=>
   simp only[yw,HT.tZ,X8,show(1:Int)>0 by decide,if_true]
   by_cases h:i<0
   ·simp only[h,if_true]<;>omega
   ·simp only[h,if_false]<;>omega
theorem MK(fi:List ao)(lo hi:Option Int):slicePick fi.toArray lo hi none=((fi.drop (HT.tZ fi.length 0 lo)).take (HT.tZ fi.length fi.length hi-HT.tZ fi.length 0 lo)).toArray:=by
 obtain⟨h1,h2,h3⟩:=OJ lo hi fi.toArray.size
 unfold slicePick
 rw[h1,h2,h3]
 simp only[sliceRange_one,pick_run,bw]<;>rfl
def Jq(K:ah):V->Option Int->Option Int->Hp->VK->Prop:=fun x lo hi H Q=>∃a xs,x=.ref a/\cG K H a xs/\∀p,H p=none->Q (.ref p) (upd H p (.lst (Cf xs lo hi)))
theorem qP:SlR X (Jq X.K):=by
 intro pins s σ H x v vl vu lo hi sl Q I rx hs pl pu h
 obtain⟨a,xs,rfl,hx,q⟩:=h
 cases rx
 obtain⟨fi,r,ht,hz⟩:=I.list hx
 have jT:=r.length
 refine⟨"list",_,slot_list_getitem.lookup,ht.isList.typeIs,?_⟩
 refine wpAny_getItem_list_slice ht.isList hs pl pu .none (by simp) ?_ (by rw[bw]<;>omega)
 rw[MK,<-jT]
 refine⟨.ref s.heap.objs.size,_,I.laid (t':=s.toks) (o:=.lst (Cf xs lo hi)) (fun b ob q=>bh _ q) (aV _) ?_,rfl,q _ (I.dz.fresh (aV _))⟩
 exact⟨bQ (Iz xs lo hi) hz,_,0,(r.drop (HT.tZ xs.length 0 lo)).take (HT.tZ xs.length xs.length hi-HT.tZ xs.length 0 lo),cF _ rfl⟩
def IA:V->Bool
 |.jX=>true
 |.bl _=>true
 |.int _=>true
 |.str _=>true
 |_=>false
def eqV:V->V->Bool
 |.jX,.jX=>true
 |.bl a,.bl b=>a==b
 |.bl a,.int b=>(if a then 1 else 0)==b
 |.int a,.bl b=>a==(if b then 1 else 0)
 |.int a,.int b=>a==b
 |.str a,.str b=>a==b
 |_,_=>false
theorem aec{A:eG}{s:aN}{y x:V}{u v:ao}(ry:gW y u)(rx:gW x v)(fy:IA y=true)(fx:IA x=true):XJ A s u v (eqV y x):=by
 cases y with
 |jX=>
  cases ry
  cases x with
  |jX=>cases rx;exact SeqAt.EqAt.same _
  |bl b=>cases rx;exact SeqAt.EqAt.none_bool b
  |int b=>obtain⟨t,rfl⟩:=rx;exact SeqAt.EqAt.none_int b t
  |str b=>obtain⟨t,rfl⟩:=rx;exact SeqAt.EqAt.none_str b t
  |_=>exact absurd (show false=true from fx) aF
 |bl a=>
  cases ry
  cases x with
  |jX=>cases rx;exact SeqAt.EqAt.bool_none a
  |bl b=>cases rx;exact SeqAt.EqAt.bool_bool a b
  |int b=>obtain⟨t,rfl⟩:=rx;exact SeqAt.EqAt.bool_int a b t
  |str b=>obtain⟨t,rfl⟩:=rx;exact SeqAt.EqAt.bool_str a b t
  |_=>exact absurd (show false=true from fx) aF
 |int a=>
  obtain⟨t',rfl⟩:=ry
  cases x with
  |jX=>cases rx;exact SeqAt.EqAt.int_none a t'
  |bl b=>cases rx;exact SeqAt.EqAt.int_bool a t' b
  |int b=>obtain⟨t,rfl⟩:=rx;exact SeqAt.EqAt.int_int a t' b t
  |str b=>obtain⟨t,rfl⟩:=rx;exact Qt a t' b t
  |_=>exact absurd (show false=true from fx) aF
 |str a=>
  obtain⟨t',rfl⟩:=ry
  cases x with
  |jX=>cases rx;exact SeqAt.EqAt.str_none a t'
  |bl b=>cases rx;exact SeqAt.EqAt.str_bool a t' b
  |int b=>obtain⟨t,rfl⟩:=rx;exact Qu a t' b t
  |str b=>obtain⟨t,rfl⟩:=rx;exact SeqAt.EqAt.str_str a t' b t
  |_=>exact absurd (show false=true from fx) aF
 |_=>exact absurd (show false=true from fy) aF
def eqU(x:V)(u:ao):Bool:=match u with
 |.none=>eqV .jX x
 |.bool b=>eqV (.bl b) x
 |.int i _=>eqV (.int i) x
 |.str z _=>eqV (.str z) x
 |_=>false
theorem YQ{x y:V}{u:ao}(r:gW y u)(f:IA y=true):eqU x u=eqV y x:=by
 cases y with
 |jX=>cases r;rfl
 |bl b=>cases r;rfl
 |int i=>obtain⟨t,rfl⟩:=r;rfl
 |str z=>obtain⟨t,rfl⟩:=r;rfl
 |_=>exact absurd (show false=true from f) aF
theorem OL{x:V}:∀{xs:List V}{us:List ao},eU xs us->xs.all IA=true->us.any (eqU x)=xs.any fun y=>eqV y x
 |_,_,.nil,_=>rfl
 |y::xs,u::us,.cons r t,f=>by
  rw[Hg,bx]at f
  rw[kF,kF,YQ r f.1,OL t f.2]
theorem KN{A:eG}{s:aN}{x:V}{v:ao}(rx:gW x v)(fx:IA x=true):∀{xs:List V}{us:List ao},eU xs us->xs.all IA=true->∀u∈us,XJ A s u v (eqU x u)
 |_,_,.nil,_=>fun u hu=>by cases hu
 |y::xs,u::us,.cons r t,f=>fun u' hu=>by
  rw[Hg,bx]at f
  rcases aW.mp hu with rfl|hu
  ·rw[YQ r f.1];exact aec r rx f.1 fx
  ·exact KN rx fx t f.2 u' hu
def inV(x:V)(xs:List V):Bool:=xs.any fun y=>eqV y x
def rIn(K:ah)(neg:Bool):R2:=fun x y H Q=>∃p xs,y=.ref p/\(cG K H p xs\/rN K H p xs)/\IA x=true/\xs.all IA=true/\Q (.bl (if neg then !inV x xs else inV x xs)) H
theorem NJ:Ka X (jh .In) (rIn X.K false):=by
 intro pins s σ H x y v u Q I rx ry h
 obtain⟨p,xs,rfl,hq,fx,fs,q⟩:=h
 cases ry
 rcases hq with hq|hq
 ·obtain⟨fi,r,pl,hz⟩:=I.list hq
  refine SeqAt.in_listAt (eqU x) pl.isList (fun w hw=>KN rx fx r fs w (by simpa using hw)) ⟨.bl _,H,I,rfl,?_⟩
  rw[show fi.toArray.any (eqU x)=fi.any (eqU x) by simp,OL r fs]
  exact q
 ·obtain⟨fi,r,pl,hz⟩:=I.tuple hq
  refine SeqAt.in_tupleAt (eqU x) pl (fun w hw=>KN rx fx r fs w (by simpa using hw)) ⟨.bl _,H,I,rfl,?_⟩
  rw[show fi.toArray.any (eqU x)=fi.any (eqU x) by simp,OL r fs]
  exact q
theorem OM:Gb X (.builtin "len") (fun xs H Q=>∃p ys,xs=[.ref p]/\(cG X.K H p ys\/rN X.K H p ys)/\Q (.int ys.length) H):=by
 intro pins s σ H xs us Q I r h
 obtain⟨p,ys,rfl,hq,q⟩:=h
 obtain⟨u,rfl,rx⟩:=YE r
 cases rx
 have hn:=OG
 rcases hq with hq|hq
 ·obtain⟨fi,r',pl,hz⟩:=I.list hq
  have jT:=r'.length
  exact Calls.call_len_list pl.isList (by simp only[bw]<;>omega) ⟨.int ys.length,H,I.tok _,⟨s.toks+1,by rw[bw,jT]⟩,q⟩
 ·obtain⟨fi,r',pl,hz⟩:=I.tuple hq
  have jT:=r'.length
  exact len_tuple pl (by simp only[bw]<;>omega) ⟨.int ys.length,H,I.tok _,⟨s.toks+1,by rw[bw,jT]⟩,q⟩
theorem Gj:Gb X (.type "list") (fun xs H Q=>∃p ys,xs=[.ref p]/\(cG X.K H p ys\/rN X.K H p ys)/\∀l,H l=none->Q (.ref l) (upd H l (.lst ys))):=by
 intro pins s σ H xs us Q I r h
 obtain⟨p,ys,rfl,hq,q⟩:=h
 obtain⟨u,rfl,rx⟩:=YE r
 cases rx
 have fin:∀(fi:List ao),eU ys fi->ys.length<=aK->∀(h':cY)(c':Nat),(∀b o',s.heap.get? b=some o'->h'.get? b=some o')->
   h'.get? s.heap.objs.size=some {cls:=.type "list",dict:=none,data:=.seq fi.toArray c',slots:=#[]}->EP X pins σ Q (.ref s.heap.objs.size) {s with heap:=h'}:=fun fi r' hz h' c' kp e=>
  ⟨.ref s.heap.objs.size,_,I.laid (t':=s.toks) kp (aV _) (show kP X.prog X.w _ h' _ (.lst ys)from⟨hz,fi,c',r',e⟩),rfl,q _ (I.dz.fresh (aV _))⟩
 rcases hq with hq|hq
 ·obtain⟨fi,r',pl,hz⟩:=I.list hq
  have jT:=r'.length
  obtain⟨o,ho,hc,n,hd⟩:=pl.isList
  exact call_list_seq p (.inl rfl) ho hc hd (fun h' c' kp e=>fin fi r' hz h' c' kp e) (by simp only[bw]<;>omega)
 ·obtain⟨fi,r',pl,hz⟩:=I.tuple hq
  have jT:=r'.length
  obtain⟨o,ho,hc,n,hd⟩:=pl
  exact call_list_seq p (.inr rfl) ho hc hd (fun h' c' kp e=>fin fi r' hz h' c' kp e) (by simp only[bw]<;>omega)
theorem ML:Gb X (.type "tuple") (fun xs H Q=>∃p ys,xs=[.ref p]/\((cG X.K H p ys/\∀l,H l=none->Q (.ref l) (upd H l (.tup ys)))\/(rN X.K H p ys/\Q (.ref p) H))):=by
 intro pins s σ H xs us Q I r h
 obtain⟨p,ys,rfl,h⟩:=h
 obtain⟨u,rfl,rx⟩:=YE r
 cases rx
 rcases h with⟨hq,q⟩|⟨hq,q⟩
 ·obtain⟨fi,r',pl,hz⟩:=I.list hq
  have jT:=r'.length
  refine call_tuple_list pl.isList (fun h' kp=>?_) (by simp only[bw]<;>omega)
  have I1:dO X pins σ H {s with heap:=h'}:=I.kept (t':=s.toks) kp
  have I2:dO X pins σ (upd H h'.objs.size (.tup ys)) {s with heap:=h'.push {cls:=.type "tuple",data:=.seq fi.toArray}}:=
   I1.laid (t':=s.toks) (fun b o e=>bh _ e) (aV _) (show kP X.prog X.w _ _ _ (.tup ys)from⟨hz,fi,r',aaX _ _⟩)
  exact⟨.ref h'.objs.size,_,I2,rfl,q _ (I1.dz.fresh (aV _))⟩
 ·obtain⟨fi,r',pl,hz⟩:=I.tuple hq
  exact call_tuple_same pl ⟨.ref p,H,I,rfl,q⟩
def tyV(K:ah)(T:String)(x:V)(H:Hp):Prop:=match x with
 |.str _=>T="str"
 |.int _=>T="int"
 |.ref p=>(T="list"/\∃xs,cG K H p xs)\/(T="tuple"/\∃o,K.lookup p=some o/\o.cls=.type "tuple"/\o.dict=none)\/
   (T="dict"/\((∃dh,H p=some (.dK dh))\/∃dh,H p=some (.dT dh)))\/(T="set"/\∃S n,H p=some (.set S n))
 |_=>False
theorem YR{pins:List (ak×mC)}{σ:St}{H:Hp}{s:aN}{T:String}{x:V}{v:ao}(I:dO X pins σ H s)(r:gW x v)(ty:tyV X.K T x H):s.TypeIs v T/\∀a,v=.ref a->∃ob,s.heap.get? a=some ob/\ob.dict=none:=by
 cases x with
 |str z=>
  obtain⟨t,rfl⟩:=r
  cases(show T="str"from ty)
  exact⟨typeIs_str s z t,fun _ e=>nomatch e⟩
 |int i=>
  obtain⟨t,rfl⟩:=r
  cases(show T="int"from ty)
  exact⟨typeIs_int s i t,fun _ e=>nomatch e⟩
 |ref p=>
  cases r
  rcases ty with⟨rfl,xs,hq⟩|⟨rfl,o,hk,hc,hd⟩|⟨rfl,hk⟩|⟨rfl,S,n,hk⟩
  ·obtain⟨fi,_,pl,_⟩:=I.list hq
   refine⟨pl.isList.typeIs,fun a e=>?_⟩
   cases e
   obtain⟨o,n,e,c,hd,_⟩:=pl
   exact⟨o,e,hd⟩
  ·refine⟨⟨o,I.SO p o hk,hc⟩,fun a e=>?_⟩
   cases e
   exact⟨o,I.SO _ o hk,hd⟩
  ·have z:∃o,s.heap.get? p=some o/\o.ExactDict:=by
    rcases hk with⟨dh,hk⟩|⟨dh,hk⟩
    ·obtain⟨_,_,_,_,o,_,_,e,ex,_⟩:=I.dz p _ hk
     exact⟨o,e,ex⟩
    ·obtain⟨_,_,_,_,o,_,_,e,ex,_⟩:=I.dz p _ hk
     exact⟨o,e,ex⟩
   obtain⟨o,e,ex⟩:=z
   refine⟨⟨o,e,ex.1⟩,fun a e2=>?_⟩
   cases e2
   exact⟨o,e,ex.2.1⟩
  ·obtain⟨o,_,_,_,e,ex,_⟩:=I.dz p _ hk
   refine⟨⟨o,e,ex.1⟩,fun a e2=>?_⟩
   cases e2
   exact⟨o,e,ex.2.1⟩
 |_=>exact gX ty
def aiY(K:ah)(T:String)(r:V->List V->Hp->VK->Prop)(to:TE):TE:=fun σ H Q=>to σ H fun x H1=>tyV K T x H1/\r x [] H1 Q
def tBM(K:ah)(T:String)(r:V->List V->Hp->VK->Prop)(to:TE)(t:TA):TE:=fun σ H Q=>to σ H fun x H1=>tyV K T x H1/\t σ H1 fun xs H2=>r x xs H2 Q
variable{o e:fK}{es:List fK}{to:TE}{t:TA}{name:cM}{AY ON:AB}{T id:String}{r:V->List V->Hp->VK->Prop}
theorem YS(pa:PlainAttrs T)(slot:Slot T name id)(hty:typeOf (.builtin id)=pure (.type "method_descriptor"))(hm:MtR X id r)(ho:PE X o to)
  (YT:DT o name X.env (eval o X.env)=eval o X.env:=by rfl)(YU:(AY.endLine==ON.line)=true:=by rfl):PE X (.Call (.Attribute o name AY) [] [] ON) (aiY X.K T r to):=by
 intro pins s σ H Q I h
 refine wpAny_Call_method0_late YT YU (jw (ho pins s σ H _ I h) fun v s1⟨x,H1,I1,r1,ty,q1⟩=>?_)
 obtain⟨h1,h2⟩:=YR I1 r1 ty
 exact⟨T,id,pa,slot,hty,h1,h2,SI rfl (PySem.evalArgs_none (hm pins s1 σ H1 x [] v [] Q I1 r1 .nil q1))⟩
theorem kQ(pa:PlainAttrs T)(slot:Slot T name id)(hty:typeOf (.builtin id)=pure (.type "method_descriptor"))(hm:MtR X id r)(ho:PE X o to)(ha:PA X (e::es) t)
  (YT:DT o name X.env (eval o X.env)=eval o X.env:=by rfl)
  (ai0:((jI ON (b_ (e::es) X.env)).all (fun x=> !x.1)&&(backToKw ON (keywordEach [] X.env)).all (fun x=>x.1.isSome)
   &&decide ((e::es).length+([]:List aaU).length+(if([]:List aaU).isEmpty then 0 else 1)<30))=true:=by rfl)
  (YU:(AY.endLine==ON.line)=true:=by rfl)(hs:b_ (e::es) X.env=(false,eval e X.env)::b_ es X.env:=by rfl)(Th:(jI ON (b_ es X.env)).any (·.1)=false:=by rfl):
  PE X (.Call (.Attribute o name AY) (e::es) [] ON) (tBM X.K T r to t):=by
 intro pins s σ H Q I h
 refine wpAny_Call_method_late YT ai0 YU rfl (jw (ho pins s σ H _ I h) fun v s1⟨x,H1,I1,r1,ty,q1⟩=>?_)
 obtain⟨h1,h2⟩:=YR I1 r1 ty
 refine⟨T,id,pa,slot,hty,h1,h2,?_⟩
 have hA:=ha ON pins s1 σ H1 _ I1 q1
 rw[hs]at hA⊢
 refine SI (by show(false||(jI ON (b_ es X.env)).any (·.1))=false;rw[Th]<;>rfl) (Calls.evalArgs_plain ?_)
 exact jw hA fun us s2⟨vs,H2,I2,r2,q2⟩=>hm pins s2 σ H2 x vs v us Q I2 r1 r2 q2
end
def MtM(X:Cx)(id:String)(r:V->List V->Hp->VK->Prop):Prop:=
 ∀(pins:List (ak×mC))(s:aN)(σ:St)(H:Hp)(x:V)(xs:List V)(v:ao)(us:List ao)(Q:VK),dO X pins σ H s->gW x v->eU xs us->r x xs H Q->
  b8 (cI X.prog X.w) X.A (call (.builtin id) (v::us)) (EP X pins σ Q) X.xe s
theorem eU.one:∀{x:V}{us:List ao},eU [x] us->∃u,us=[u]/\gW x u
 |_,_,.cons r .nil=>⟨_,rfl,r⟩
theorem eU.two:∀{x y:V}{us:List ao},eU [x,y] us->∃u v,us=[u,v]/\gW x u/\gW y v
 |_,_,_,.cons r (.cons q .nil)=>⟨_,_,rfl,r,q⟩
theorem eU.zero:∀{us:List ao},eU [] us->us=[]
 |_,.nil=>rfl
theorem eU.eraseIdx:∀{xs:List V}{us:List ao}(i:Nat),eU xs us->eU (xs.eraseIdx i) (us.eraseIdx i)
 |_,_,_,.nil=>.nil
 |_,_,0,.cons _ t=>t
 |_,_,i+1,.cons r t=>.cons r (eU.eraseIdx i t)
theorem eU.reverse{xs:List V}{us:List ao}(h:eU xs us):eU xs.reverse us.reverse:=by
 induction h with
 |nil=>exact .nil
 |cons r t ih=>rw[jV,jV];exact eU.append ih (.cons r .nil)
theorem NK{α:Type}:∀(l:List α)(i:Nat),(l.eraseIdx i).length<=l.length
 |[],_=>aV _
 |_::_,0=>Nat.le_succ _
 |_::r,i+1=>Nat.succ_le_succ (NK r i)
section
variable{X:Cx}{pins:List (ak×mC)}{σ:St}{H:Hp}{s:aN}{l b:ak}{xs ys zs:List V}
theorem dO.abF{fi its':List ao}{n:Nat}{f:Array ao->Array ao}{t':Nat}(I:dO X pins σ H s)(hH:H l=some (.lst xs))(e:s.heap.get? l=some {cls:=.type "list",data:=.seq fi.toArray n})(hf:f fi.toArray=its'.toArray)(hv:eU ys its')(hz:ys.length<=aK):dO X pins σ (upd H l (.lst ys)) {s with heap:=s.heap.update l (fG f),toks:=t'}:=by
 have q:=PySem.IsL.update e f
 rw[hf]at q
 refine I.write (x:=l) (e:=l) (by rw[hH];exact trivial) (.inl rfl) (fun b' u hb hu=>(SY s.heap (fG f) (iG hb)).trans hu) ⟨_,q⟩ ?_
 exact⟨hz,its',_,hv,q⟩
theorem dO.ai1{fi:List ao}{t':Nat}(I:dO X pins σ H s)(hv:eU ys fi)(hz:ys.length<=aK):dO X pins σ (upd H s.heap.objs.size (.lst ys)) {s with heap:=s.heap.push {cls:=.type "list",data:=.seq fi.toArray},toks:=t'}:=
 I.laid (fun _ _ q=>bh _ q) (aV _) ⟨hz,fi,0,hv,cF _ rfl⟩
theorem dO.fresh(I:dO X pins σ H s):H s.heap.objs.size=none:=I.dz.fresh (aV _)
theorem dO.TY(I:dO X pins σ H s)(hH:H l=some (.lst xs)):xs.length<=aK/\∃(fi:List ao)(n:Nat),eU xs fi/\xs.length=fi.length/\s.heap.get? l=some {cls:=.type "list",data:=.seq fi.toArray n}:=by
 obtain⟨z,fi,n,r,e⟩:=I.dz l _ hH
 exact⟨z,fi,n,r,r.length,e⟩
theorem YV{n:Nat}(h:n<=aK):xq n=false:=by
 unfold xq
 exact aH (by omega)
end
section
variable{X:Cx}
def abG:V->List V->Hp->VK->Prop:=fun x vs H Q=>∃l xs y,x=.ref l/\vs=[y]/\H l=some (.lst xs)/\xs.length<aK/\Q .jX (upd H l (.lst (xs++[y])))
theorem iK:MtM X "list.append" abG:=by
 intro pins s σ H x vs v us Q I rx rv h
 obtain⟨l,xs,y,rfl,rfl,hH,hz,q⟩:=h
 cases rx
 obtain⟨u,rfl,ru⟩:=rv.one
 obtain⟨z,fi,n,r,hl,e⟩:=I.TY hH
 refine Vg F.slot_list_append ⟨_,e,rfl⟩ F.entry_list_append (F.args_list_append_2 _ _) (PySem.list_append l fi.toArray n u (by rw[bw];omega)) ⟨e,?_⟩
 refine⟨.jX,_,I.abF (its':=fi++[u]) hH e (by simp) (r.append (.cons ru .nil)) ?_,rfl,q⟩
 rw[au,cZ]
 omega
def abH:V->List V->Hp->VK->Prop:=fun x vs H Q=>∃l b xs zs,x=.ref l/\vs=[.ref b]/\H l=some (.lst xs)/\H b=some (.lst zs)/\xs.length+zs.length<=aK/\Q .jX (upd H l (.lst (xs++zs)))
theorem pX:MtM X "list.extend" abH:=by
 intro pins s σ H x vs v us Q I rx rv h
 obtain⟨l,b,xs,zs,rfl,rfl,hH,hB,hz,q⟩:=h
 cases rx
 obtain⟨u,rfl,ru⟩:=rv.one
 cases ru
 obtain⟨z,fi,n,r,hl,e⟩:=I.TY hH
 obtain⟨z2,Gf,n2,r2,hl2,e2⟩:=I.TY hB
 have hsz:fi.toArray.size+Gf.toArray.size<=aK:=by rw[bw,bw];omega
 have afY:¬(!fi.toArray.isEmpty&&xq (fi.toArray.size+Gf.toArray.size))=true:=by
  rw[YV hsz,kT]
  exact aF
 refine Vg F.slot_list_extend ⟨_,e,rfl⟩ F.entry_list_extend (F.args_list_extend_2 _ _)
  (AutoSeq1.list_extend_list_list_0 l fi.toArray n b Gf.toArray n2 afY (by rw[bw];omega) (by omega)) ⟨e,e2,?_⟩
 refine⟨.jX,_,I.abF (its':=fi++Gf) hH e (by simp) (r.append r2) ?_,rfl,q⟩
 rw[au]
 omega
def YW:V->List V->Hp->VK->Prop:=fun x vs H Q=>∃l xs,x=.ref l/\vs=[]/\H l=some (.lst xs)/\Q .jX (upd H l (.lst xs.reverse))
theorem KO:MtM X "list.reverse" YW:=by
 intro pins s σ H x vs v us Q I rx rv h
 obtain⟨l,xs,rfl,rfl,hH,q⟩:=h
 cases rx
 have hus:=rv.zero
 subst hus
 obtain⟨z,fi,n,r,hl,e⟩:=I.TY hH
 refine Vg F.slot_list_reverse ⟨_,e,rfl⟩ F.entry_list_reverse (F.args_list_reverse_1 _) (AutoSeq1.list_reverse_list_0 l fi.toArray n (by rw[bw];omega)) ⟨e,?_⟩
 refine⟨.jX,_,I.abF (its':=fi.reverse) hH e (by simp) r.reverse ?_,rfl,q⟩
 rw[F5]
 omega
def ai2:R2:=fun x y H Q=>∃l b xs zs,x=.ref l/\y=.ref b/\H l=some (.lst xs)/\H b=some (.lst zs)/\xs.length+zs.length<=aK/\∀p,H p=none->Q (.ref p) (upd H p (.lst (xs++zs)))
theorem uh:Ka X (Ir .Add) ai2:=by
 intro pins s σ H x y v u Q I rx ry h
 obtain⟨l,b,xs,zs,rfl,rfl,hH,hB,hz,q⟩:=h
 cases rx
 cases ry
 obtain⟨z,fi,n,r,hl,e⟩:=I.TY hH
 obtain⟨z2,Gf,n2,r2,hl2,e2⟩:=I.TY hB
 refine PySem.P.add_list e e2 ?_ (by rw[bw,bw];omega)
 have ea:fi.toArray++Gf.toArray=(fi++Gf).toArray:=by simp
 rw[ea]
 exact⟨.ref _,_,I.ai1 (t':=s.toks) (r.append r2) (by rw[au];omega),rfl,q _ I.fresh⟩
end
theorem eU.ints:∀{ns:List Int}{us:List ao},eU (ns.map V.int) us->IntsAre us ns
 |[],us,h=>by
  rw[Cu]at h
  cases h
  exact IntsAre.nil
 |n::ns,us,h=>by
  rw[bg]at h
  cases h with
  |cons r t=>
   obtain⟨k,rfl⟩:=r
   exact IntsAre.cons n k (eU.ints t)
theorem eU.bls:∀{bs:List Bool}{us:List ao},eU (bs.map V.bl) us->us=bs.map Cp
 |[],us,h=>by
  rw[Cu]at h
  cases h
  rfl
 |b::bs,us,h=>by
  rw[bg]at h
  cases h with
  |cons r t=>
   cases r
   rw[eU.bls t,bg]
theorem eU.YX{a:ak}{us:List ao}(r:eU [V.ref a] us):us=[dI a]:=by
 cases r with
 |cons r t=>
  cases t
  cases r
  rfl
section
variable{prog:bD}{w:cC}{A:eG}{E:ao->aN->Prop}{s:aN}{l:ak}{fi:List ao}{ns:List Int}{Q:ao->aN->Prop}
theorem abI(hh:A.handled=none)(hl:s.heap.IsList l fi.toArray)(hi:IntsAre fi ns)(h:∀h' tk t',(∀b o,s.heap.get? b=some o->h'.get? b=some o)->Q (.int ns.sum t') {s with heap:=h',toks:=tk}):b8 (cI prog w) A (call (.builtin "sum") [.ref l]) Q E s:=by
 obtain⟨xs,e⟩:=hi.allInts.items
 have hn:numsOf (intItems xs).toList=ns:=by rw[<-e];exact hi.numsOf
 rw[nums_intItems]at hn
 rw[e]at hl
 refine PySem.sum_intListG hh hl fun h' tk t' hk=>?_
 have:=h h' tk t' hk
 rw[preSum_eq,kg (by simp),hn];exact this
theorem abJ(hh:A.handled=none)(hl:s.heap.IsList l fi.toArray)(hi:IntsAre fi ns)(qI:0<ns.length)(h:∀h' tk M t',(∀b o,s.heap.get? b=some o->h'.get? b=some o)->M∈ns->(∀a,a∈ns->M<=a)->Q (.int M t') {s with heap:=h',toks:=tk}):b8 (cI prog w) A (call (.builtin "min") [.ref l]) Q E s:=by
 obtain⟨xs,e⟩:=hi.allInts.items
 have hn:numsOf (intItems xs).toList=ns:=by rw[<-e];exact hi.numsOf
 rw[nums_intItems]at hn
 subst hn
 rw[e]at hl
 have hsz:0<xs.size:=by simpa using qI
 refine PySem.min_intList hh hl hsz fun v h' tk hv hk=>?_
 obtain⟨t,rfl⟩:=intItems_at hv
 obtain⟨h1,h2⟩:=argBest_lt (numAt xs) (xs.size-1)
 refine h h' tk _ t hk ?_ fun a ha=>?_
 ·rw[numAt_eq];exact PySem.getD_mem (by rw[aa,ji];omega)
 ·obtain⟨j,hj,rfl⟩:=mem_getD ha
  rw[aa,ji]at hj
  rw[<-numAt_eq];exact h2 j (by omega)
end
section
variable{X:Cx}
def aed(K:ah):List V->Hp->VK->Prop:=fun vs H Q=>∃(a:ak)(ns:List Int),vs=[V.ref a]/\cG K H a (ns.map V.int)/\Q (.int ns.sum) H
def afZ(K:ah):List V->Hp->VK->Prop:=fun vs H Q=>∃(a:ak)(ns:List Int),vs=[V.ref a]/\cG K H a (ns.map V.int)/\0<ns.length/\∀m,m∈ns->(∀y,y∈ns->m<=y)->Q (.int m) H
theorem YY(hc:X.calm=true):Gb X (.builtin "sum") (aed X.K):=by
 intro pins s σ H vs us Q I r h
 obtain⟨a,ns,rfl,hs,q⟩:=h
 obtain⟨fi,rv,hl,_⟩:=I.list hs
 rw[eU.YX r]
 exact abI (I.ok.hd hc) hl.isList rv.ints fun h' tk t' hk=>⟨.int _,H,I.kept hk,⟨_,rfl⟩,q⟩
theorem aee(hc:X.calm=true):Gb X (.builtin "min") (afZ X.K):=by
 intro pins s σ H vs us Q I r h
 obtain⟨a,ns,rfl,hs,qI,q⟩:=h
 obtain⟨fi,rv,hl,_⟩:=I.list hs
 rw[eU.YX r]
 exact abJ (I.ok.hd hc) hl.isList rv.ints qI fun h' tk m t' hk h1 h2=>⟨.int _,H,I.kept hk,⟨_,rfl⟩,q m h1 h2⟩
end
theorem YZ{prog:bD}{w:cC}{A:eG}{E:ao->aN->Prop}{s:aN}{l:ak}{items:Array ao}{Q:ao->aN->Prop}(hl:s.heap.IsList l items)(h:∀s₂:aN,s₂={s with heap:=s.heap.push {cls:=.type "list_iterator",data:=.fields #[.ref l,.int 0 0]}}->(s₂.heap.IsListIter s.heap.objs.size l 0/\s₂.heap.IsList l items)->l≠s.heap.objs.size->Q (.ref s.heap.objs.size) s₂):b8 (cI prog w) A (pyIter (.ref l)) Q E s:=by
 have wD:l<s.heap.objs.size:=by obtain⟨_,e,_⟩:=hl;exact bU e
 exact we hl (h _ rfl ⟨⟨_,cF _ rfl,rfl,rfl⟩,hl.push _⟩ (d8 wD))
theorem QX{prog:bD}{w:cC}{A:eG}{bs:List Bool}{fi:List ao}(e:fi=bs.map Cp):TruthOf prog w A (fun i v=>fi.toArray[i]?=some v) (fun i=>bs.getD i false):=fun i v s Q E hv hq=>by
 have hv':fi[i]?=some v:=by simpa using hv
 rw[e,aT]at hv'
 obtain⟨b,hb,rfl⟩:=jf.mp hv'
 have hg:bs.getD i false=b:=by rw[aO,hb]<;>rfl
 have Qj:Q (bs.getD i false) s:=hq
 rw[hg]at Qj
 exact gj Qj
theorem NL:∀bs:List Bool,(bK bs.length).all (fun i=>bs.getD i false)=bs.all id
 |[]=>rfl
 |b::bs=>by
  rw[br,List.range_succ_eq_map,Hg,S0,Hg,<-NL bs]
  all_goals rfl
section
variable{X:Cx}
def af0(K:ah):List V->Hp->VK->Prop:=fun vs H Q=>∃(a:ak)(bs:List Bool),vs=[V.ref a]/\cG K H a (bs.map V.bl)/\Q (.bl (bs.all id)) H
theorem Y0(hc:X.calm=true):Gb X (.builtin "all") (af0 X.K):=by
 intro pins s σ H vs us Q I r h
 obtain⟨a,bs,rfl,hs,q⟩:=h
 obtain⟨fi,rv,hl,_⟩:=I.list hs
 rw[eU.YX r]
 have hb:=rv.bls
 refine call_all_walk (YZ hl.isList fun s₂ e2 st qI=>?_)
 subst e2
 refine⟨_,_,_,_,_,_,_,rfl,Walks.list (A:=X.A.in1) (I.ok.hd hc) _ a qI fi.toArray,st,QX hb,fun h' tk hk=>?_⟩
 refine⟨.bl _,H,I.kept fun b o eo=>hk b o (fun QY=>?_) (bh _ eo),?_,q⟩
 ·rcases aW.mp QY with e1|QY
  ·exact absurd (e1▸bU eo) (gI _)
  ·cases QY
 ·show Cp _=Cp _
  rw[<-NL,hb,bw,aa]
end
mutual
inductive Dp(K:ah)(H:Hp):V->bf->Prop
 |jX:Dp K H .jX .none
 |bl (b:Bool):Dp K H (.bl b) (.bool b)
 |int (i:Int):Dp K H (.int i) (.int i)
 |str (x:cM):Dp K H (.str x) (.str x)
 |lst {a:ak} {xs:List V} {ds:List bf}:cG K H a xs->KP K H xs ds->Dp K H (.ref a) (.list ds)
 |tup {a:ak} {xs:List V} {ds:List bf}:rN K H a xs->KP K H xs ds->Dp K H (.ref a) (.tuple ds)
inductive KP(K:ah)(H:Hp):List V->List bf->Prop
 |nil:KP K H [] []
 |cons {v:V} {vs:List V} {d:bf} {ds:List bf}:Dp K H v d->KP K H vs ds->KP K H (v::vs) (d::ds)
end
section
variable{X:Cx}{pins:List (ak×mC)}{σ:St}{H:Hp}{s:aN}
mutual
theorem Dp.reads(I:dO X pins σ H s):∀(d:bf)(v:V)(u:ao),Dp X.K H v d->gW v u->∃as,Ae s.heap u d as
 |.none,_,_,h,r=>by
  cases h
  cases r
  exact⟨_,Reads.none⟩
 |.bool b,_,_,h,r=>by
  cases h
  cases r
  exact⟨_,Reads.bool b⟩
 |.int i,_,_,h,r=>by
  cases h
  obtain⟨t,rfl⟩:=r
  exact⟨_,Reads.int i t⟩
 |.str x,_,_,h,r=>by
  cases h
  obtain⟨t,rfl⟩:=r
  exact⟨_,Reads.str x t⟩
 |.list ds,_,_,h,r=>by
  cases h with
  |lst hs ha=>
   cases r
   obtain⟨fi,rv,⟨o,n,ho,hc,_,hd⟩,_⟩:=I.list hs
   obtain⟨as,hr⟩:=Dp.readsAll I ds _ fi ha rv
   exact⟨_,Reads.list ho hc hd hr⟩
 |.tuple ds,_,_,h,r=>by
  cases h with
  |tup hs ha=>
   cases r
   obtain⟨fi,rv,⟨o,ho,hc,n,hd⟩,_⟩:=I.tuple hs
   obtain⟨as,hr⟩:=Dp.readsAll I ds _ fi ha rv
   exact⟨_,Reads.tuple ho hc hd hr⟩
 |.dict _,_,_,h,_=>by cases h
theorem Dp.readsAll(I:dO X pins σ H s):∀(ds:List bf)(vs:List V)(us:List ao),KP X.K H vs ds->eU vs us->∃as,acM s.heap us ds as
 |[],_,_,h,r=>by
  cases h
  cases r
  exact⟨_,ReadsAll.nil⟩
 |d::ds,_,_,h,r=>by
  cases h with
  |cons h1 h2=>
   cases r with
   |cons r1 r2=>
    obtain⟨as,q1⟩:=Dp.reads I d _ _ h1 r1
    obtain⟨bs,q2⟩:=Dp.readsAll I ds _ _ h2 r2
    exact⟨_,ReadsAll.cons q1 q2⟩
end
end
section
variable{X:Cx}
def abK(K:ah):R2:=fun x y H Q=>∃d e,Dp K H x d/\Dp K H y e/\qB d=true/\qB e=true/\Q (.bl (fh d e)) H
theorem TZ(hu:X.A.units+64<qD):Ka X (jh .Eq) (abK X.K):=by
 intro pins s σ H x y v u Q I rx ry h
 obtain⟨d,e,hd,he,sd,se,q⟩:=h
 obtain⟨as,r1⟩:=Dp.reads I d x v hd rx
 obtain⟨bs,r2⟩:=Dp.reads I e y u he ry
 exact SeqAt.compareEq_shaped r1 r2 sd se hu ⟨.bl _,H,I,rfl,q⟩
end
abbrev Y3(h:cY)(c:ak)(v:Option ao):Prop:=h.IsCell c v
def ai3(scope sc:tY):tY:=
 {scope with names:=scope.names.map fun(n,k)=>if(k== .free&&sc.kind== .function&&sc.names.lookup n==some .cell)then(n,.cell)else(n,k)}
def jz(cells:List (cM×ak)):List (cM×mV)->List (cM×ak)->List (cM×ak)
 |[],acc=>acc
 |(n,k)::r,acc=>if k== .free then jz cells r ((n,(cells.lookup n).getD 0)::acc)else jz cells r acc
theorem Gk(env:Ou)(f:cM×mV->List (cM×ak)->Sem (ForInStep (List (cM×ak))))
  (hf:∀n k c,f (n,k) c=if k== .free then(do let a<-cellOf env n;pure (.yield ((n,a)::c)))else pure (.yield c)):
  ∀(names:List (cM×mV))(acc:List (cM×ak)),(∀y∈names,y.2=.free->∃c,env.cells.lookup y.1=some c)->forIn names acc f=pure (jz env.cells names acc)
 |[],acc,_=>by rw[adH];rfl
 |(n,k)::r,acc,h=>by
  rw[List.forIn_cons,hf]
  have ih:=fun acc=>Gk env f hf r acc fun y hy=>h y (bO _ hy)
  unfold jz
  by_cases hk:(k==uQ)=true
  ·rw[aG hk,aG hk]
   obtain⟨c,hc⟩:=h (n,k) cV (by simpa using hk)
   have e:cellOf env n=pure c:=by unfold cellOf;rw[hc]
   rw[e]
   have e2:(env.cells.lookup n).getD 0=c:=by rw[hc];rfl
   rw[e2]
   exact ih _
  ·rw[aD hk,aD hk]
   exact ih _
theorem T3{scope:tY}{env:Ou}(h:∀y∈scope.names,y.2=.free->∃c,env.cells.lookup y.1=some c):closureFor scope env=pure (jz env.cells scope.names []):=by
 simp only[closureFor]
 rw[Gk env _ (fun n k c=>rfl) scope.names [] h]
 rfl
theorem EY{α:Type}:∀{l:List (cM×α)}{n:cM}{c:α},(n,c)∈l->∃c',l.lookup n=some c'
 |(k,v)::r,n,c,h=>by
  rw[mX]
  cases hb:n==k with
  |true=>exact⟨_,rfl⟩
  |false=>
   rcases aW.mp h with e|h
   ·cases e;simp at hb
   ·exact EY h
theorem yC{cells:List (cM×ak)}:∀{names:List (cM×mV)}{acc:List (cM×ak)}{n:cM}{c:ak},(n,c)∈jz cells names acc->(n,c)∈acc\/((n,.free)∈names/\c=(cells.lookup n).getD 0)
 |[],_,_,_,h=>.inl h
 |(m,k)::r,acc,n,c,h=>by
  unfold jz at h
  split at h
  ·rename_i hk
   have hk:k=.free:=by simpa using hk
   rcases yC h with h|⟨h1,h2⟩
   ·rcases aW.mp h with e|h
    ·cases e;exact .inr ⟨hk▸cV,rfl⟩
    ·exact .inl h
   ·exact .inr ⟨bO _ h1,h2⟩
  ·rcases yC h with h|⟨h1,h2⟩
   ·exact .inl h
   ·exact .inr ⟨bO _ h1,h2⟩
theorem CO{cells:List (cM×ak)}:∀{names:List (cM×mV)}{acc:List (cM×ak)}{p:cM×ak},p∈acc->p∈jz cells names acc
 |[],_,_,h=>h
 |(m,k)::r,acc,p,h=>by
  unfold jz
  split
  ·exact CO (bO _ h)
  ·exact CO h
theorem CQ{cells:List (cM×ak)}:∀{names:List (cM×mV)}{acc:List (cM×ak)}{n:cM},(n,.free)∈names->(n,(cells.lookup n).getD 0)∈jz cells names acc
 |(m,k)::r,acc,n,h=>by
  unfold jz
  rcases aW.mp h with e|h
  ·cases e
   exact CO cV
  ·split
   ·exact CQ h
   ·exact CQ h
theorem Ai:∀{names:List (cM×mV)}{h:cY}{acc:List (cM×ak)}{x:cM}{c:ak},(x,c)∈iD h.objs.size names acc->(x,c)∈acc\/((x,.cell)∈names/\h.objs.size<=c/\Y3 (pushCells h names) c none)
 |[],_,_,_,_,h=>.inl h
 |(n,k)::r,h,acc,x,c,hm=>by
  unfold iD at hm
  unfold pushCells
  split at hm
  ·rename_i hk
   rw[aG hk]
   have hk:k=.cell:=by simpa using hk
   rw[<-gz h {cls:=.type "cell",data:=.cell none}]at hm
   rcases Ai hm with hm|⟨h1,h2,h3⟩
   ·rcases aW.mp hm with e|hm
    ·cases e
     exact .inr ⟨hk▸cV,aV _,_,F6 r _ _ _ (cF _ rfl),rfl⟩
    ·exact .inl hm
   ·rw[gz]at h2
    exact .inr ⟨bO _ h1,AM h2,h3⟩
  ·rename_i hk
   rw[aD hk]
   rcases Ai hm with hm|⟨h1,h2,h3⟩
   ·exact .inl hm
   ·exact .inr ⟨bO _ h1,h2,h3⟩
theorem DX:∀{names:List (cM×mV)}{n:Nat}{acc:List (cM×ak)}{p:cM×ak},p∈acc->p∈iD n names acc
 |[],_,_,_,h=>h
 |(m,k)::r,n,acc,p,h=>by
  unfold iD
  split
  ·exact DX (bO _ h)
  ·exact DX h
theorem Hw:∀{names:List (cM×mV)}{n:Nat}{acc:List (cM×ak)}{x:cM},(x,.cell)∈names->∃c,(x,c)∈iD n names acc
 |(m,k)::r,n,acc,x,h=>by
  unfold iD
  rcases aW.mp h with e|h
  ·cases e
   exact⟨n,DX cV⟩
  ·split
   ·exact Hw h
   ·exact Hw h
theorem Hx:∀{names:List (cM×mV)}{h:cY}{acc:List (cM×ak)}{x y:cM}{c:ak},(∀p∈acc,p.2<h.objs.size)->(∀x y c,(x,c)∈acc->(y,c)∈acc->x=y)->(x,c)∈iD h.objs.size names acc->(y,c)∈iD h.objs.size names acc->x=y
 |[],_,_,_,_,_,_,hi,h1,h2=>hi _ _ _ h1 h2
 |(n,k)::r,h,acc,x,y,c,hl,hi,h1,h2=>by
  unfold iD at h1 h2
  split at h1
  ·rename_i hk
   rw[aG hk]at h2
   rw[<-gz h {cls:=.type "cell",data:=.cell none}]at h1 h2
   refine Hx (h:=h.push _) (fun p hp=>?_) (fun x y c a b=>?_) h1 h2
   ·rw[gz]
    rcases aW.mp hp with rfl|hp
    ·exact Cq _
    ·exact AN (hl p hp)
   ·rcases aW.mp a with e|a<;>rcases aW.mp b with e'|b
    ·cases e;cases e';rfl
    ·cases e;exact absurd (hl _ b) (gI _)
    ·cases e';exact absurd (hl _ a) (gI _)
    ·exact hi _ _ _ a b
  ·rename_i hk
   rw[aD hk]at h2
   exact Hx hl hi h1 h2
theorem QZ{M:acJ}{A:eG}{E:ao->aN->Prop}{s:aN}{scope:tY}{globals:ak}{OO:List (cM×ak)}{jg:cM}{func:Option ak}{code:ao}{Y4:Ou}{builtins:ak}{Q:Ou->aN->Prop}(h:Q (newEnv scope s.heap.objs.size globals (iD (s.heap.objs.size+1) scope.names OO) jg func code (some Y4) builtins) {s with heap:=pushCells (s.heap.push {cls:=.type "dict",data:=.dict #[]}) scope.names}):b8 M A (newFunctionEnv scope globals OO [] jg func code (some Y4) builtins) Q E s:=by
 simp only[newFunctionEnv,Wf,if_true]
 refine aP (wpAny_alloc ?_)
 refine aP (wpAny_layCells _ (fun n k c=>rfl) scope.names OO _ _ ?_)
 rw[show({s with heap:=s.heap.push {cls:=.type "dict",data:=.dict #[]}}:aN).heap.objs.size=s.heap.objs.size+1 from gz ..]
 rw[adH]
 exact aP (bR (bR h))
theorem CT{sc:tY}:∀{names:List (cM×mV)}{x:cM}{k:mV},(names.map fun(n,k)=>if(k==uQ&&sc.kind== .function&&sc.names.lookup n==some .cell)then(n,Mt)else(n,k)).lookup x=some k->∃k',names.lookup x=some k'/\(k=k'\/(k'=.free/\k=.cell))
 |[],_,_,h=>by simp at h
 |(n,k₀)::r,x,k,h=>by
  have ih:=@CT sc r x k
  have h':tQ x ((if(k₀==uQ&&sc.kind== .function&&sc.names.lookup n==some .cell)=true then(n,Mt)else(n,k₀))::(r.map _))=some k:=h
  cases hx:x==n with
  |true=>
   simp only[mX,hx]
   by_cases hc:(k₀==uQ&&sc.kind== .function&&sc.names.lookup n==some .cell)=true
   ·rw[aG hc]at h'
    simp only[mX,hx]at h'
    cases h'
    simp only[bx,i_]at hc
    exact⟨k₀,rfl,.inr ⟨hc.1.1,rfl⟩⟩
   ·rw[aD hc]at h'
    simp only[mX,hx]at h'
    cases h'
    exact⟨_,rfl,.inl rfl⟩
  |false=>
   simp only[mX,hx]
   by_cases hc:(k₀==uQ&&sc.kind== .function&&sc.names.lookup n==some .cell)=true
   ·rw[aG hc]at h'
    simp only[mX,hx]at h'
    exact ih h'
   ·rw[aD hc]at h'
    simp only[mX,hx]at h'
    exact ih h'
structure Q0(N:List cM)(sc scope:tY)(own:List (cM×Nat)):Prop where
 kind:scope.kind=.function
 uniq:∀y∈scope.names,scope.names.lookup y.1=some y.2
 ix:∀p∈own,N[p.2]?=some p.1
 free:∀y∈scope.names,y.2=.free->sc.names.lookup y.1=some .cell\/sc.names.lookup y.1=some .free
 own:∀y∈scope.names,y.2=.local\/y.2=.cell->y.1∈own.map (·.1)\/y.1∉N
def gC(σ:St):List Nat->St
 |[]=>σ
 |v::vs=>(gC σ vs).set v none
theorem CU(σ:St):∀vs:List Nat,(gC σ vs).length=σ.length
 |[]=>rfl
 |v::vs=>by unfold gC;rw[xo,CU σ vs]
theorem Hy{σ:St}{i:Nat}{x:V}:∀{vs:List Nat},(gC σ vs)[i]?=some (some x)->σ[i]?=some (some x)/\i∉vs
 |[],h=>⟨h,by simp⟩
 |v::vs,h=>by
  unfold gC at h
  by_cases hi:v=i
  ·subst hi
   by_cases hv:v<(gC σ vs).length
   ·rw[Cs hv]at h;cases h
   ·rw[fu (by simpa using hv)]at h;cases h
  ·rw[EU hi]at h
   obtain⟨h1,h2⟩:=Hy h
   exact⟨h1,by simp only[aW,not_or];exact⟨fun e=>hi e.symm,h2⟩⟩
abbrev Cx.OP(X:Cx)(s:aN)(H:Hp)(scope:tY)(rZ:Ou)(fp:List ak):Cx:={X with MI:=s,H_0:=H,env:=rZ,outer:=X.stack,ex:=fp,fn:=fun x=>scope.names.lookup x==some .cell,pn:=[],xe:=fun _ _=>False}
section
variable{X:Cx}{pins:List (ak×mC)}{σ:St}{H:Hp}{s:aN}
theorem Q2{scope:tY}{own:List (cM×Nat)}{fp:List ak}(I:dO X pins σ H s)(ok:Q0 X.N X.env.scope scope own)(hN:X.N.Nodup)(hfp:∀b∈fp,Ga X pins H b/\b<s.heap.objs.size):dO (X.OP s H scope (rM scope (iD (s.heap.objs.size+1) scope.names (jz X.env.cells scope.names [])) s.heap.objs.size X.env) fp) [] (gC σ (own.map (·.2))) H {s with heap:=pushCells (s.heap.push {cls:=.type "dict",data:=.dict #[]}) scope.names}:=by
 have NC:∀y∈scope.names,y.2=.free->∃c,X.env.cells.lookup y.1=some c:=fun y hy e=>by
  rcases ok.free y hy e with k|k
  ·exact I.ok.has _ (.inl k)
  ·exact I.ok.has _ (.inr k)
 generalize Q3:rM scope (iD (s.heap.objs.size+1) scope.names (jz X.env.cells scope.names [])) s.heap.objs.size X.env=rZ
 have kp:∀b o,s.heap.get? b=some o->(pushCells (s.heap.push {cls:=.type "dict",data:=.dict #[]}) scope.names).get? b=some o:=fun b o e=>F6 _ _ _ _ (bh _ e)
 have hL:rZ.locals=s.heap.objs.size:=by rw[<-Q3];rfl
 have hcl:rZ.cells=iD (s.heap.objs.size+1) scope.names (jz X.env.cells scope.names []):=by rw[<-Q3];rfl
 have hsc:rZ.scope=ai3 scope X.env.scope:=by rw[<-Q3];rfl
 rw[<-gz s.heap {cls:=.type "dict",data:=.dict #[]}]at hcl
 have cm:∀{y c},(y,c)∈jz X.env.cells scope.names []->X.env.cells.lookup y=some c/\c<s.heap.objs.size:=fun{y c}hm=>by
  rcases yC hm with hm|⟨h1,rfl⟩
  ·cases hm
  ·obtain⟨c,hc⟩:=NC _ h1 rfl
   rw[hc]
   obtain⟨w,z⟩:=I.cell _ _ hc
   exact⟨rfl,z.lt⟩
 have mem:∀{y c},rZ.cells.lookup y=some c->(X.env.cells.lookup y=some c/\c<s.heap.objs.size)\/(s.heap.objs.size+1<=c/\Y3 (pushCells (s.heap.push {cls:=.type "dict",data:=.dict #[]}) scope.names) c none):=fun{y c}e=>by
  rw[hcl]at e
  rcases Ai (dJ e)with hm|⟨_,h2,h3⟩
  ·exact .inl (cm hm)
  ·rw[gz]at h2;exact .inr ⟨h2,h3⟩
 have look:∀{y},scope.names.lookup y=some .free->∃c,rZ.cells.lookup y=some c/\X.env.cells.lookup y=some c:=fun{y}hl=>by
  have hy:(y,uQ)∈scope.names:=dJ hl
  obtain⟨c',e'⟩:=EY (DX (names:=scope.names) (n:=(s.heap.push {cls:=.type "dict",data:=.dict #[]}).objs.size) (CQ (cells:=X.env.cells) (acc:=[]) hy))
  rw[<-hcl]at e'
  refine⟨c',e',?_⟩
  rw[hcl]at e'
  rcases Ai (dJ e')with hm|⟨h1,_,_⟩
  ·exact(cm hm).1
  ·have:=ok.uniq _ h1
   rw[hl]at this;cases this
 have okB:(X.OP s H scope rZ fp).Ok:=by
  refine⟨I.ok.mod,by show rZ.scope.kind=_;rw[hsc];exact ok.kind,by show rZ.globals=_;rw[<-Q3];exact I.ok.glob,by show rZ.builtins=_;rw[<-Q3];exact I.ok.blt,by show s.heap.objs.size<=rZ.locals;rw[hL];exact aV _,
   fun y z c e1 e2=>?_,fun y hy=>?_,fun y c z e=>?_,I.ok.hd,I.ok.frames,.inl rfl,fun b hb=>⟨?_,fun y c e z=>?_⟩,I.bs,bQ I.ok.bsz I.sz,fun b o e hb=>?_,fun b hb z=>?_,I.stack,I.Vn⟩
  ·have e1:rZ.cells.lookup y=some c:=e1
   have e2:rZ.cells.lookup z=some c:=e2
   rw[hcl]at e1 e2
   refine Hx (fun p hp=>?_) (fun y z c a b=>I.ok.inj y z c (cm a).1 (cm b).1) (dJ e1) (dJ e2)
   rw[gz]
   exact AN (cm (y:=p.1) (c:=p.2) hp).2
  ·show∃c,rZ.cells.lookup y=some c
   have Ql:∀k,rZ.kindOf y=some k->(k=.cell\/k=.free)->∃c,rZ.cells.lookup y=some c:=fun k hk Wz=>by
    unfold Env.kindOf at hk
    rw[hsc]at hk
    obtain⟨k',e,r⟩:=CT hk
    have:k'=.cell\/k'=.free:=by
     rcases r with rfl|⟨rfl,_⟩
     ·exact Wz
     ·exact .inr rfl
    rcases this with rfl|rfl
    ·obtain⟨c,hm⟩:=Hw (n:=(s.heap.push {cls:=.type "dict",data:=.dict #[]}).objs.size) (acc:=jz X.env.cells scope.names []) (dJ e)
     obtain⟨c',e'⟩:=EY hm
     exact⟨c',by rw[hcl];exact e'⟩
    ·obtain⟨c,h1,_⟩:=look e
     exact⟨c,h1⟩
   rcases hy with hy|hy
   ·exact Ql _ hy (.inl rfl)
   ·exact Ql _ hy (.inr rfl)
  ·have z:(scope.names.lookup y==some Mt)=true:=z
   have z:scope.names.lookup y=some .cell:=by simpa using z
   have e:rZ.cells.lookup y=some c:=e
   rw[hcl]at e
   rcases Ai (dJ e)with hm|⟨_,h2,_⟩
   ·rcases yC hm with hm|⟨h1,_⟩
    ·cases hm
    ·have q:=ok.uniq _ h1
     rw[z]at q;cases q
   ·rw[gz]at h2
    exact AM h2
  ·show b≠rZ.locals
   rw[hL];exact d8 (hfp b hb).2
  ·have e:rZ.cells.lookup y=some c:=e
   rcases mem e with⟨h1,_⟩|⟨h1,_⟩
   ·exact(hfp b hb).1.2.2.2.2.1 y c h1 z
   ·have h2:s.heap.objs.size+1<=b:=by rw[<-z];exact h1
    exact absurd (dw (hfp b hb).2 (AM h2)) (gI _)
  ·rcases(hfp b hb).1.2.2.2.1 with z|z
   ·exact I.ok.Yn b o e z
   ·exact absurd (dw (bU e) (bQ I.ok.bsz z)) (gI _)
  ·rcases aW.mp (I.Ti b z)with z|z
   ·exact(hfp b hb).1.2.1 z
   ·exact(hfp b hb).1.2.2.1 z
 refine⟨okB,rfl,I.bare,Un.kept kp,⟨fun _=>none,?_,fun i y av e1 e2 e3=>?_⟩,fun y c e=>?_,?_,fun y c e=>?_,fun p hp=>?_,I.dz.kept kp,by rw[CU];exact I.len⟩
 ·show Heap.Ns _ rZ.locals _
  rw[hL]
  exact Heap.Ns.keeps (Heap.Ns.new ..) fun b o e=>F6 _ _ _ _ e
 ·obtain⟨e2,qI⟩:=Hy e2
  have hfr:scope.names.lookup y=some .free/\(rZ.kindOf y=some .cell\/rZ.kindOf y=some .free):=by
   have Ql:∀k,rZ.scope.names.lookup y=some k->k=.local\/k=.cell\/k=.free->scope.names.lookup y=some .free/\(rZ.kindOf y=some .cell\/rZ.kindOf y=some .free):=fun k hk Wz=>by
    have hk0:=hk
    rw[hsc]at hk
    obtain⟨k',e,r⟩:=CT hk
    have no:¬(k'=.local\/k'=.cell):=fun hh=>by
     rcases ok.own _ (dJ e) hh with e'|e'
     ·obtain⟨p,hp,hpy⟩:=bI.mp e'
      have e3:=ok.ix p hp
      have:p.1=y:=hpy
      rw[this]at e3
      exact qI (bI.mpr ⟨p,hp,KC hN e3 e1⟩)
     ·exact e' (aL e1)
    rcases r with rfl|⟨rfl,rfl⟩
    ·rcases Wz with rfl|rfl|rfl
     ·exact absurd (.inl rfl) no
     ·exact absurd (.inr rfl) no
     ·exact⟨e,.inr hk0⟩
    ·exact⟨e,.inl hk0⟩
   have e3:Vis rZ.scope y:=e3
   rcases e3 with e3|e3|e3
   ·exact Ql _ e3 (.inl rfl)
   ·exact Ql _ e3 (.inr (.inl rfl))
   ·exact Ql _ e3 (.inr (.inr rfl))
  obtain⟨m,hn,hl⟩:=I.loc
  have ai5:Vis X.env.scope y:=(ok.free _ (dJ hfr.1) rfl).elim (fun k=>.inr (.inl k)) (fun k=>.inr (.inr k))
  obtain⟨w,r,q⟩:=hl i y av e1 e2 ai5
  refine⟨w,r,.inr ⟨hfr.2,?_⟩⟩
  obtain⟨c,h1,h2⟩:=look hfr.1
  rcases q with⟨k,_⟩|⟨_,c',e',z⟩
  ·have k:X.env.scope.names.lookup y=some .local:=k
   rcases ok.free _ (dJ hfr.1) rfl with k'|k'<;>rw[show X.env.scope.names.lookup y=_ from k']at k<;>cases k
  ·rw[h2]at e';cases e'
   exact⟨c,h1,z.keeps kp⟩
 ·have e:rZ.cells.lookup y=some c:=e
  rcases mem e with⟨h1,_⟩|⟨_,z⟩
  ·obtain⟨w,z⟩:=I.cell y c h1
   exact⟨w,z.keeps kp⟩
  ·exact⟨_,z⟩
 ·show H rZ.locals=none
  rw[hL];exact I.dz.fresh (aV _)
 ·have e:rZ.cells.lookup y=some c:=e
  rcases mem e with⟨h1,_⟩|⟨h1,_⟩
  ·exact I.CB y c h1
  ·exact I.dz.fresh (AM h1)
 ·exact absurd (show p∈([]:List (ak×mC))++[]from hp) (by simp)
theorem aeg{E:ao->aN->Prop}{D:ak}{xs:List V}{y:V}{v:ao}{Q:ao->aN->Prop}(I:dO X pins σ H s)(hD:H D=some (.lst xs))(hz:xs.length<aK)(r:gW y v)(h:∀s',dO X pins σ (upd H D (.lst (xs++[y]))) s'->Q .none s'):b8 (cI X.prog X.w) X.A (call (.builtin "list.append") [.ref D,v]) Q E s:=by
 obtain⟨hz',fi,n,ri,e⟩:=I.dz D _ hD
 have hl:=ri.length
 refine append_at (hsz:=by rw[bw];omega) e fun h' sb SQ=>?_
 refine h {s with heap:=h'} (I.write (t':=s.toks) (by rw[hD];trivial) (.inl rfl) (fun b u hb q=>(sb.2 b hb).trans q) ⟨_,SQ⟩ ⟨by rw[au];exact hz,fi++[v],n+1,ri.append (.cons r .nil),?_⟩)
 rw[SQ]
 simp
def PTs(X:Cx)(OQ:List fK)(t:TT):Prop:=
 ∀(pins:List (ak×mC))(s:aN)(σ:St)(H:Hp)(Q:Bool->Hp->Prop),dO X pins σ H s->t σ H Q->
  b8 (cI X.prog X.w) X.A (forIn OQ true fun c r=>if r=true then do let ok<-isTrue c X.env (eval c X.env);pure (AO ok)else pure (AO r)) (TP X pins σ Q) X.xe s
def MM:TT:=fun _ H Q=>Q true H
theorem jA:PTs X [] MM:=fun _ _ _ H _ I h=>wpAny_tests_nil ⟨H,I,h⟩
theorem VB{c:fK}{t:TT}(h:PT X c t):PTs X [c] t:=fun pins s σ H Q I hw=>wpAny_tests_one (h pins s σ H Q I hw)
end
theorem WA{α:Type}{t:Sem α}{Q Q':α->aN->Prop}{M:acJ}{A:eG}{E:ao->aN->Prop}{s:aN}(h:b8 M A t Q (fun _ _=>False) s)(hQ:∀a s,Q a s->Q' a s):b8 M A t Q' E s:=i9 h hQ fun _ _ z=>gX z
theorem OR{prog:bD}{w:cC}{A:eG}{R:Result->aN->Prop}{s:aN}{Qm Ht uf:fK}{OQ:List fK}{scope:tY}{pos:AB}{it acc:ao}{env:Ou}(I:Nat->aN->Prop)
  (Tp:∀n s,I n s->b8 (cI prog w) A (pyNext it) (fun r s₁=>match r with
   |none=>R (.ok .next) s₁
   |some v=>b8 (cI prog w) A (F4 Ht it v) (fun _ s₁'=>b8 (cI prog w) A (assign Ht env v) (fun _ s₂=>
     b8 (cI prog w) A (forIn OQ true fun c r=>if r=true then do let ok<-isTrue c env (eval c env);pure (AO ok)else pure (AO r)) (fun ok s₃=>
      if ok=true then b8 (cI prog w) A (eval Qm env) (fun x s₄=>
       b8 (cI prog w) A (call (.builtin "list.append") [acc,x]) (fun _ s₅=>∃m,m<n/\I m s₅) (S2 (cI prog w) A env fun e s'=>R (.error e) s') s₄) (S2 (cI prog w) A env fun e s'=>R (.error e) s') s₃
      else∃m,m<n/\I m s₃) (S2 (cI prog w) A env fun e s'=>R (.error e) s') s₂) (S2 (cI prog w) A env fun e s'=>R (.error e) s') s₁') (S2 (cI prog w) A env fun e s'=>R (.error e) s') s₁) (S2 (cI prog w) A env fun e s'=>R (.error e) s') s)
  (n:Nat)(h:I n s):
  Nq (cI prog w) A (.compLoop (.ListComp Qm [⟨Ht,uf,OQ,0⟩] scope pos) 0 it acc env) R s:=by
 refine codeAny_loop rfl I (fun n s hI=>?_) n h
 show b8 _ A ((compTurn (.ListComp Qm [⟨Ht,uf,OQ,0⟩] scope pos) 0 it acc env).onRaise (fun x=>do noteFrame x env;theTreesLotGoes x)) _ _ s
 refine wpAny_noted ?_
 rw[compTurn_list]
 refine aP (DR (aP (i9 (Tp n s hI) (fun r s₁ h₁=>?_) fun _ _ h'=>h')))
 cases r with
 |none=>exact bR h₁
 |some v=>
  refine aP (i9 h₁ (fun _ s₁' h₁'=>?_) fun _ _ h'=>h')
  refine aP (i9 h₁' (fun _ s₂ h₂=>aP (i9 h₂ (fun ok s₃ h₃=>?_) fun _ _ h'=>h')) fun _ _ h'=>h')
  cases ok with
  |false=>exact bR ⟨rfl,h₃⟩
  |true=>
   exact aP (aP (i9 h₃ (fun x s₄ h₄=>aP (i9 h₄ (fun _ s₅ h₅=>bR (bR ⟨rfl,h₅⟩)) fun _ _ h'=>h')) fun _ _ h'=>h'))
section
variable{X:Cx}
def tLc(wi:TI)(g:TG)(tt:TT)(te:TE)(vs:List Nat):TE:=fun σ H Q=>wi σ H fun J H1=>∀D,H1 D=none->∃W:Nat->Nat->Hp->Prop,(∃m,W 0 m (upd H1 D (.lst [])))/\∀i m H,W i m H->
 (J.stop i H/\Q (.ref D) H)\/(J.go i H/\∃Nx:Hp->Prop,(∀H',Nx H'->∃m',m'<m/\W (i+1) m' H')/\∀x H',J.Qi i H x H'->g x (gC σ vs) H' fun σ2 H2=>gC σ2 vs=gC σ vs/\tt σ2 H2 fun b H3=>
  if b=true then te σ2 H3 fun y H4=>∃acc,H4 D=some (.lst acc)/\acc.length<aK/\Nx (upd H4 D (.lst (acc++[y])))else Nx H3)
theorem VC{pins:List (ak×mC)}{s:aN}{σ:St}{H:Hp}{Q:VK}{Qm tg uf:fK}{OQ:List fK}{scope:tY}{own:List (cM×Nat)}{pos AV:AB}{wi:TI}{g:TG}{tt:TT}{te:TE}{use:Option (ao->Sem Unit)}{Qf:ao->aN->Prop}(hc:X.calm=true)(hN:X.N.Nodup)(I:dO X pins σ H s)(hi:PI X tg uf wi)(ok:Q0 X.N X.env.scope scope own)(hg:∀(s:aN)(H:Hp)(C:ak)(cl:List (cM×ak))(fp:List ak),PG (X.OP s H scope (rM scope cl C X.env) fp) tg g)(ht:∀(s:aN)(H:Hp)(C:ak)(cl:List (cM×ak))(fp:List ak),PTs (X.OP s H scope (rM scope cl C X.env) fp) OQ tt)(he:∀(s:aN)(H:Hp)(C:ak)(cl:List (cM×ak))(fp:List ak),PE (X.OP s H scope (rM scope cl C X.env) fp) Qm te)(hs:∀x,Ct uf X.env x=pure x)(h:tLc wi g tt te (own.map (·.2)) σ H Q)(hRR:∀D C s' m H',dO X pins σ H' s'->Q (.ref D) H'->s'.heap.Ns C m->Ga X pins H' C->compPost (cI X.prog X.w) X.A X.xe use Qf (.ref D) C (.ok .next) s'):b8 (cI X.prog X.w) X.A (comprehension (.ListComp Qm [⟨tg,uf,OQ,0⟩] scope pos) scope X.env AV (newList []) false (eval uf X.env) use) Qf X.xe s:=by
 have NC:∀y∈scope.names,y.2=.free->∃c,X.env.cells.lookup y.1=some c:=fun y hy e=>by
  rcases ok.free y hy e with k|k
  ·exact I.ok.has _ (.inl k)
  ·exact I.ok.has _ (.inr k)
 refine wpAny_comprehension_free (use:=use) rfl hs (T3 NC) ok.kind (fun y hy e=>by rw[ok.uniq y hy,e])
  (jw (hi pins s σ H _ I h) fun xv s1 hx=>jw hx fun itv s2 h2=>?_)
 obtain⟨it,fp,tn,J,H2,e,I2,T,st2,f2,q⟩:=h2
 subst e
 refine wc (QZ ?_) (by show 0<=aK;decide)
 generalize hD:s2.heap.objs.size=D
 have hDn:H2 D=none:=I2.dz.fresh (uP hD)
 obtain⟨W,⟨m0,w0⟩,Tp⟩:=q D hDn
 generalize hs3:({s2 with heap:=s2.heap.push {cls:=.type "list",data:=.seq ([]:List ao).toArray}}:aN)=s3
 have I3:dO X pins σ (upd H2 D (.lst [])) s3:=by
  rw[<-hs3]
  refine I2.laid (t':=s2.toks) (fun b o e=>bh _ e) (uP hD) ⟨bE _,[],0,.nil,?_⟩
  rw[<-hD]
  exact cF _ rfl
 have h3:s3.heap=s2.heap.push {cls:=.type "list",data:=.seq ([]:List ao).toArray}:=by rw[<-hs3]
 have sz:∀b∈fp,b<s2.heap.objs.size:=fun b hb=>by
  obtain⟨o,e,_⟩:=T.obj _ _ st2 b hb
  exact bU e
 have f3:∀b∈fp,Ga X pins (upd H2 D (.lst [])) b/\b<s3.heap.objs.size:=fun b hb=>by
  have wD:=sz b hb
  refine⟨⟨?_,(f2 b hb).2⟩,by rw[h3,gz];exact AN wD⟩
  rw[bY (by rw[<-hD];exact d8 wD)]
  exact(f2 b hb).1
 have st3:tn 0 s3.heap:=T.keep _ _ _ st2 fun b _ o e=>by rw[h3];exact bh _ e
 have I4:=Q2 I3 ok hN f3
 have pg:=hg s3 (upd H2 D (.lst [])) s3.heap.objs.size (iD (s3.heap.objs.size+1) scope.names (jz X.env.cells scope.names [])) fp
 have pt:=ht s3 (upd H2 D (.lst [])) s3.heap.objs.size (iD (s3.heap.objs.size+1) scope.names (jz X.env.cells scope.names [])) fp
 have pe:=he s3 (upd H2 D (.lst [])) s3.heap.objs.size (iD (s3.heap.objs.size+1) scope.names (jz X.env.cells scope.names [])) fp
 show Nq _ _ (.compStart (.ListComp Qm [⟨tg,uf,OQ,0⟩] scope pos) 0 (.ref it) (.ref D) (rM scope (iD (s3.heap.objs.size+1) scope.names (jz X.env.cells scope.names [])) s3.heap.objs.size X.env)) (compPost (cI X.prog X.w) X.A X.xe use Qf (.ref D) s3.heap.objs.size) {s3 with heap:=pushCells (s3.heap.push {cls:=.type "dict",data:=.dict #[]}) scope.names}
 have nfp:∀b∈fp,(upd H2 D (.lst [])) b=none:=fun b hb=>(f3 b hb).1.1
 generalize hce:rM scope (iD (s3.heap.objs.size+1) scope.names (jz X.env.cells scope.names [])) s3.heap.objs.size X.env=ce at I4 pg pt pe⊢
 have cL:ce.locals=s3.heap.objs.size:=by subst hce;rfl
 generalize hH3:upd H2 D (.lst [])=H3 at I3 I4 pg pt pe w0 nfp f3
 generalize hs4:({s3 with heap:=pushCells (s3.heap.push {cls:=.type "dict",data:=.dict #[]}) scope.names}:aN)=s4 at I4⊢
 have st4:tn 0 s4.heap:=T.keep _ _ _ st3 fun b _ o e=>by rw[<-hs4];exact F6 _ _ _ _ (bh _ e)
 have Tr:∀{σ':St}{H':Hp}{s':aN},dO (X.OP s3 H3 scope ce fp) [] σ' H' s'->(∀b∈fp,H' b=none)->∀b∈fp,Ga (X.OP s3 H3 scope ce fp) [] H' b:=fun{σ' H' s'}I' hn b hb=>
  ⟨hn b hb,(I'.ok.exf b hb).1,I'.ok.Yo b hb,.inl hb,fun x c e=>(I'.ok.exf b hb).2 x c e,fun p hp=>absurd (show p∈([]:List (ak×mC))++[]from hp) (by simp)⟩
 have loop:Nq (cI X.prog X.w) X.A (.compLoop (.ListComp Qm [⟨tg,uf,OQ,0⟩] scope pos) 0 (.ref it) (.ref D) ce) (compPost (cI X.prog X.w) X.A X.xe use Qf (.ref D) s3.heap.objs.size) s4:=by
  refine OR (fun n s'=>∃i H',dO (X.OP s3 H3 scope ce fp) [] (gC σ (own.map (·.2))) H' s'/\tn i s'.heap/\(∀b∈fp,H' b=none)/\W i n H') ?_ m0 ⟨0,H3,I4,st4,nfp,w0⟩
  rintro n s5 ⟨i,H5,I5,st5,n5,w5⟩
  rcases Tp i n H5 w5 with⟨stop,qq⟩|⟨go,Nx,hNx,step⟩
  ·have td:=T.done (X.OP s3 H3 scope ce fp) rfl rfl rfl hc i [] s5 _ H5 (fun _ _=>False) I5 (Tr I5 n5) st5 stop
   refine WA td fun r s6⟨hr,I6⟩=>?_
   subst hr
   have I7:dO X pins σ H5 s6:=I3.afH (ch:=fp) I6.os I6.base I6.dz I6.bare fun b hb=>⟨(f3 b hb).1.2.2.2.1,(f3 b hb).1.2.1,(f3 b hb).1.2.2.2.2.1,(f3 b hb).1.2.2.2.2.2⟩
   have nC:H5 s3.heap.objs.size=none:=by
    have z:H5 ce.locals=none:=I6.free
    rw[cL]at z
    exact z
   obtain⟨m,hn,_⟩:=I6.loc
   have hn:s6.heap.Ns ce.locals m:=hn
   rw[cL]at hn
   exact hRR D s3.heap.objs.size s6 m H5 I7 qq hn (I3.QO (aV _) nC)
  ·have ti:=T.item (X.OP s3 H3 scope ce fp) rfl rfl rfl hc i [] s5 _ H5 (fun _ _=>False) I5 (Tr I5 n5) st5 go
   refine WA ti fun r s6⟨u,hr,h6⟩=>?_
   subst hr
   refine WA h6 fun _ s7⟨x,H7,I7,r7,y7,st7,n7⟩=>?_
   have I7':=I7.pinned (Tr I7 n7) (T.obj _ _ st7)
   refine WA (pg _ s7 _ H7 x u _ I7' r7 (step x H7 y7)) fun _ s8⟨σ8,H8,I8,hw8,q8⟩=>?_
   refine WA (pt _ s8 σ8 H8 _ I8 q8) fun b s9⟨H9,I9,q9⟩=>?_
   have fin:∀{s':aN}{H':Hp},dO (X.OP s3 H3 scope ce fp) ([]++KI fp s7.heap) σ8 H' s'->Nx H'->∃m,m<n/\∃i H',dO (X.OP s3 H3 scope ce fp) [] (gC σ (own.map (·.2))) H' s'/\tn i s'.heap/\(∀b∈fp,H' b=none)/\W i m H':=fun{s' H'}I' nx=>by
    obtain⟨m',hm,w'⟩:=hNx H' nx
    have af2:∀b∈fp,∀o,s7.heap.get? b=some o->s'.heap.get? b=some o/\H' b=none:=fun b hb o e=>
     let z:=I'.pin (b,o) (eO _ (eO _ (xA hb e)))
     ⟨z.1,z.2.1⟩
    have hl:(gC σ (own.map (·.2))).length=σ8.length:=by rw[<-hw8,CU]
    refine⟨m',hm,i+1,H',(I'.CJ (pins:=[])).weak hl (fun j v e=>?_),T.keep _ _ _ st7 fun b hb o e=>(af2 b hb o e).1,fun b hb=>?_,w'⟩
    ·rw[<-hw8]at e
     exact(Hy e).1
    ·obtain⟨o,e,_⟩:=T.obj _ _ st7 b hb
     exact(af2 b hb o e).2
   cases b with
   |false=>
    simp only[kU,if_false]at q9⊢
    exact fin I9 q9
   |true=>
    simp only[if_true]at q9⊢
    refine WA (pe _ s9 σ8 H9 _ I9 q9) fun z s10⟨yv,H10,I10,r10,acc,ai8,ai9,nx⟩=>?_
    exact aeg (X:=X.OP s3 H3 scope ce fp) I10 ai8 ai9 r10 fun s11 I11=>fin I11 nx
 exact codeAny_compStart_list loop (T.self X.A 0 _ _ _ st4 loop)
theorem vm{Qm tg uf:fK}{OQ:List fK}{scope:tY}{own:List (cM×Nat)}{pos:AB}{wi:TI}{g:TG}{tt:TT}{te:TE}(hc:X.calm=true)(hN:X.N.Nodup)(hi:PI X tg uf wi)(ok:Q0 X.N X.env.scope scope own)
  (hg:∀(s:aN)(H:Hp)(C:ak)(cl:List (cM×ak))(fp:List ak),PG (X.OP s H scope (rM scope cl C X.env) fp) tg g)(ht:∀(s:aN)(H:Hp)(C:ak)(cl:List (cM×ak))(fp:List ak),PTs (X.OP s H scope (rM scope cl C X.env) fp) OQ tt)
  (he:∀(s:aN)(H:Hp)(C:ak)(cl:List (cM×ak))(fp:List ak),PE (X.OP s H scope (rM scope cl C X.env) fp) Qm te)(hs:∀x,Ct uf X.env x=pure x:=by intro _;rfl):
  PE X (.ListComp Qm [⟨tg,uf,OQ,0⟩] scope pos) (tLc wi g tt te (own.map (·.2))):=by
 intro pins s σ H Q I h
 rw[eval_ListComp]
 refine VC hc hN I hi ok hg ht he hs h fun D C s' m H' I' q hn f=>⟨m,hn,fun XS sb=>?_⟩
 obtain⟨f0,f1,f2,f3,f4,f5⟩:=f
 exact⟨.ref D,H',I'.turned (t':=s'.toks) (fun b o hb e=>(sb.2 b hb).trans e) f0 f1 f3 f4 f5,rfl,q⟩
theorem Aj{i:Nat}{y:cM}{py:AB}{Qm tg uf:fK}{OQ:List fK}{scope:tY}{own:List (cM×Nat)}{pos af3:AB}{wi:TI}{g:TG}{tt:TT}{te:TE}(hc:X.calm=true)(hN:X.N.Nodup)(hy:X.N[i]?=some y)(hyl:X.env.scope.names.lookup y=some .local)
  (hsw:AL (.ListComp Qm [⟨tg,uf,OQ,0⟩] scope pos) (some (.Name y py)) af3.line X.env=pure true)(hi:PI X tg uf wi)(ok:Q0 X.N X.env.scope scope own)
  (hg:∀(s:aN)(H:Hp)(C:ak)(cl:List (cM×ak))(fp:List ak),PG (X.OP s H scope (rM scope cl C X.env) fp) tg g)(ht:∀(s:aN)(H:Hp)(C:ak)(cl:List (cM×ak))(fp:List ak),PTs (X.OP s H scope (rM scope cl C X.env) fp) OQ tt)
  (he:∀(s:aN)(H:Hp)(C:ak)(cl:List (cM×ak))(fp:List ak),PE (X.OP s H scope (rM scope cl C X.env) fp) Qm te)(hs:∀x,Ct uf X.env x=pure x:=by intro _;rfl):
  PS X (.Assign [.Name y py] (.ListComp Qm [⟨tg,uf,OQ,0⟩] scope pos) af3) (ad5 (tLc wi g tt te (own.map (·.2))) (wm i)):=by
 intro pins s σ H D I h
 rw[exec_Assign_Name_used _ _ _ _ hsw]
 refine aP (DR (aP ?_))
 show b8 _ X.A (do let _<-comprehension (.ListComp Qm [⟨tg,uf,OQ,0⟩] scope pos) scope X.env (firstIterPos [⟨tg,uf,OQ,0⟩] pos) (newList []) false (eval uf X.env) (some (assign (.Name y py) X.env))) _ _ s
 have h:tLc wi g tt te (own.map (·.2)) σ H (fun x H1=>wm i x σ H1 D.nx):=h
 refine aP (jw (VC (Qf:=fun _ s'=>SP X pins D .next s') hc hN I hi ok hg ht he hs h fun L C s' m H' I' q hn f=>?_) fun _ s' hq=>bR (bR hq))
 show b8 _ _ (assign (.Name y py) X.env (.ref L)) _ _ _
 refine wpAny_assign_Name (NB (v:=V.ref L) I' hN hy (.inl hyl) rfl (fun s2 I2⟨a,sb,ha⟩=>?_) (.inr hyl))
 obtain⟨f0,f1,f2,f3,f4,f5⟩:=f
 have haC:C≠a:=by
  rcases ha with z|z
  ·rw[z];exact f1
  ·exact fun e=>f4 y a z e.symm
 refine⟨m,hn.sameBut sb haC,fun h3 sb3=>?_⟩
 exact⟨_,H',I2.turned (t':=s2.toks) (fun b o hb e=>(sb3.2 b hb).trans e) f0 f1 f3 f4 f5,q⟩
theorem DY{Qm:fK}{gs:List Comprehension}{scope:tY}{pos py:AB}{y:cM}{l:Nat}{env:Ou}(hk:env.scope.kind=.function)(hy:env.scope.names.lookup y=some .local)(hl:(py.line==pos.line)=true)(ha:(scope.names.any fun(n,k)=>n==y&&(k== .local||k== .cell))=false):AL (.ListComp Qm gs scope pos) (some (.Name y py)) l env=pure true:=by
 have ky:env.kindOf y=some .local:=hy
 have hb:env.blockKind=.function:=by unfold Env.blockKind;rw[hk];rfl
 unfold AL
 simp only[hb,ky,ha,Expr.pos,hl]
 rfl
end
theorem Y5{lo:Int}{n:Nat}{g:TG}{tt:TT}{te:TE}{vs:List Nat}{σ:St}{H1:Hp}{D:ak}{Qd:Hp->Prop}(Pv:Nat->Hp->Prop)(h0:Pv 0 (upd H1 D (.lst [])))(hs:∀i H,i<n->Pv i H->g (.int (lo+i)) (gC σ vs) H fun σ2 H2=>gC σ2 vs=gC σ vs/\tt σ2 H2 fun b H3=>if b=true then te σ2 H3 fun y H4=>∃acc,H4 D=some (.lst acc)/\acc.length<aK/\Pv (i+1) (upd H4 D (.lst (acc++[y])))else Pv (i+1) H3)(hd:∀H,Pv n H->Qd H):∃W:Nat->Nat->Hp->Prop,(∃m,W 0 m (upd H1 D (.lst [])))/\∀i m H,W i m H->((XO lo n).stop i H/\Qd H)\/((XO lo n).go i H/\∃Nx:Hp->Prop,(∀H',Nx H'->∃m',m'<m/\W (i+1) m' H')/\∀x H',(XO lo n).Qi i H x H'->g x (gC σ vs) H' fun σ2 H2=>gC σ2 vs=gC σ vs/\tt σ2 H2 fun b H3=>if b=true then te σ2 H3 fun y H4=>∃acc,H4 D=some (.lst acc)/\acc.length<aK/\Nx (upd H4 D (.lst (acc++[y])))else Nx H3):=by
 refine⟨fun i m H=>m=n-i/\i<=n/\Pv i H,⟨n,by simp,bE _,h0⟩,?_⟩
 rintro i m H ⟨rfl,hi,p⟩
 by_cases wD:i<n
 ·refine .inr ⟨wD,Pv (i+1),fun H' p'=>⟨n-(i+1),by omega,rfl,wD,p'⟩,fun x H' y=>?_⟩
  obtain⟨e,y⟩:=y
  subst e y
  exact hs i _ wD p
 ·have e:i=n:=by omega
  subst e
  exact .inl ⟨aV _,hd H p⟩
theorem Kd{K:ah}{a:ak}{xs:List V}{g:TG}{tt:TT}{te:TE}{vs:List Nat}{σ:St}{H1:Hp}{D:ak}{Qd:Hp->Prop}(Pv:Nat->Hp->Prop)(h0:Pv 0 (upd H1 D (.lst [])))(hl:∀i H,i<=xs.length->Pv i H->cG K H a xs)(hs:∀i x H,xs[i]?=some x->Pv i H->g x (gC σ vs) H fun σ2 H2=>gC σ2 vs=gC σ vs/\tt σ2 H2 fun b H3=>if b=true then te σ2 H3 fun y H4=>∃acc,H4 D=some (.lst acc)/\acc.length<aK/\Pv (i+1) (upd H4 D (.lst (acc++[y])))else Pv (i+1) H3)(hd:∀H,Pv xs.length H->Qd H):∃W:Nat->Nat->Hp->Prop,(∃m,W 0 m (upd H1 D (.lst [])))/\∀i m H,W i m H->((QR K a).stop i H/\Qd H)\/((QR K a).go i H/\∃Nx:Hp->Prop,(∀H',Nx H'->∃m',m'<m/\W (i+1) m' H')/\∀x H',(QR K a).Qi i H x H'->g x (gC σ vs) H' fun σ2 H2=>gC σ2 vs=gC σ vs/\tt σ2 H2 fun b H3=>if b=true then te σ2 H3 fun y H4=>∃acc,H4 D=some (.lst acc)/\acc.length<aK/\Nx (upd H4 D (.lst (acc++[y])))else Nx H3):=by
 refine⟨fun i m H=>m=xs.length-i/\i<=xs.length/\Pv i H,⟨xs.length,by simp,bE _,h0⟩,?_⟩
 rintro i m H ⟨rfl,hi,p⟩
 have q:=hl i H hi p
 by_cases wD:i<xs.length
 ·refine .inr ⟨⟨xs,xs[i],q,by simp[wD]⟩,Pv (i+1),fun H' p'=>⟨xs.length-(i+1),by omega,rfl,wD,p'⟩,fun x H' y=>?_⟩
  obtain⟨e,y⟩:=y
  subst e
  exact hs i x _ (y xs q) p
 ·have e:i=xs.length:=by omega
  subst e
  exact .inl ⟨⟨xs,q,aV _⟩,hd H p⟩
def af4(N:List cM)(sc scope:tY)(own:List (cM×Nat)):Bool:=
 (match scope.kind with|.function=>true|_=>false)&&(scope.names.all fun y=>decide (scope.names.lookup y.1=some y.2))&&(own.all fun p=>decide (N[p.2]?=some p.1))&&
  (scope.names.all fun y=>match y.2 with
   |.free=>(match sc.names.lookup y.1 with|some .cell=>true|some .free=>true|_=>false)
   |.local=>decide (y.1∈own.map (·.1))||decide (y.1∉N)
   |.cell=>decide (y.1∈own.map (·.1))||decide (y.1∉N)
   |_=>true)
theorem gR{N:List cM}{sc scope:tY}{own:List (cM×Nat)}(h:af4 N sc scope own=true):Q0 N sc scope own:=by
 unfold af4 at h
 simp only[bx,vI,decide_eq_true_eq]at h
 obtain⟨⟨⟨h1,h2⟩,h3⟩,h4⟩:=h
 refine⟨?_,h2,h3,fun y hy e=>?_,fun y hy e=>?_⟩
 ·split at h1
  ·assumption
  ·cases h1
 ·have q:=h4 y hy
  simp only[e]at q
  split at q<;>first|exact .inl (by assumption)|exact .inr (by assumption)|cases q
 ·have q:=h4 y hy
  rcases e with e|e<;>(simp only[e,xr,decide_eq_true_eq]at q;exact q)
section
variable{κ:Type} [DecidableEq κ]
def vq(dh:List (κ×V))(k:κ):Option V:=(dh.find? fun kv=>decide (kv.1=k)).map (·.2)
def Gm(dh:List (κ×V))(k:κ)(v:V):List (κ×V):=
 if(dh.any fun kv=>decide (kv.1=k))=true then dh.map (fun kv=>if kv.1=k then(kv.1,v)else kv)else dh++[(k,v)]
theorem ph{p:κ×V}{r:List (κ×V)}{k:κ}(e:p.1=k):vq (p::r) k=some p.2:=by simp[vq,g5,e]
theorem pq{p:κ×V}{r:List (κ×V)}{k:κ}(e:¬p.1=k):vq (p::r) k=vq r k:=by simp[vq,g5,e]
theorem Gn(k:κ):∀dh:List (κ×V),(dh.any fun kv=>decide (kv.1=k))=(vq dh k).isSome
 |[]=>rfl
 |p::r=>by
  rw[kF]
  by_cases e:p.1=k
  ·simp only[ph e,aI e,Bool.true_or,Wf]
  ·rw[pq e,aH e,rX];exact Gn k r
theorem Q4(k j:κ)(y:V):∀dh:List (κ×V),vq (dh.map fun kv=>if kv.1=k then(kv.1,y)else kv) j=(vq dh j).map fun x=>if j=k then y else x
 |[]=>rfl
 |p::r=>by
  have ih:=Q4 k j y r
  rw[bg]
  by_cases h:p.1=k
  ·rw[aG h]
   by_cases e:p.1=j
   ·rw[ph (p:=(p.1,y)) e,ph e,ow,aG (e.symm.trans h)]
   ·rw[pq (p:=(p.1,y)) e,pq e,ih]
  ·rw[aD h]
   by_cases e:p.1=j
   ·rw[ph (p:=p) e,ph e,ow,aD (fun z=>h (e.trans z))]
   ·rw[pq (p:=p) e,pq e,ih]
theorem NN(k j:κ)(y:V):∀dh:List (κ×V),vq dh k=none->vq (dh++[(k,y)]) j=if j=k then some y else vq dh j
 |[],_=>by
  by_cases e:k=j
  ·rw[aG e.symm];exact ph (p:=(k,y)) e
  ·rw[aD (fun z=>e z.symm)];exact pq (p:=(k,y)) e
 |p::r,hn=>by
  rw[qE]
  have hk:¬p.1=k:=fun z=>by rw[ph z]at hn;cases hn
  rw[pq hk]at hn
  have ih:=NN k j y r hn
  by_cases e:p.1=j
  ·rw[ph e,ph e,aD (fun z=>hk (e.trans z))]
  ·rw[pq e,pq e,ih]
theorem Q5(dh:List (κ×V))(k j:κ)(y:V):vq (Gm dh k y) j=if j=k then some y else vq dh j:=by
 unfold Gm
 by_cases a:(dh.any fun kv=>decide (kv.1=k))=true
 ·rw[aG a,Q4]
  rw[Gn]at a
  by_cases e:j=k
  ·obtain⟨x,hx⟩:=lT.mp a
   rw[aG e,e,hx,ow,aG rfl]
  ·rw[aD e]
   cases vq dh j with
   |none=>rfl
   |some x=>rw[ow,aD e]
 ·rw[aD a]
  refine NN k j y dh ?_
  rw[Gn]at a
  cases q:vq dh k with
  |none=>rfl
  |some x=>rw[q]at a;exact(a rfl).elim
theorem yD(dh:List (κ×V))(k:κ)(v:V):(Gm dh k v).length<=dh.length+1:=by
 unfold Gm
 split
 ·rw[aa];omega
 ·rw[au,br,Mu];omega
theorem En.Ak{o:Option V}{u:Option ao}(r:En o u):o.isSome=u.isSome:=by
 cases o with
 |none=>cases u with
  |none=>rfl
  |some _=>exact(show False from r).elim
 |some _=>cases u with
  |none=>exact(show False from r).elim
  |some _=>rfl
theorem KV.val{dh:List (κ×V)}{vs:List (κ×ao)}(r:KV dh vs)(k:κ):En (vq dh k) (Nr vs k):=by
 unfold KV at r
 induction r with
 |nil=>exact yZ
 |@cons p q ps qs h t ih=>
  obtain⟨h1,h2⟩:=h
  by_cases e:p.1=k
  ·have e':q.1=k:=h1.symm.trans e
   have b:Nr (q::qs) k=some q.2:=by simp[Nr,g5,e']
   rw[ph e,b];exact h2
  ·have e':¬q.1=k:=fun z=>e (h1.trans z)
   have b:Nr (q::qs) k=Nr qs k:=by simp[Nr,g5,e']
   rw[pq e,b];exact ih
theorem KV.any{dh:List (κ×V)}{vs:List (κ×ao)}(r:KV dh vs)(k:κ):(dh.any fun kv=>decide (kv.1=k))=vs.any fun kv=>decide (kv.1=k):=by
 unfold KV at r
 induction r with
 |nil=>rfl
 |cons h t ih=>rw[kF,kF,ih,h.1]
theorem KV.aeh{dh:List (κ×V)}{vs:List (κ×ao)}(r:KV dh vs)(k:κ){y:V}{u:ao}(ry:gW y u):KV (dh.map fun kv=>if kv.1=k then(kv.1,y)else kv) (vs.map fun kv=>if kv.1=k then(kv.1,u)else kv):=by
 unfold KV at r⊢
 induction r with
 |nil=>exact .nil
 |@cons p q ps qs h t ih=>
  rw[bg,bg]
  refine .cons ?_ ih
  obtain⟨h1,h2⟩:=h
  by_cases e:p.1=k
  ·rw[aG e,aG (h1.symm.trans e)];exact⟨h1,ry⟩
  ·rw[aD e,aD (fun z=>e (h1.trans z))];exact⟨h1,h2⟩
theorem KV.put{dh:List (κ×V)}{vs:List (κ×ao)}(r:KV dh vs)(k:κ){y:V}{u:ao}(ry:gW y u):KV (Gm dh k y) (stored vs k u):=by
 unfold Gm stored
 rw[r.any k]
 by_cases e:(vs.any fun kv=>decide (kv.1=k))=true
 ·rw[aG e,aG e];exact r.aeh k ry
 ·rw[aD e,aD e];exact Paired.snoc r ⟨rfl,ry⟩
theorem KV.length{dh:List (κ×V)}{vs:List (κ×ao)}(r:KV dh vs):dh.length=vs.length:=Ov r
end
theorem Q6{P:bD}{w:cC}{k:yp}{u:ao}(r:gW (kV k) u):(pW P w).is k u=true:=by
 cases k with
 |inl i=>obtain⟨t,e⟩:=(show∃t,u=ET i t from r);subst e;exact QG P w i t
 |inr x=>obtain⟨t,e⟩:=(show∃t,u=Qs x t from r);subst e;exact QH P w x t
theorem NO{P:bD}{w:cC}:∀{ks:List yp}{us:List ao},eU (ks.map kV) us->ItemsAre (pW P w) ks us
 |[],_,r=>by rw[Cu]at r;cases r;exact .nil
 |k::ks,_,r=>by
  rw[bg]at r
  cases r with
  |cons h t=>exact .cons (Q6 h) (NO t)
abbrev KT(H:Hp):List (List yp×V)->List (List yp×ak×ao)->Prop:=Paired fun p q=>p.1=q.1/\H q.2.1=some (.tup (p.1.map kV))/\gW p.2 q.2.2
theorem KT.val{H:Hp}{dh:List (List yp×V)}{xs:List (List yp×ak×ao)}(r:KT H dh xs)(k:List yp):En (vq dh k) ((Iu xs k).map (·.2)):=by
 induction r with
 |nil=>exact yZ
 |@cons p q ps qs h t ih=>
  obtain⟨h1,_,h2⟩:=h
  by_cases e:p.1=k
  ·have e':q.1=k:=h1.symm.trans e
   have b:Iu (q::qs) k=some q.2:=by simp[Iu,g5,e']
   rw[ph e,b];exact h2
  ·have e':¬q.1=k:=fun z=>e (h1.trans z)
   have b:Iu (q::qs) k=Iu qs k:=by simp[Iu,g5,e']
   rw[pq e,b];exact ih
theorem KT.aeh{H:Hp}{dh:List (List yp×V)}{xs:List (List yp×ak×ao)}(r:KT H dh xs)(k:List yp){y:V}{u:ao}(ry:gW y u):KT H (dh.map fun kv=>if kv.1=k then(kv.1,y)else kv) (xs.map (putAt k u)):=by
 induction r with
 |nil=>exact .nil
 |@cons p q ps qs h t ih=>
  rw[bg,bg]
  refine .cons ?_ ih
  obtain⟨h1,h2,h3⟩:=h
  unfold putAt
  by_cases e:p.1=k
  ·rw[aG e,aG (h1.symm.trans e)];exact⟨h1,h2,ry⟩
  ·rw[aD e,aD (fun z=>e (h1.trans z))];exact⟨h1,h2,h3⟩
theorem KT.put{H:Hp}{dh:List (List yp×V)}{xs:List (List yp×ak×ao)}(r:KT H dh xs)(k:List yp){b:ak}{y:V}{u:ao}(hb:H b=some (.tup (k.map kV)))(ry:gW y u):KT H (Gm dh k y) (storedH xs k b u):=by
 have e:(dh.any fun kv=>decide (kv.1=k))=(Iu xs k).isSome:=by
  rw[Gn,(r.val k).Ak,tV]
 unfold Gm storedH
 rw[e]
 by_cases q:(Iu xs k).isSome=true
 ·rw[aG q,aG q];exact r.aeh k ry
 ·rw[aD q,aD q];exact Paired.snoc r ⟨rfl,hb,ry⟩
theorem KT.keeps{H H':Hp}{dh:List (List yp×V)}{xs:List (List yp×ak×ao)}(r:KT H dh xs)(ht:∀b ys,H b=some (.tup ys)->H' b=some (.tup ys)):KT H' dh xs:=
 Paired.adV r fun _ _ z=>⟨z.1,ht _ _ z.2.1,z.2.2⟩
section
variable{P:bD}{w:cC}{H:Hp}{h:cY}{a:ak}
theorem ac7{u:HO}(ok:CA P w H h)(e:Rd H a u):kP P w H h a u:=e.ok ok
theorem Q7{dh:List (yp×V)}(ok:CA P w H h)(e:Rd H a (.dK dh)):dh.length<=aK/\(a==nX)=false/\∃vs,KV dh vs/\h.DictOf (pW P w) a vs:=
 show kP P w H h a (.dK dh)from ac7 ok e
theorem af5{dh:List (yp×V)}(ok:CA P w H h)(e:H a=some (.dK dh)):dh.length<=aK/\(a==nX)=false/\∃vs,KV dh vs/\h.DictOf (pW P w) a vs:=Q7 ok (.inl e)
theorem KQ{ks:List yp}(ok:CA P w H h)(e:H a=some (.tup (ks.map kV))):(P_ (pW P w)).is h ks a:=by
 obtain⟨_,fi,r,o,h1,h2,n,h3⟩:=(show kP P w H h a (.tup (ks.map kV))from ok a _ e)
 exact⟨o,fi.toArray,n,h1,h2,h3,by simpa using NO r⟩
theorem Q8{dh:List (List yp×V)}(ok:CA P w H h)(e:Rd H a (.dT dh)):dh.length<=aK/\(a==nX)=false/\∃xs,KT H dh xs/\h.DictOfH (P_ (pW P w)) a xs:=by
 obtain⟨z,y,xs,r,o,es,ep,h1,h2,h3,h4,h5⟩:=(show kP P w H h a (.dT dh)from ac7 ok e)
 refine⟨z,y,xs,r,o,es,ep,h1,h2,h3,h4,fun x hx=>?_,h5⟩
 have all:∀{l:List (List yp×V)}{m:List (List yp×ak×ao)},KT H l m->∀x∈m,(P_ (pW P w)).is h x.1 x.2.1:=by
  intro l m q
  induction q with
  |nil=>intro x hx;exact nomatch hx
  |@cons p q ps qs hq t ih=>
   intro x hx
   rcases aW.mp hx with e|hx
   ·subst e
    exact KQ ok (by rw[<-hq.1];exact hq.2.1)
   ·exact ih x hx
 exact all r x hx
theorem af6{dh:List (List yp×V)}(ok:CA P w H h)(e:H a=some (.dT dh)):dh.length<=aK/\(a==nX)=false/\∃xs,KT H dh xs/\h.DictOfH (P_ (pW P w)) a xs:=Q8 ok (.inl e)
end
def Ep(H:Hp)(a:ak)(y:V)(r:Option V):Prop:=
 (∃dh k,Rd H a (.dK dh)/\y=kV k/\r=vq dh k)\/∃dh k b,Rd H a (.dT dh)/\y=.ref b/\H b=some (.tup (k.map kV))/\r=vq dh k
def WB(H:Hp)(a:ak)(y v:V)(H':Hp):Prop:=
 (∃dh k,H a=some (.dK dh)/\y=kV k/\dh.length<aK/\H'=upd H a (.dK (Gm dh k v)))\/
 ∃dh k b,H a=some (.dT dh)/\y=.ref b/\H b=some (.tup (k.map kV))/\dh.length<aK/\H'=upd H a (.dT (Gm dh k v))
theorem Ep.k{H:Hp}{a:ak}{dh:List (yp×V)}{k:yp}(e:H a=some (.dK dh)):Ep H a (kV k) (vq dh k):=.inl ⟨dh,k,.inl e,rfl,rfl⟩
theorem WB.k{H:Hp}{a:ak}{dh:List (yp×V)}{k:yp}{v:V}(e:H a=some (.dK dh))(hl:dh.length<aK):WB H a (kV k) v (upd H a (.dK (Gm dh k v))):=.inl ⟨dh,k,e,rfl,hl,rfl⟩
section
variable{X:Cx}{pins:List (ak×mC)}{σ:St}{H:Hp}{s:aN}{a:ak}{y v:V}{u r:ao}{o:Option V}{A:eG}{E:ao->aN->Prop}
theorem dO.big(I:dO X pins σ H s):nX<s.heap.objs.size:=by
 have h:f_<s.heap.objs.size:=(I.mod.glob.keeps I.bk).lt
 exact Nat.lt_trans (by decide) h
theorem WC{Q:ao->aN->Prop}(hu:A.units+1<qD)(I:dO X pins σ H s)(g:Ep H a y (some v))(ry:gW y u)(h:∀w' s',dO X pins σ H s'->gW v w'->Q w' s'):b8 (cI X.prog X.w) A (Jg (.ref a) u) Q E s:=by
 rcases g with⟨dh,k,e,ey,l⟩|⟨dh,k,b,e,ey,eb,l⟩
 ·subst ey
  obtain⟨z,hd,vs,KR,dd⟩:=Q7 I.dz e
  obtain⟨w',hw,rw'⟩:=En.some_of (v:=v) (o:=Nr vs k) (by rw[l];exact KR.val k)
  exact wpAny_getItem_of (Q6 ry) dd.mapOf hw (h w' _ (I.tok _) rw')
 ·subst ey
  cases(show u=dI b from ry)
  obtain⟨z,hd,xs,KR,dd⟩:=Q8 I.dz e
  obtain⟨w',hw,rw'⟩:=En.some_of (v:=v) (o:=(Iu xs k).map (·.2)) (by rw[l];exact KR.val k)
  obtain⟨p,hp,hp2⟩:=jf.mp hw
  refine wpAny_getItem_heap (BW hu) (KQ I.dz eb) dd hp ?_
  rw[hp2]
  exact h w' _ (I.tok _) rw'
theorem ai'{Q:ao->aN->Prop}(hu:A.units+1<qD)(I:dO X pins σ H s)(g:Ep H a y o)(ry:gW y u)(h:∀s',dO X pins σ H s'->Q (.bool o.isSome) s'):b8 (cI X.prog X.w) A (jh .In u (.ref a)) Q E s:=by
 rcases g with⟨dh,k,e,ey,l⟩|⟨dh,k,b,e,ey,eb,l⟩
 ·subst ey
  obtain⟨z,hd,vs,KR,dd⟩:=Q7 I.dz e
  refine wpAny_in_of (Q6 ry) hd dd.mapOf ?_
  rw[<-(KR.val k).Ak,<-l]
  exact h _ (I.tok _)
 ·subst ey
  cases(show u=dI b from ry)
  obtain⟨z,hd,xs,KR,dd⟩:=Q8 I.dz e
  refine wpAny_in_heap (BW hu) (KQ I.dz eb) hd dd ?_
  have q:=(KR.val k).Ak
  rw[tV]at q
  rw[<-q,<-l]
  exact h _ (I.tok _)
theorem abL{Q:ao->aN->Prop}(hu:A.units+1<qD)(I:dO X pins σ H s)(g:Ep H a y o)(ry:gW y u)(h:∀s',dO X pins σ H s'->Q (.bool (!o.isSome)) s'):b8 (cI X.prog X.w) A (jh .NotIn u (.ref a)) Q E s:=by
 rcases g with⟨dh,k,e,ey,l⟩|⟨dh,k,b,e,ey,eb,l⟩
 ·subst ey
  obtain⟨z,hd,vs,KR,dd⟩:=Q7 I.dz e
  refine wpAny_notIn_of (Q6 ry) hd dd.mapOf ?_
  rw[<-(KR.val k).Ak,<-l]
  exact h _ (I.tok _)
 ·subst ey
  cases(show u=dI b from ry)
  obtain⟨z,hd,xs,KR,dd⟩:=Q8 I.dz e
  refine wpAny_notIn_heap (BW hu) (KQ I.dz eb) hd dd ?_
  have q:=(KR.val k).Ak
  rw[tV]at q
  rw[<-q,<-l]
  exact h _ (I.tok _)
theorem OS{h':cY}{t':Nat}{ob:HO}(I:dO X pins σ H s)(mu:Mut (H a))(hs:Jh a s.heap h')(he:∃q,h'.get? a=some q)(new:kP X.prog X.w (upd H a ob) h' a ob):dO X pins σ (upd H a ob) {s with heap:=h',toks:=t'}:=
 I.write (x:=a) (e:=a) mu (.inl rfl) (fun b q hb z=>(hs.2 b hb).trans z) he new
theorem aei{P:bD}{w:cC}{H':Hp}{h':cY}{dh:List (yp×V)}{vs:List (yp×ao)}(z:dh.length<=aK)(hd:(a==nX)=false)(KR:KV dh vs)(dd:h'.DictOf (pW P w) a vs):kP P w H' h' a (.dK dh):=⟨z,hd,vs,KR,dd⟩
theorem WD{H':Hp}{Q:Unit->aN->Prop}(hu:A.units+1<qD)(I:dO X pins σ H s)(g:WB H a y v H')(ry:gW y u)(rv:gW v r)(h:∀s',dO X pins σ H' s'->Q () s'):b8 (cI X.prog X.w) A (setItem (.ref a) u r) Q E s:=by
 rcases g with⟨dh,k,e,ey,l,eH⟩|⟨dh,k,b,e,ey,eb,l,eH⟩
 ·subst ey eH
  obtain⟨z,hd,vs,KR,dd⟩:=af5 I.dz e
  have hz:vs.length<=aK:=by rw[<-KR.length];exact z
  have hl:(Gm dh k v).length<=aK:=by have:=yD dh k v;omega
  refine wpAny_setItem_pairs (hsz:=hz) (Q6 ry) dd fun h' dd' hs=>h _ ?_
  have he:∃q,h'.get? a=some q:=let⟨q,_,_,hq,_⟩:=dd';⟨q,hq⟩
  exact OS I (by rw[e];exact yZ) hs he (aei hl hd (KR.put k rv) dd')
 ·subst ey eH
  cases(show u=dI b from ry)
  obtain⟨z,hd,xs,KR,dd⟩:=af6 I.dz e
  have hz:xs.length<=aK:=by rw[<-Ov KR];exact z
  have hl:(Gm dh k v).length<=aK:=by have:=yD dh k v;omega
  refine wpAny_setItem_heap (hsz:=hz) (BW hu) (KQ I.dz eb) dd fun h' dd' hs=>h _ ?_
  obtain⟨q,es,ep,hq,h2,h3,h4,_,h5⟩:=dd'
  refine OS I (by rw[e];exact yZ) hs ⟨q,hq⟩ ⟨hl,hd,_,(KR.put k eb rv).keeps fun c ys ec=>?_,q,es,ep,hq,h2,h3,h4,h5⟩
  rw[bY (afz ec e (fun z=>nomatch z))]
  exact ec
end
def aek(i:fK):Prop:=∀ov iv,Qz i false ov iv=operate [ov,iv] (Jg ov iv)
theorem VD{prog:bD}{w:cC}{A:eG}{E:ao->aN->Prop}{s:aN}{env:Ou}{value Gh:fK}{pos:AB}{T id:String}{Q:ao->aN->Prop}(hl:typeLookup (.type T) "__getitem__"=pure (some (.builtin id)))(hs:aek Gh)(h:b8 (cI prog w) A (eval value env) (fun o s₁=>b8 (cI prog w) A (eval Gh env) (fun i s₂=>s₂.TypeIs o T/\b8 (cI prog w) A (Jg o i) Q E s₂) E s₁) E s):b8 (cI prog w) A (eval (.Subscript value Gh pos) env) Q E s:=by
 refine Subscript_ (i9 h (fun o s₁ h₁=>i9 h₁ (fun i s₂ h₂=>?_) fun _ _ x=>x) fun _ _ x=>x)
 obtain⟨hT,h₂⟩:=h₂
 unfold XI
 refine aP ?_
 rw[getitemInPython_of_ne hT.not_modules]
 refine aP (F7 hT hl ?_)
 have fin:b8 (cI prog w) A (Qz Gh false o i) (fun r s₃=>b8 (cI prog w) A (letTemporaryGo value o r>>=fun _=>pure r) Q E s₃) E s₂:=by
  rw[hs o i]
  exact wpAny_operating (i9 h₂ (fun r s₃ h₃=>aP (wpAny_letTemporaryGo (bR h₃))) fun _ _ x=>x)
 first
  |exact bR (aP fin)
  |exact aP (bR (aP fin))
  |exact aP fin
theorem Q9{X:Cx}{pins:List (ak×mC)}{σ:St}{H:Hp}{s:aN}{a:ak}{y:V}{o:Option V}(I:dO X pins σ H s)(g:Ep H a y o):s.TypeIs (.ref a) "dict":=by
 rcases g with⟨dh,k,e,_,_⟩|⟨dh,k,b,e,_,_,_⟩
 ·obtain⟨_,_,vs,_,dd⟩:=Q7 I.dz e
  exact dd.typeIs
 ·obtain⟨_,_,xs,_,dd⟩:=Q8 I.dz e
  exact dd.typeIs
def af7(td ty:TE):TE:=fun σ H Q=>td σ H fun x H1=>ty σ H1 fun y H2=>∃a v,x=.ref a/\Ep H2 a y (some v)/\Q v H2
def aja(ty td:TE):TE:=fun σ H Q=>ty σ H fun y H1=>td σ H1 fun x H2=>∃a o,x=.ref a/\Ep H2 a y o/\Q (.bl o.isSome) H2
def abM(ty td:TE):TE:=fun σ H Q=>ty σ H fun y H1=>td σ H1 fun x H2=>∃a o,x=.ref a/\Ep H2 a y o/\Q (.bl (!o.isSome)) H2
def af8(td ty tv:TE):TS:=fun D σ H=>tv σ H fun v H1=>td σ H1 fun x H2=>ty σ H2 fun y H3=>∃a H4,x=.ref a/\WB H3 a y v H4/\D.nx σ H4
section
variable{X:Cx}{o i e value:fK}{pos AV Gd:AB}{td ty tv:TE}
theorem VE(hu:X.A.units+1<qD)(ho:PE X o td)(hi:PE X i ty)(hs:aek i):PE X (.Subscript o i pos) (af7 td ty):=by
 intro pins s σ H Q I h
 refine VD Mw.lookup hs (jw (ho pins s σ H _ I h) fun u s1⟨x,H1,I1,rx,q1⟩=>jw (hi pins s1 σ H1 _ I1 q1) fun iv s2⟨y,H2,I2,ry,a,v,ex,g,q2⟩=>?_)
 subst ex
 obtain rfl:u=dI a:=rx
 exact⟨Q9 I2 g,WC hu I2 g ry fun w' s3 I3 rw'=>⟨v,H2,I3,rw',q2⟩⟩
theorem Y6(hu:X.A.units+1<qD)(hi:PE X i ty)(ho:PE X o td):PC X .In i o (aja ty td):=by
 intro pins s σ H Q I h
 refine jw (hi pins s σ H _ I h) fun iv s1⟨y,H1,I1,ry,q1⟩=>jw (ho pins s1 σ H1 _ I1 q1) fun u s2⟨x,H2,I2,rx,a,ov,ex,g,q2⟩=>?_
 subst ex
 obtain rfl:u=dI a:=rx
 exact ai' hu I2 g ry fun s3 I3=>⟨.bl ov.isSome,H2,I3,rfl,q2⟩
theorem WE(hu:X.A.units+1<qD)(hi:PE X i ty)(ho:PE X o td):PC X .NotIn i o (abM ty td):=by
 intro pins s σ H Q I h
 refine jw (hi pins s σ H _ I h) fun iv s1⟨y,H1,I1,ry,q1⟩=>jw (ho pins s1 σ H1 _ I1 q1) fun u s2⟨x,H2,I2,rx,a,ov,ex,g,q2⟩=>?_
 subst ex
 obtain rfl:u=dI a:=rx
 exact abL hu I2 g ry fun s3 I3=>⟨.bl (!ov.isSome),H2,I3,rfl,q2⟩
theorem VF(hu:X.A.units+1<qD)(ho:PE X o td)(hi:PE X i ty)(hv:PE X value tv)(hs:AL value (some (.Subscript o i AV)) pos.line X.env=pure false):PS X (.Assign [.Subscript o i AV] value pos) (af8 td ty tv):=by
 intro pins s σ H D I h
 refine aa0 (jw (hv pins s σ H _ I h) fun r s1⟨v,H1,I1,rv,q1⟩=>jw (ho pins s1 σ H1 _ I1 q1) fun u s2⟨x,H2,I2,rx,q2⟩=>jw (hi pins s2 σ H2 _ I2 q2) fun iv s3⟨y,H3,I3,ry,a,H4,ex,g,q3⟩=>?_) hs
 subst ex
 obtain rfl:u=dI a:=rx
 exact WD hu I3 g ry rv fun s4 I4=>⟨σ,H4,I4,q3⟩
end
theorem Y7{P:bD}{w:cC}{H:Hp}(h:cY)(hb:nX<h.objs.size):kP P w H (h.push {cls:=.type "dict",data:=.dict #[]}) h.objs.size (.dK []):=
 ⟨bE _,dU.mpr (iG (d8 hb)),[],.nil,Heap.DictOf.new h⟩
def ael:TE:=fun _ H Q=>∀p,H p=none->Q (.ref p) (upd H p (.dK []))
section
variable{X:Cx}{pos:AB}
theorem Q_:PE X (.Dict [] [] pos) ael:=fun pins s σ H Q I h=>
 wpAny_Dict_empty ⟨.ref s.heap.objs.size,_,I.laid (a:=s.heap.objs.size) (o:=.dK []) (t':=s.toks) (fun _ _ q=>bh _ q) (aV _) (Y7 s.heap I.big),rfl,h _ (I.dz.fresh (aV _))⟩
end
theorem KS:r8 "reversed"=some (.type "reversed"):=by decide+kernel
section
variable{X:Cx}{pins:List (ak×mC)}{σ:St}{H:Hp}{s:aN}{h':cY}
theorem dO.VG{t':Nat}{ch:List ak}(I:dO X pins σ H s)(k:∀b o,b∉ch->s.heap.get? b=some o->h'.get? b=some o)(hf:∀b∈ch,Ga X pins H b):dO X pins σ H {s with heap:=h',toks:=t'}:=by
 have nit:∀b u,H b=some u->b∉ch:=fun b u e z=>by
  have q:=(hf b z).1
  rw[q]at e;cases e
 refine I.step (g':=s.gens) (d':=s.drawn) (ch:=ch) (fun b hb=>⟨(hf b hb).2.2.2.1,(hf b hb).2.1,(hf b hb).2.2.2.2.1,(hf b hb).2.2.2.2.2⟩) (fun b o _ _ hc e _=>k b o hc e) (fun b o _ _ hc e _=>⟨o.slots,k b o hc e⟩)
  (fun _ _ _ _ n=>n) (fun b o hc e=>⟨o,k b o hc e⟩) (fun _ _ e=>e) (fun _ _ _ e=>e) (fun b ps e=>⟨#[],by rw[e];simp⟩) (fun m hm=>?_) (fun b u e=>?_) I.bare
 ·obtain⟨o,es,ep,ho,r⟩:=hm
  exact⟨o,es,ep,k _ o (fun z=>(hf _ z).2.1 rfl) ho,r⟩
 ·refine(I.dz b u e).nZ (fun c v hc q=>k c v ?_ q) (fun _ q=>q) fun _ _ q=>q
  rcases hc with z|z
  ·rw[z];exact nit b u e
  ·exact nit c _ z
theorem dO.Hz{t':Nat}{ch:List ak}{T:ak}{ob:HO}(I:dO X pins σ H s)(k:∀b o,b∉ch->s.heap.get? b=some o->h'.get? b=some o)(hf:∀b∈ch,Ga X pins H b)(hT:s.heap.objs.size<=T)(new:kP X.prog X.w (upd H T ob) h' T ob):dO X pins σ (upd H T ob) {s with heap:=h',toks:=t'}:=by
 have hn:H T=none:=I.dz.fresh hT
 have nit:∀b u,H b=some u->b∉ch:=fun b u e z=>by
  have q:=(hf b z).1
  rw[q]at e;cases e
 refine I.step (g':=s.gens) (d':=s.drawn) (ch:=ch) (fun b hb=>⟨(hf b hb).2.2.2.1,(hf b hb).2.1,(hf b hb).2.2.2.2.1,(hf b hb).2.2.2.2.2⟩) (fun b o _ _ hc e _=>k b o hc e) (fun b o _ _ hc e _=>⟨o.slots,k b o hc e⟩)
  (fun b o _ e n=>?_) (fun b o hc e=>⟨o,k b o hc e⟩) (fun b xs e=>?_) (fun b o u e=>?_) (fun b ps e=>⟨#[],?_⟩) (fun m hm=>?_) (fun b u e=>?_) I.bare
 ·rw[bY (d8 (dw (bU e) hT))];exact n
 ·rw[bY (cW e hn)];exact e
 ·rw[bY (cW e hn)];exact e
 ·rw[bY (cW e hn),e];simp
 ·obtain⟨o,es,ep,ho,r⟩:=hm
  exact⟨o,es,ep,k _ o (fun z=>(hf _ z).2.1 rfl) ho,r⟩
 ·by_cases hb:b=T
  ·subst hb
   rw[aE]at e
   cases e
   exact new
  ·rw[bY hb]at e
   refine(I.dz b u e).nZ (fun c v hc q=>k c v ?_ q) (fun c q=>by rw[bY (cW q hn)];exact q) fun c xs q=>by rw[bY (cW q hn)];exact q
   rcases hc with z|z
   ·rw[z];exact nit b u e
   ·exact nit c _ z
end
section
variable{X:Cx}
theorem Y8{tg:fK}{pins:List (ak×mC)}{σ:St}{H:Hp}{s:aN}{R:It->Hp->Prop}{J:It}{tn:Nat->cY->Prop}{tk:Nat}(I:dO X pins σ H s)(o:mC)(T:OF X.prog X.w X.K tg J [s.heap.objs.size] s.heap.objs.size tn)(st:tn 0 (s.heap.push o))(q:R J H):PIE X pins σ tg R (.ref s.heap.objs.size) {s with heap:=s.heap.push o,toks:=tk}:=by
 refine⟨s.heap.objs.size,[s.heap.objs.size],tn,J,H,rfl,I.kept fun b ob e=>bh _ e,T,st,fun b hb=>?_,q⟩
 have e:b=s.heap.objs.size:=by simpa using hb
 subst e
 exact I.QO (aV _) (I.dz.fresh (aV _))
end
def Itc(lo c:Int)(n:Nat):It:=⟨fun i _=>i<n,fun i H x H'=>H'=H/\x=.int (lo+(i:Nat)*c),fun i _=>n<=i⟩
theorem Ra{P:bD}{w:cC}{K:ah}{tg:fK}(it:ak)(lo c:Int)(n:Nat):OF P w K tg (Itc lo c n) [it] it (fun i h=>Qw h it (lo+(i:Nat)*c) ((n:Int)-(i:Nat)) c) where
 mem:=by simp
 obj:=fun i h st b hb=>by
  have e:b=it:=by simpa using hb
  subst e
  exact⟨_,st,fun v z=>nomatch z⟩
 keep:=fun i h h' st k=>k it (by simp) _ st
 item:=by
  intro X hP hw hK hc i pins s σ H E I hf st hg
  subst hP hw hK
  obtain⟨f0,f1,f2,f3,f4,f5⟩:=hf it (by simp)
  have W:=Walks.range (prog:=X.prog) (w:=X.w) (I.ok.hd hc) it lo c n
  refine W.item i s _ _ hg st fun v h' tk hv J8 kk=>?_
  obtain⟨t,rfl⟩:=hv
  have I1:dO X pins σ H {s with heap:=h',toks:=tk}:=I.turned (fun b o hb e=>kk b o (by simpa using hb) e) f0 f1 f3 f4 f5
  exact⟨_,rfl,Vr (s:={s with heap:=h',toks:=tk}) (n:="range_iterator") J8 rfl rfl (by decide) ⟨.int (lo+(i:Nat)*c),H,I1,⟨t,rfl⟩,⟨rfl,rfl⟩,J8,fun b hb=>(hf b hb).1⟩⟩
 done:=by
  intro X hP hw hK hc i pins s σ H E I hf st hg
  subst hP hw hK
  obtain⟨f0,f1,f2,f3,f4,f5⟩:=hf it (by simp)
  exact aaV (I.ok.hd hc) st (by have:n<=i:=hg;omega) fun h' eb=>⟨rfl,I.turned (t':=s.toks) (fun b o hb e=>eb b o hb e) f0 f1 f3 f4 f5⟩
 self:=fun A i s Q E st h=>aaW st h
def RgC(i j c:Int)(n:Nat):Prop:=c≠0/\c.natAbs<1073741824/\Builtin.Range.small i j c=true/\yj i j c=n
theorem RgC.neg{i j:Int}(ha:-(2^62)<=i)(ha':i<2^62)(hb:-(2^62)<=j)(Jr:j<2^62):RgC i j (-1) (i-j).toNat:=
 ⟨by decide,by decide,PySem.W.small_down ha ha' hb Jr,PySem.W.rangeSize_downNat i j⟩
def af'(ta:TA):TI:=fun σ H R=>ta σ H fun vs H1=>∃(i j c:Int)(n:Nat),vs=[.int i,.int j,.int c]/\RgC i j c n/\R (Itc i c n) H1
section
variable{X:Cx}{tg:fK}
theorem NP{a b c:fK}{ta:TA}{p pos:AB}(hg:Gl X "range")(hm:X.mg "range"=none)(ha:PA X [a,b,c] ta)
  (hs:b_ [a,b,c] X.env=(false,eval a X.env)::b_ [b,c] X.env:=by rfl)(Eo:(jI pos (b_ [b,c] X.env)).any (·.1)=false:=by rfl):
  PI X tg (.Call (.Name "range" p) [a,b,c] [] pos) (af' ta):=by
 intro pins s σ H R I h
 refine Call_ (AU I hg hm boot_range (iH (jw (ha pos pins s σ H _ I h) fun us s1⟨vs,H1,I1,r1,q1⟩=>?_) hs Eo))
 obtain⟨i,j,k,n,e,⟨c0,c1,c2,c3⟩,q⟩:=q1
 subst e
 cases r1 with
 |cons r rr=>
  cases rr with
  |cons r' rr=>
   cases rr with
   |cons r'' rr=>
    cases rr
    obtain⟨t,rfl⟩:=r
    obtain⟨t',rfl⟩:=r'
    obtain⟨t'',rfl⟩:=r''
    refine call_range_3 c0 ?_ (.inl (PyProof.noPylong_small c1))
    refine wpAny_pyIter_range (adG ..) c2 ?_
    have I2:dO X pins σ H1 {s1 with heap:=s1.heap.push {cls:=.type "range",data:=.fields #[.int i t,.int j t',.int k t'']}}:=I1.kept (t':=s1.toks) fun b o e=>bh _ e
    refine Y8 (tk:=s1.toks) I2 _ (Ra _ i k n) ?_ q
    have e1:i+((0:Nat):Int)*k=i:=by simp
    have e2:(n:Int)-((0:Nat):Int)=yj i j k:=by rw[c3];simp
    show Qw _ _ (i+((0:Nat):Int)*k) ((n:Int)-((0:Nat):Int)) k
    rw[e1,e2]
    exact cF _ rfl
end
theorem KU{lo c:Int}{n:Nat}{g:TG}{tb:TS}{D:KG}{σ:St}{H:Hp}(Pv:Nat->St->Hp->Prop)(h0:Pv 0 σ H)(hs:∀i σ H,i<n->Pv i σ H->g (.int (lo+(i:Nat)*c)) σ H fun σ2 H2=>tb {D with nx:=Pv (i+1),ct:=Pv (i+1),bk:=D.nx} σ2 H2)(hd:∀σ H,Pv n σ H->D.nx σ H):∃W:Nat->Nat->St->Hp->Prop,(∃m,W 0 m σ H)/\∀i m σ H,W i m σ H->((Itc lo c n).stop i H/\D.nx σ H)\/((Itc lo c n).go i H/\∃N:St->Hp->Prop,(∀σ' H',N σ' H'->∃m',m'<m/\W (i+1) m' σ' H')/\∀x H',(Itc lo c n).Qi i H x H'->g x σ H' fun σ2 H2=>tb {D with nx:=N,ct:=N,bk:=D.nx} σ2 H2):=by
 refine⟨fun i m σ H=>m=n-i/\i<=n/\Pv i σ H,⟨n,by simp,bE _,h0⟩,?_⟩
 rintro i m σ H ⟨rfl,hi,p⟩
 by_cases wD:i<n
 ·refine .inr ⟨wD,Pv (i+1),fun σ' H' p'=>⟨n-(i+1),by omega,rfl,wD,p'⟩,fun x H' y=>?_⟩
  obtain⟨e,y⟩:=y
  subst e y
  exact hs i σ _ wD p
 ·have e:i=n:=by omega
  subst e
  exact .inl ⟨aV _,hd σ H p⟩
def Itv(K:ah)(a:ak)(n:Nat):It:=
 ⟨fun i H=>i<n/\∃(xs:List V)(x:V),cG K H a xs/\xs[n-1-i]?=some x,fun i H x H'=>H'=H/\∀xs,cG K H a xs->xs[n-1-i]?=some x,fun i _=>n<=i⟩
theorem Y9{P:bD}{w:cC}{K:ah}{tg:fK}(a it:ak)(n:Nat):OF P w K tg (Itv K a n) [it] it (fun i h=>i<=n/\h.IsRevIter it a ((n:Int)-1-(i:Nat))) where
 mem:=by simp
 obj:=fun i h st b hb=>by
  have e:b=it:=by simpa using hb
  subst e
  obtain⟨_,o,e,c,d⟩:=st
  exact⟨o,e,fun v z=>by rw[d]at z;cases z⟩
 keep:=fun i h h' st k=>⟨st.1,st.2.at fun o e=>k it (by simp) o e⟩
 item:=by
  intro X hP hw hK hc i pins s σ H E I hf st hg
  subst hP hw hK
  obtain⟨hin,xs,x,hq,hx⟩:=hg
  obtain⟨fi,rv,p,hz⟩:=I.list hq
  obtain⟨u,hu,ru⟩:=rv.get hx
  obtain⟨f0,f1,f2,f3,f4,f5⟩:=hf it (by simp)
  obtain⟨_,hit⟩:=st
  have e1:(n:Int)-1-((i:Nat):Int)=((n-1-i:Nat):Int):=by omega
  rw[e1]at hit
  refine wpAny_pyNext_rev_item hit p.isList (x:=u) (by simpa using hu) fun h' J8 sb=>?_
  have e2:((n-1-i:Nat):Int)-1=(n:Int)-1-((i+1:Nat):Int):=by omega
  rw[e2]at J8
  have I1:dO X pins σ H {s with heap:=h'}:=I.turned (t':=s.toks) (fun b o hb e=>(sb.2 b hb).trans e) f0 f1 f3 f4 f5
  obtain⟨o,e,c,d⟩:=id J8
  exact⟨u,rfl,Vr (s:={s with heap:=h'}) e c d (by decide) ⟨x,H,I1,ru,⟨rfl,fun ys hy=>by rw[I.Ag hy hq];exact hx⟩,⟨hin,J8⟩,fun b hb=>(hf b hb).1⟩⟩
 done:=by
  intro X hP hw hK hc i pins s σ H E I hf st hg
  subst hP hw hK
  obtain⟨f0,f1,f2,f3,f4,f5⟩:=hf it (by simp)
  obtain⟨hin,hit⟩:=st
  have hge:n<=i:=hg
  have e1:(n:Int)-1-((i:Nat):Int)=-1:=by omega
  rw[e1]at hit
  exact wpAny_pyNext_rev_end (I.ok.hd hc) hit fun h' eb=>⟨rfl,I.turned (t':=s.toks) (fun b o hb e=>eb b o hb e) f0 f1 f3 f4 f5⟩
 self:=fun A i s Q E st h=>acN st.2 h
def ajb(K:ah)(ta:TA):TI:=fun σ H R=>ta σ H fun vs H1=>∃(a:ak)(xs:List V),vs=[.ref a]/\cG K H1 a xs/\R (Itv K a xs.length) H1
section
variable{X:Cx}{tg:fK}
theorem Rb{e:fK}{ta:TA}{p pos:AB}(hg:Gl X "reversed")(hm:X.mg "reversed"=none)(ha:PA X [e] ta)(hs:b_ [e] X.env=[(false,eval e X.env)]:=by rfl):PI X tg (.Call (.Name "reversed" p) [e] [] pos) (ajb X.K ta):=by
 intro pins s σ H R I h
 refine Call_ (AU I hg hm KS (iH (jw (ha pos pins s σ H _ I h) fun us s1⟨vs,H1,I1,r1,q1⟩=>?_) hs rfl))
 obtain⟨a,xs,e,hq,q⟩:=q1
 subst e
 cases r1 with
 |cons r rr=>
  cases rr
  cases r
  obtain⟨fi,rv,p',hz⟩:=I1.list hq
  have hl:=rv.length
  have e1:((fi.toArray.size:Nat):Int)-1=(xs.length:Int)-1-((0:Nat):Int):=by simp only[bw];omega
  refine call_reversed_list p'.isList (acN (l:=a) (i:=((fi.toArray.size:Nat):Int)-1) ⟨_,cF _ rfl,rfl,rfl⟩ ?_)
  refine Y8 (tk:=s1.toks) I1 _ (Y9 a _ xs.length) ⟨bE _,?_⟩ q
  rw[<-e1]
  exact⟨_,cF _ rfl,rfl,rfl⟩
end
def Ite(K:ah)(a:ak):It:=
 ⟨fun i H=>∃(xs:List V)(x:V),cG K H a xs/\xs[i]?=some x,fun i H v H'=>∃T x,v=.ref T/\H T=none/\H'=upd H T (.tup [.int (i:Nat),x])/\∀xs,cG K H a xs->xs[i]?=some x,fun i H=>∃xs:List V,cG K H a xs/\xs.length<=i⟩
theorem WG{P:bD}{w:cC}{K:ah}{KW:List fK}{kk:Nat}{Gd:AB}(a e it:ak):OF P w K (.Tuple KW kk Gd) (Ite K a) [e,it] e (fun i h=>(∃old,IsEnum h e it ((i:Nat):Int) old)/\h.IsListIter it a i/\e≠it) where
 mem:=by simp
 obj:=fun i h st b hb=>by
  obtain⟨⟨old,he⟩,⟨o,ho,hc,hd⟩,_⟩:=st
  have e':b=e\/b=it:=by simpa using hb
  rcases e' with z|z
  ·rw[z];exact⟨_,he,fun v q=>nomatch q⟩
  ·rw[z];exact⟨o,ho,fun v q=>by rw[hd]at q;cases q⟩
 keep:=fun i h h' st k=>let⟨⟨old,he⟩,hi,qI⟩:=st;⟨⟨old,k e (by simp) _ he⟩,hi.at fun o q=>k it (by simp) o q,qI⟩
 item:=by
  intro X hP hw hK hc i pins s σ H E I hf st hg
  subst hP hw hK
  obtain⟨⟨old,he⟩,hit,qI⟩:=st
  obtain⟨xs,x,hq,hx⟩:=hg
  obtain⟨fi,rv,p,hz⟩:=I.list hq
  obtain⟨u,hu,ru⟩:=rv.get hx
  have hel:e<s.heap.objs.size:=bU he
  have hil:it<s.heap.objs.size:=by obtain⟨_,q,_⟩:=hit;exact bU q
  refine wpAny_pyNext_enum_item he hit p.isList (x:=u) (by simpa using hu) qI fun h' ho aem hT hsz hk=>?_
  refine⟨_,rfl,Vh (s:={s with heap:=h',toks:=s.toks+1}) ho fun XS he' sb=>?_⟩
  have hT2:XS.get? s.heap.objs.size=some {cls:=.type "tuple",data:=.seq #[.int i s.toks,u]}:=(sb.2 _ (JW hel)).trans hT
  have new:kP X.prog X.w (upd H s.heap.objs.size (.tup [.int (i:Nat),x])) XS s.heap.objs.size (.tup [.int (i:Nat),x]):=
   ⟨by show 2<=aK;decide,[.int i s.toks,u],.cons ⟨_,rfl⟩ (.cons ru .nil),⟨_,hT2,rfl,_,rfl⟩⟩
  have I1:dO X pins σ (upd H s.heap.objs.size (.tup [.int (i:Nat),x])) {s with heap:=XS,toks:=s.toks+1}:=
   I.Hz (ch:=[e,it]) (fun b ob hb q=>(sb.2 b (fun z=>hb (by simp[z]))).trans (hk b ob (fun z=>hb (by simp[z])) (fun z=>hb (by simp[z])) q)) hf (aV _) new
  refine⟨.ref s.heap.objs.size,_,I1,rfl,⟨_,x,rfl,I.dz.fresh (aV _),rfl,fun ys hy=>by rw[I.Ag hy hq];exact hx⟩,⟨⟨u,?_⟩,aem.at fun o q=>(sb.2 it (iG qI)).trans q,qI⟩,fun b hb=>?_⟩
  ·have e1:((i+1:Nat):Int)=(i:Int)+1:=by omega
   rw[e1];exact he'
  ·have Jr:b<s.heap.objs.size:=by
    have e':b=e\/b=it:=by simpa using hb
    rcases e' with z|z
    ·rw[z];exact hel
    ·rw[z];exact hil
   rw[bY (d8 Jr)]
   exact(hf b hb).1
 done:=by
  intro X hP hw hK hc i pins s σ H E I hf st hg
  subst hP hw hK
  obtain⟨⟨old,he⟩,hit,qI⟩:=st
  obtain⟨xs,hq,hx⟩:=hg
  obtain⟨fi,rv,p,hz⟩:=I.list hq
  obtain⟨f0,f1,f2,f3,f4,f5⟩:=hf it (by simp)
  have hl:=rv.length
  exact wpAny_pyNext_enum_end (I.ok.hd hc) he hit p.isList (by simp;omega) fun h' eb=>⟨rfl,I.turned (t':=s.toks) (fun b o hb q=>eb b o hb q) f0 f1 f3 f4 f5⟩
 self:=fun A i s Q E st h=>let⟨⟨_,he⟩,_⟩:=st;Cv he h
def agf(K:ah)(ta:TA):TI:=fun σ H R=>ta σ H fun vs H1=>∃a xs,vs=[.ref a]/\cG K H1 a xs/\R (Ite K a) H1
theorem Ke{X:Cx}{e:fK}{ta:TA}{p pos Gd:AB}{KW:List fK}{kk:Nat}(hg:Gl X "enumerate")(hm:X.mg "enumerate"=none)(ha:PA X [e] ta)(hs:b_ [e] X.env=[(false,eval e X.env)]:=by rfl):
  PI X (.Tuple KW kk Gd) (.Call (.Name "enumerate" p) [e] [] pos) (agf X.K ta):=by
 intro pins s σ H R I h
 refine Call_ (AU I hg hm boot_enumerate (iH (jw (ha pos pins s σ H _ I h) fun us s1⟨vs,H1,I1,r1,q1⟩=>?_) hs rfl))
 obtain⟨a,xs,ex,hq,q⟩:=q1
 subst ex
 cases r1 with
 |cons r rr=>
  cases rr
  cases r
  obtain⟨fi,rv,p',hz⟩:=I1.list hq
  refine call_enumerate_list p'.isList fun h' he hit hsz hk=>Cv he ?_
  have I2:dO X pins σ H1 {s1 with heap:=h'}:=I1.kept (t':=s1.toks) hk
  refine⟨s1.heap.objs.size+1,[s1.heap.objs.size+1,s1.heap.objs.size],_,_,H1,rfl,I2,WG a (s1.heap.objs.size+1) s1.heap.objs.size,⟨⟨.none,he⟩,hit,acO _⟩,fun b hb=>?_,q⟩
  have e':b=s1.heap.objs.size+1\/b=s1.heap.objs.size:=by simpa using hb
  have WH:s1.heap.objs.size<=b:=by
   rcases e' with z|z
   ·rw[z];exact qN _ _
   ·rw[z];exact aV _
  exact I1.QO WH (I1.dz.fresh WH)
theorem WI:r8 "zip"=some (.type "zip"):=by decide+kernel
def Y_(K:ah)(a b:ak):It:=
 ⟨fun i H=>∃(xs ys:List V)(x y:V),cG K H a xs/\cG K H b ys/\xs[i]?=some x/\ys[i]?=some y,
  fun i H v H'=>∃T x y,v=.ref T/\H T=none/\H'=upd H T (.tup [x,y])/\(∀xs,cG K H a xs->xs[i]?=some x)/\∀ys,cG K H b ys->ys[i]?=some y,
  fun i H=>∃xs ys:List V,cG K H a xs/\cG K H b ys/\(xs.length<=i\/ys.length<=i)⟩
theorem Za{P:bD}{w:cC}{K:ah}{KW:List fK}{kk:Nat}{Gd:AB}{a b z TI TO i1 i2:ak}(D:ZipApart z TI TO i1 i2 a b):OF P w K (.Tuple KW kk Gd) (Y_ K a b) [z,TI,TO,i1,i2] z (fun i h=>IsZip h z TI TO .none/\IsPair h TI (.ref i1) (.ref i2)/\(∃x y,IsPair h TO x y)/\h.IsListIter i1 a i/\h.IsListIter i2 b i) where
 mem:=by simp
 obj:=fun i h st c hc=>by
  obtain⟨hz,Zb,⟨x,y,hTO⟩,⟨o1,e1,_,d1⟩,⟨o2,e2,_,d2⟩⟩:=st
  have e':c=z\/c=TI\/c=TO\/c=i1\/c=i2:=by simpa using hc
  rcases e' with q|q|q|q|q
  ·rw[q];exact⟨_,hz,fun v q=>nomatch q⟩
  ·rw[q];exact⟨_,Zb,fun v q=>nomatch q⟩
  ·rw[q];exact⟨_,hTO,fun v q=>nomatch q⟩
  ·rw[q];exact⟨o1,e1,fun v q=>by rw[d1]at q;cases q⟩
  ·rw[q];exact⟨o2,e2,fun v q=>by rw[d2]at q;cases q⟩
 keep:=fun i h h' st k=>by
  obtain⟨hz,Zb,⟨x,y,hTO⟩,h1,h2⟩:=st
  exact⟨k z (by simp) _ hz,k TI (by simp) _ Zb,⟨x,y,k TO (by simp) _ hTO⟩,h1.at fun o q=>k i1 (by simp) o q,h2.at fun o q=>k i2 (by simp) o q⟩
 item:=by
  intro X hP hw hK hc i pins s σ H E I hf st hg
  subst hP hw hK
  obtain⟨hz,Zb,⟨x0,y0,hTO⟩,h1,h2⟩:=st
  obtain⟨xs,ys,x,y,hqx,hqy,hx,hy⟩:=hg
  obtain⟨fi,rv,p,_⟩:=I.list hqx
  obtain⟨Gf,rv2,p2,_⟩:=I.list hqy
  obtain⟨u,hu,ru⟩:=rv.get hx
  obtain⟨u2,hu2,ru2⟩:=rv2.get hy
  have hzl:z<s.heap.objs.size:=bU hz
  refine wpAny_pyNext_zip_item D hz Zb hTO h1 h2 p.isList p2.isList (x:=u) (y:=u2) (by simpa using hu) (by simpa using hu2) fun h' z' TO' h1' h2' hT hsz hk=>?_
  refine⟨_,rfl,wpAny_letOwnedTupleGo_zip (s:={s with heap:=h'}) z' fun XS z'' sb=>?_⟩
  have hT2:XS.get? s.heap.objs.size=some {cls:=.type "tuple",data:=.seq #[u,u2]}:=(sb.2 _ (JW hzl)).trans hT
  have new:kP X.prog X.w (upd H s.heap.objs.size (.tup [x,y])) XS s.heap.objs.size (.tup [x,y]):=
   ⟨by show 2<=aK;decide,[u,u2],.cons ru (.cons ru2 .nil),⟨_,hT2,rfl,_,rfl⟩⟩
  have I1:dO X pins σ (upd H s.heap.objs.size (.tup [x,y])) {s with heap:=XS}:=
   I.Hz (t':=s.toks) (ch:=[z,TI,TO,i1,i2]) (fun c o hb q=>(sb.2 c (fun q'=>hb (by simp[q']))).trans (hk c o (fun q'=>hb (by simp[q'])) (fun q'=>hb (by simp[q'])) (fun q'=>hb (by simp[q'])) (fun q'=>hb (by simp[q'])) q)) hf (aV _) new
  refine⟨.ref s.heap.objs.size,_,I1,rfl,⟨_,x,y,rfl,I.dz.fresh (aV _),rfl,fun l hl=>by rw[I.Ag hl hqx];exact hx,fun l hl=>by rw[I.Ag hl hqy];exact hy⟩,⟨z'',?_,⟨u,u2,?_⟩,?_,?_⟩,fun c Kf=>?_⟩
  ·exact(sb.2 _ D.TIz).trans (hk _ _ D.TIz D.TITO D.TIi1 D.TIi2 Zb)
  ·exact(sb.2 _ D.TOz).trans TO'
  ·exact h1'.at fun o q=>(sb.2 _ D.i1z).trans q
  ·exact h2'.at fun o q=>(sb.2 _ D.i2z).trans q
  ·have wD:c<s.heap.objs.size:=by
    have e':c=z\/c=TI\/c=TO\/c=i1\/c=i2:=by simpa using Kf
    rcases e' with q|q|q|q|q
    ·rw[q];exact hzl
    ·rw[q];exact bU Zb
    ·rw[q];exact bU hTO
    ·rw[q];obtain⟨_,e1,_⟩:=h1;exact bU e1
    ·rw[q];obtain⟨_,e2,_⟩:=h2;exact bU e2
   rw[bY (d8 wD)]
   exact(hf c Kf).1
 done:=by
  intro X hP hw hK hc i pins s σ H E I hf st hg
  subst hP hw hK
  obtain⟨hz,Zb,⟨x0,y0,hTO⟩,h1,h2⟩:=st
  obtain⟨xs,ys,hqx,hqy,ajd⟩:=hg
  obtain⟨fi,rv,p,_⟩:=I.list hqx
  obtain⟨Gf,rv2,p2,_⟩:=I.list hqy
  have l1:=rv.length
  have l2:=rv2.length
  have he:fi.toArray[i]?=none\/Gf.toArray[i]?=none:=by
   rcases ajd with q|q
   ·exact .inl (by simp;omega)
   ·exact .inr (by simp;omega)
  exact wpAny_pyNext_zip_end (I.ok.hd hc) D hz Zb hTO h1 h2 p.isList p2.isList he fun h' hk=>⟨rfl,I.VG (t':=s.toks) (ch:=[z,TI,TO,i1,i2]) (fun c o hb q=>
   hk c o (fun q'=>hb (by simp[q'])) (fun q'=>hb (by simp[q'])) (fun q'=>hb (by simp[q'])) (fun q'=>hb (by simp[q'])) q) hf⟩
 self:=fun A i s Q E st h=>wpAny_pyIter_zip st.1 h
def aje(K:ah)(ta:TA):TI:=fun σ H R=>ta σ H fun vs H1=>∃a b xs ys,vs=[.ref a,.ref b]/\cG K H1 a xs/\cG K H1 b ys/\R (Y_ K a b) H1
theorem Zc{X:Cx}{e e2:fK}{ta:TA}{p pos Gd:AB}{KW:List fK}{kk:Nat}(hg:Gl X "zip")(hm:X.mg "zip"=none)(ha:PA X [e,e2] ta)
  (hs:b_ [e,e2] X.env=(false,eval e X.env)::b_ [e2] X.env:=by rfl)(Eo:(jI pos (b_ [e2] X.env)).any (·.1)=false:=by rfl):
  PI X (.Tuple KW kk Gd) (.Call (.Name "zip" p) [e,e2] [] pos) (aje X.K ta):=by
 intro pins s σ H R I h
 refine Call_ (AU I hg hm WI (iH (jw (ha pos pins s σ H _ I h) fun us s1⟨vs,H1,I1,r1,q1⟩=>?_) hs Eo))
 obtain⟨a,b,xs,ys,ex,hqx,hqy,q⟩:=q1
 subst ex
 cases r1 with
 |cons r rr=>
  cases rr with
  |cons r' rr=>
   cases rr
   cases r
   cases r'
   obtain⟨fi,rv,p1,_⟩:=I1.list hqx
   obtain⟨Gf,rv2,p2,_⟩:=I1.list hqy
   have la:a<s1.heap.objs.size:=p1.lt
   have lb:b<s1.heap.objs.size:=p2.lt
   refine call_zip_2 p1.isList p2.isList fun h' hz Zb hTO h1 h2 hsz hk=>wpAny_pyIter_zip hz ?_
   have I2:dO X pins σ H1 {s1 with heap:=h'}:=I1.kept (t':=s1.toks) hk
   refine⟨s1.heap.objs.size+4,[s1.heap.objs.size+4,s1.heap.objs.size+2,s1.heap.objs.size+3,s1.heap.objs.size,s1.heap.objs.size+1],_,_,H1,rfl,I2,Za (PySem.W.ktu_apart s1.heap.objs.size a b la lb),⟨hz,Zb,⟨_,_,hTO⟩,h1,h2⟩,fun c Kf=>?_,q⟩
   have e':c=s1.heap.objs.size+4\/c=s1.heap.objs.size+2\/c=s1.heap.objs.size+3\/c=s1.heap.objs.size\/c=s1.heap.objs.size+1:=by simpa using Kf
   have WH:s1.heap.objs.size<=c:=by
    rcases e' with z|z|z|z|z
    ·rw[z];exact qN _ _
    ·rw[z];exact qN _ _
    ·rw[z];exact qN _ _
    ·rw[z];exact aV _
    ·rw[z];exact qN _ _
   exact I1.QO WH (I1.dz.fresh WH)
def fR(s:d9)(j:Nat):d9:=match s with
 |.ClassDef _ _ _ body _ _ _ _ _ _ _=>body.getD j (.Pass ⟨0,0,0,0⟩)
 |_=>.Pass ⟨0,0,0,0⟩
def sF(s:d9):Arguments:=match s with
 |.FunctionDef _ a _ _ _ _ _ _ _ _=>a
 |_=>{posonlyargs:=[],args:=[],vararg:=none,kwonlyargs:=[],kw_defaults:=[],kwarg:=none,defaults:=[]}
def m7(s:d9):List d9:=match s with
 |.FunctionDef _ _ b _ _ _ _ _ _ _=>b
 |_=>[]
def aY(s:d9):tY:=match s with
 |.FunctionDef _ _ _ _ _ _ sc _ _ _=>sc
 |_=>{kind:=.function,names:=[],isGenerator:=false,isCoroutine:=false}
abbrev Rc:XR:=fun _ _ _ _ _ _=>False
abbrev E0:XK:=fun _ _ _=>False
theorem Rf{X:Cx}:CN Rc X E0:=fun _ _ _ _ _ _ _ h=>h.elim
structure Zd(K:ah)(x jg:cM)(st:d9)(f:ak)(fd:iW):Prop where
 ex:∃(oc:ao)(od:Option ak)(kV vH pm:ao)(an:Option ak)(iB ct:ao)(osl:Array (Option ao)),
  fd=jc x jg (sF st) (m7 st) (aY st) .none kV vH pm an iB ct/\K.lookup f=some ⟨oc,od,.func fd,osl⟩/\pR K iB jg=true
 kp:jb K (.ref f)=true
section
variable{P:bD}{w:cC}{K:ah}{mg:cM->Option ao}{base:cY}
theorem Zd.ok{x jg:cM}{st:d9}{f:ak}{fd:iW}{N ps:List cM}{k:Nat}{sp:Sp}(F:Zd K x jg st f fd)(S:bM N ps (aY st))(len:∀vs H Q E,sp vs H Q E->vs.length=ps.length)(Ge:∀(iB:ao)(A:eG)(outer:List Ou)(s:aN)(H:Hp)(vs:List V)(Q:VK)(E:XK),lZ k (A.deeper (DU jg (aY st) s.heap.objs.size f iB))->sp vs H Q E->∃t,SR (OI Rc P w K mg base N jg (aY st) f iB A outer s H E).nox (m7 st) t/\t {nx:=fun _ H'=>Q .jX H',rt:=Q} (start N vs) H):yr P w K mg base Rc (k+1) f fd ps sp:=by
 obtain⟨oc,od,kV,vH,pm,an,iB,ct,osl,rfl,lk,hcd⟩:=F.ex
 refine afT lk hcd S len fun A outer s H vs Q E hr hsp=>?_
 obtain⟨t,h,q⟩:=Ge iB A outer s H vs Q E hr hsp
 exact⟨t,h.nox,q⟩
theorem Zd.binds{x jg:cM}{st:d9}{f:ak}{fd:iW}{ps:List cM}(F:Zd K x jg st f fd)(h:∀(kV vH pm:ao)(an:Option ak)(iB ct:ao)(us:List ao),us.length=ps.length->Vf (jc x jg (sF st) (m7 st) (aY st) .none kV vH pm an iB ct) ⟨us,[]⟩=pure (ps.zip us)):sA K fd ps []:=by
 obtain⟨oc,od,kV,vH,pm,an,iB,ct,osl,rfl,lk,hcd⟩:=F.ex
 exact .all (h kV vH pm an iB ct)
theorem EZ{x jg:cM}{st:d9}{f:ak}{oc:ao}{od an:Option ak}{osl:Array (Option ao)}{kV vH pm iB ct:ao}(l:K.lookup f=some ⟨oc,od,.func (jc x jg (sF st) (m7 st) (aY st) .none kV vH pm an iB ct),osl⟩)(c:pR K iB jg=true)(k:jb K (.ref f)=true):Zd K x jg st f (jc x jg (sF st) (m7 st) (aY st) .none kV vH pm an iB ct):=⟨⟨oc,od,kV,vH,pm,an,iB,ct,osl,rfl,l,c⟩,k⟩
end
section
variable{X:Cx}
theorem pv(i:Nat){x:cM}{pos:AB}(hN:X.N[i]?=some x:=by rfl)(hv:Vis X.env.scope x:=by first|exact bz rfl|exact bB (bz rfl)|exact bB (bB rfl))(hd:(x==("__debug__":cM))=false:=by decide)
  (hcd:(x==("__classdict__":cM))=false:=by decide):PE X (.Name x pos) (adZ i):=ad0 hN hv hd hcd
end
def aQ(H H':Hp):Prop:=∀b o,H b=some o->H' b=some o
theorem aQ.refl(H:Hp):aQ H H:=fun _ _ h=>h
theorem aQ.trans{H H1 H2:Hp}(a:aQ H H1)(b:aQ H1 H2):aQ H H2:=fun c o h=>b c o (a c o h)
theorem aQ.free{H H':Hp}(e:aQ H H'){l:ak}(h:H' l=JZ):H l=JZ:=by
 cases q:H l with
 |none=>rfl
 |some o=>
  rw[e l o q]at h
  cases h
theorem aQ.seq{K:ah}{H H':Hp}{a:ak}{xs:List V}(e:aQ H H')(h:cG K H a xs):cG K H' a xs:=by
 rcases h with(h|⟨o,h⟩)|h
 ·exact .inl (.inl (e _ _ h))
 ·exact .inl (.inr ⟨o,e _ _ h⟩)
 ·exact .inr h
section
variable{κ:Type} [DecidableEq κ]
theorem VH:∀{l:List κ}{k:κ},l.Nodup->¬k∈l->(l++[k]).Nodup
 |[],k,_,_=>by simp
 |a::r,k,h,hk=>by
  obtain⟨h1,h2⟩:=gA.mp h
  show(a::(r++[k])).Nodup
  refine gA.mpr ⟨fun m=>?_,VH h2 fun m=>hk (aW.mpr (bB m))⟩
  rcases aX.mp m with q|q
  ·exact h1 q
  ·exact hk (aW.mpr (bz (bJ.mp q).symm))
end
theorem CV{xs:List V}{z:Int}{j:Nat}{v:V}(e:z=(j:Int))(h:xs[j]?=some v):QV xs z=some v:=by
 rw[e]
 exact abB h
theorem aQ.new{H:Hp}{p:ak}{o:HO}(hn:H p=none):aQ H (upd H p o):=fun b u e=>by
 rw[bY (cW e hn)];exact e
theorem aQ.agi{H H1:Hp}{p:ak}{o:HO}(s:aQ H H1)(hn:H1 p=none):aQ H (upd H1 p o):=s.trans (aQ.new hn)
theorem aQ.write{H H1:Hp}{p:ak}{o:HO}(s:aQ H H1)(hn:H p=none):aQ H (upd H1 p o):=fun b u e=>by
 rw[bY (cW e hn)];exact s b u e
theorem aQ.EF{K:ah}{H H':Hp}{a:ak}{xs:List V}(e:aQ H H')(h:rN K H a xs):rN K H' a xs:=by
 rcases h with(h|⟨o,h⟩)|h
 ·exact .inl (.inl (e _ _ h))
 ·exact .inl (.inr ⟨o,e _ _ h⟩)
 ·exact .inr h
mutual
inductive Dx(K:ah)(H:Hp):V->bf->Prop
 |jX:Dx K H .jX .none
 |bl (b:Bool):Dx K H (.bl b) (.bool b)
 |int (i:Int):Dx K H (.int i) (.int i)
 |lst {a:ak} {xs:List V} {ds:List bf}:H a=some (.lst xs)->bN K H xs ds->Dx K H (.ref a) (.list ds)
 |tup {a:ak} {xs:List V} {ds:List bf}:rN K H a xs->bN K H xs ds->Dx K H (.ref a) (.tuple ds)
inductive bN(K:ah)(H:Hp):List V->List bf->Prop
 |nil:bN K H [] []
 |cons {v:V} {vs:List V} {d:bf} {ds:List bf}:Dx K H v d->bN K H vs ds->bN K H (v::vs) (d::ds)
end
mutual
theorem Dx.dp{K:ah}{H:Hp}:∀{v:V}{d:bf},Dx K H v d->Dp K H v d
 |_,_,.jX=>.jX
 |_,_,.bl b=>.bl b
 |_,_,.int i=>.int i
 |_,_,.lst h a=>.lst (cG.of h) (bN.dp a)
 |_,_,.tup h a=>.tup h (bN.dp a)
theorem bN.dp{K:ah}{H:Hp}:∀{vs:List V}{ds:List bf},bN K H vs ds->KP K H vs ds
 |_,_,.nil=>.nil
 |_,_,.cons h t=>.cons (Dx.dp h) (bN.dp t)
end
mutual
theorem Dx.mono{K:ah}{H H':Hp}(s:aQ H H'):∀{v:V}{d:bf},Dx K H v d->Dx K H' v d
 |_,_,.jX=>.jX
 |_,_,.bl b=>.bl b
 |_,_,.int i=>.int i
 |_,_,.lst h a=>.lst (s _ _ h) (bN.mono s a)
 |_,_,.tup h a=>.tup (s.EF h) (bN.mono s a)
theorem bN.mono{K:ah}{H H':Hp}(s:aQ H H'):∀{vs:List V}{ds:List bf},bN K H vs ds->bN K H' vs ds
 |_,_,.nil=>.nil
 |_,_,.cons h t=>.cons (Dx.mono s h) (bN.mono s t)
end
theorem aQ.dp{K:ah}{H H':Hp}(s:aQ H H'){v:V}{d:bf}(h:Dx K H v d):Dx K H' v d:=Dx.mono s h
theorem aQ.EG{K:ah}{H H':Hp}(s:aQ H H'){v:List V}{d:List bf}(h:bN K H v d):bN K H' v d:=bN.mono s h
theorem bN.length{K:ah}{H:Hp}:∀{vs:List V}{ds:List bf},bN K H vs ds->vs.length=ds.length
 |_,_,.nil=>rfl
 |_,_,.cons _ t=>by rw[br,br,bN.length t]
theorem bN.get{K:ah}{H:Hp}:∀{vs:List V}{ds:List bf}{i:Nat}{v:V},bN K H vs ds->vs[i]?=some v->∃d,ds[i]?=some d/\Dx K H v d
 |_,_,i,v,.nil,e=>by simp at e
 |_,_,0,v,.cons h _,e=>by simp at e;subst e;exact⟨_,rfl,h⟩
 |_,_,i+1,v,.cons _ t,e=>by
  obtain⟨d,h1,h2⟩:=bN.get (i:=i) (v:=v) t (by simpa using e)
  exact⟨d,by simpa using h1,h2⟩
theorem bN.MN{K:ah}{H:Hp}:∀{vs:List V}{ds:List bf}{i:Nat}{d:bf},bN K H vs ds->ds[i]?=some d->∃v,vs[i]?=some v/\Dx K H v d
 |_,_,i,v,.nil,e=>by simp at e
 |_,_,0,v,.cons h _,e=>by simp at e;subst e;exact⟨_,rfl,h⟩
 |_,_,i+1,v,.cons _ t,e=>by
  obtain⟨d,h1,h2⟩:=bN.MN (i:=i) (d:=v) t (by simpa using e)
  exact⟨d,by simpa using h1,h2⟩
theorem bN.append{K:ah}{H:Hp}:∀{vs ws:List V}{ds es:List bf},bN K H vs ds->bN K H ws es->bN K H (vs++ws) (ds++es)
 |_,_,_,_,.nil,s=>s
 |_,_,_,_,.cons r t,s=>.cons r (bN.append t s)
theorem bN.snoc{K:ah}{H:Hp}{vs:List V}{ds:List bf}{v:V}{d:bf}(a:bN K H vs ds)(h:Dx K H v d):bN K H (vs++[v]) (ds++[d]):=a.append (.cons h .nil)
theorem bN.take{K:ah}{H:Hp}:∀{vs:List V}{ds:List bf}(n:Nat),bN K H vs ds->bN K H (vs.take n) (ds.take n)
 |_,_,0,_=>.nil
 |_,_,_+1,.nil=>.nil
 |_,_,n+1,.cons r t=>.cons r (bN.take n t)
theorem bN.reverse{K:ah}{H:Hp}:∀{vs:List V}{ds:List bf},bN K H vs ds->bN K H vs.reverse ds.reverse
 |_,_,.nil=>.nil
 |_,_,.cons r t=>by
  rw[jV,jV]
  exact(bN.reverse t).snoc r
theorem bN.OT{K:ah}{H:Hp}:∀(ns:List Int),bN K H (ns.map V.int) (ns.map jS)
 |[]=>.nil
 |n::ns=>.cons (.int n) (bN.OT ns)
theorem Gp{K:ah}{a:ak}{xs:List V}{g:TG}{tb:TS}{D:KG}{σ:St}{H:Hp}(Pv:Nat->St->Hp->Prop)(h0:Pv 0 σ H)(hl:∀i σ H,i<=xs.length->Pv i σ H->cG K H a xs)(hs:∀i x σ H T,xs[i]?=some x->Pv i σ H->H T=none->g (.ref T) σ (upd H T (.tup [.int (i:Nat),x])) fun σ2 H2=>tb {D with nx:=Pv (i+1),ct:=Pv (i+1),bk:=D.nx} σ2 H2)(hd:∀σ H,Pv xs.length σ H->D.nx σ H):∃W:Nat->Nat->St->Hp->Prop,(∃m,W 0 m σ H)/\∀i m σ H,W i m σ H->((Ite K a).stop i H/\D.nx σ H)\/((Ite K a).go i H/\∃N:St->Hp->Prop,(∀σ' H',N σ' H'->∃m',m'<m/\W (i+1) m' σ' H')/\∀x H',(Ite K a).Qi i H x H'->g x σ H' fun σ2 H2=>tb {D with nx:=N,ct:=N,bk:=D.nx} σ2 H2):=by
 refine⟨fun i m σ H=>m=xs.length-i/\i<=xs.length/\Pv i σ H,⟨xs.length,by simp,bE _,h0⟩,?_⟩
 rintro i m σ H ⟨rfl,hi,p⟩
 have q:=hl i σ H hi p
 by_cases wD:i<xs.length
 ·refine .inr ⟨⟨xs,xs[i],q,by simp[wD]⟩,Pv (i+1),fun σ' H' p'=>⟨xs.length-(i+1),by omega,rfl,wD,p'⟩,fun v H' y=>?_⟩
  obtain⟨T,x,e,hn,e2,y⟩:=y
  subst e e2
  exact hs i x σ H T (y xs q) p hn
 ·have e:i=xs.length:=by omega
  subst e
  exact .inl ⟨⟨xs,q,aV _⟩,hd σ H p⟩
theorem abN{K:ah}{a:ak}{xs:List V}{g:TG}{tb:TS}{D:KG}{σ:St}{H:Hp}(Pv:Nat->St->Hp->Prop)(h0:Pv 0 σ H)(hl:∀i σ H,i<=xs.length->Pv i σ H->cG K H a xs)(hs:∀i x σ H,i<xs.length->xs[xs.length-1-i]?=some x->Pv i σ H->g x σ H fun σ2 H2=>tb {D with nx:=Pv (i+1),ct:=Pv (i+1),bk:=D.nx} σ2 H2)(hd:∀σ H,Pv xs.length σ H->D.nx σ H):∃W:Nat->Nat->St->Hp->Prop,(∃m,W 0 m σ H)/\∀i m σ H,W i m σ H->((Itv K a xs.length).stop i H/\D.nx σ H)\/((Itv K a xs.length).go i H/\∃N:St->Hp->Prop,(∀σ' H',N σ' H'->∃m',m'<m/\W (i+1) m' σ' H')/\∀x H',(Itv K a xs.length).Qi i H x H'->g x σ H' fun σ2 H2=>tb {D with nx:=N,ct:=N,bk:=D.nx} σ2 H2):=by
 refine⟨fun i m σ H=>m=xs.length-i/\i<=xs.length/\Pv i σ H,⟨xs.length,by simp,bE _,h0⟩,?_⟩
 rintro i m σ H ⟨rfl,hi,p⟩
 have q:=hl i σ H hi p
 by_cases wD:i<xs.length
 ·have hb:xs.length-1-i<xs.length:=by omega
  refine .inr ⟨⟨wD,xs,xs[xs.length-1-i],q,aB hb⟩,Pv (i+1),fun σ' H' p'=>⟨xs.length-(i+1),by omega,rfl,wD,p'⟩,fun x H' y=>?_⟩
  obtain⟨e,y⟩:=y
  subst e
  exact hs i x σ _ wD (y xs q) p
 ·have e:i=xs.length:=by omega
  subst e
  exact .inl ⟨aV _,hd σ H p⟩
theorem Ze{K:ah}{a b:ak}{xs ys:List V}{g:TG}{tt:TT}{te:TE}{vs:List Nat}{σ:St}{H1:Hp}{D:ak}{Qd:Hp->Prop}(Pv:Nat->Hp->Prop)(h0:Pv 0 (upd H1 D (.lst [])))(hl:∀i H,i<=(xs.zip ys).length->Pv i H->cG K H a xs/\cG K H b ys)(hs:∀i x y H T,xs[i]?=some x->ys[i]?=some y->Pv i H->H T=none->g (.ref T) (gC σ vs) (upd H T (.tup [x,y])) fun σ2 H2=>gC σ2 vs=gC σ vs/\tt σ2 H2 fun b H3=>if b=true then te σ2 H3 fun y H4=>∃acc,H4 D=some (.lst acc)/\acc.length<aK/\Pv (i+1) (upd H4 D (.lst (acc++[y])))else Pv (i+1) H3)(hd:∀H,Pv (xs.zip ys).length H->Qd H):∃W:Nat->Nat->Hp->Prop,(∃m,W 0 m (upd H1 D (.lst [])))/\∀i m H,W i m H->((Y_ K a b).stop i H/\Qd H)\/((Y_ K a b).go i H/\∃Nx:Hp->Prop,(∀H',Nx H'->∃m',m'<m/\W (i+1) m' H')/\∀x H',(Y_ K a b).Qi i H x H'->g x (gC σ vs) H' fun σ2 H2=>gC σ2 vs=gC σ vs/\tt σ2 H2 fun b H3=>if b=true then te σ2 H3 fun y H4=>∃acc,H4 D=some (.lst acc)/\acc.length<aK/\Nx (upd H4 D (.lst (acc++[y])))else Nx H3):=by
 refine⟨fun i m H=>m=(xs.zip ys).length-i/\i<=(xs.zip ys).length/\Pv i H,⟨(xs.zip ys).length,by simp,bE _,h0⟩,?_⟩
 rintro i m H ⟨rfl,hi,p⟩
 obtain⟨q1,q2⟩:=hl i H hi p
 by_cases wD:i<(xs.zip ys).length
 ·have h1:i<xs.length:=by rw[eS]at wD;omega
  have h2:i<ys.length:=by rw[eS]at wD;omega
  refine .inr ⟨⟨xs,ys,xs[i],ys[i],q1,q2,by simp[h1],by simp[h2]⟩,Pv (i+1),fun H' p'=>⟨(xs.zip ys).length-(i+1),by omega,rfl,wD,p'⟩,fun v H' y=>?_⟩
  obtain⟨T,x,z,e,hn,e2,y1,y2⟩:=y
  subst e e2
  exact hs i x z H T (y1 xs q1) (y2 ys q2) p hn
 ·have e:i=(xs.zip ys).length:=by omega
  refine .inl ⟨⟨xs,ys,q1,q2,by rw[eS]at e;omega⟩,hd H (by rw[<-e];exact p)⟩
def mS(mg:cM->Option ao)(x:cM)(i:Int):Prop:=∃t,mg x=some (.int i t)
theorem bW{X:Cx}{x:cM}{i:Int}{pos:AB}(h:mS X.mg x i)(hg:Gl X x:=by rfl)(hd:(x==("__debug__":cM))=false:=by decide):PE X (.Name x pos) (tC (.int i)):=by
 obtain⟨t,h⟩:=h
 exact OC hg h ⟨t,rfl⟩ hd
def jL(K:ah)(mg:cM->Option ao)(x:cM)(st:d9)(ps:List cM):Prop:=
 ∃(f:ak)(fd:iW),Zd K x x st f fd/\mg x=some (.ref f)/\sA K fd ps []
def bG(P:bD)(w:cC)(K:ah)(mg:cM->Option ao)(base:cY)(x:cM)(ps:List cM)(k:Nat)(sp:Sp):Prop:=
 ∃(f:ak)(fd:iW),mg x=some (.ref f)/\jb K (.ref f)=true/\sA K fd ps []/\yr P w K mg base Rc k f fd ps sp
section
variable{P:bD}{w:cC}{K:ah}{mg:cM->Option ao}{base:cY}
theorem jL.ok{x:cM}{st:d9}{N ps:List cM}{k:Nat}{sp:Sp}(D:jL K mg x st ps)(S:bM N ps (aY st))(len:∀vs H Q E,sp vs H Q E->vs.length=ps.length)(Ge:∀(f:ak)(iB:ao)(A:eG)(outer:List Ou)(s:aN)(H:Hp)(vs:List V)(Q:VK)(E:XK),lZ k (A.deeper (DU x (aY st) s.heap.objs.size f iB))->sp vs H Q E->∃t,SR (OI Rc P w K mg base N x (aY st) f iB A outer s H E).nox (m7 st) t/\t {nx:=fun _ H'=>Q .jX H',rt:=Q} (start N vs) H):bG P w K mg base x ps (k+1) sp:=by
 obtain⟨f,fd,F,hm,hb⟩:=D
 exact⟨f,fd,hm,F.kp,hb,F.ok S len fun iB A outer s H vs Q E hr h=>Ge f iB A outer s H vs Q E hr h⟩
end
theorem bL{X:Cx}{x:cM}{ps:List cM}{k:Nat}{sp:Sp}{e:fK}{es:List fK}{t:TA}{p pos:AB}(C:bG X.prog X.w X.K X.mg X.base x ps k sp)(hr:lZ k X.A)(ha:PA X (e::es) t)(hg:Gl X x:=by rfl)
  (TU:(x==("__debug__":cM))=false:=by decide)(he:b_ (e::es) X.env=(false,eval e X.env)::b_ es X.env:=by rfl)(Eo:(jI pos (b_ es X.env)).any (·.1)=false:=by rfl):
  PE X (.Call (.Name x p) (e::es) [] pos) (ac3 sp [] E0 t):=by
 obtain⟨f,fd,hm,hk,hb,F⟩:=C
 exact abv F hr hg hm hk hb .nil Rf ha TU he Eo
def hd(H:Hp)(D:ak->Bool):Hp:=fun b=>if D b=true then none else H b
def D0:ak->Bool:=fun _=>false
def ad(D:ak->Bool)(p:ak):ak->Bool:=fun b=>D b||decide (b=p)
theorem aq{H:Hp}{D:ak->Bool}:aQ (hd H D) H:=fun b o e=>by
 unfold hd at e
 split at e
 ·cases e
 ·exact e
theorem iY{H:Hp}{D:ak->Bool}{b:ak}{o:HO}(h:H b=some o)(hD:D b=false):hd H D b=some o:=by
 unfold hd
 rw[aD (by rw[hD];exact aF)]
 exact h
theorem rE{H:Hp}{D:ak->Bool}{b:ak}{o:HO}(h:hd H D b=some o):H b=some o/\D b=false:=by
 refine⟨aq b o h,?_⟩
 cases q:D b with
 |false=>rfl
 |true=>
  unfold hd at h
  rw[aG q]at h
  cases h
theorem aU{H H':Hp}{D:ak->Bool}(s:aQ H H'):aQ (hd H D) (hd H' D):=fun b o e=>by
 obtain⟨h1,h2⟩:=rE e
 exact iY (s b o h1) h2
theorem aeo{H:Hp}{D D':ak->Bool}(s:∀b,D b=true->D' b=true):aQ (hd H D') (hd H D):=fun b o e=>by
 obtain⟨h1,h2⟩:=rE e
 refine iY h1 ?_
 cases q:D b with
 |false=>rfl
 |true=>rw[s b q]at h2;cases h2
theorem wu{H:Hp}{D:ak->Bool}{p:ak}:aQ (hd H (ad D p)) (hd H D):=aeo fun b h=>by unfold ad;rw[h];rfl
theorem fX{D:ak->Bool}{p:ak}:ad D p p=true:=by unfold ad;simp
theorem zf{D:ak->Bool}{p b:ak}(h:D b=true):ad D p b=true:=by unfold ad;rw[h];rfl
theorem VI{D:ak->Bool}{p b:ak}(h:D b=false)(n:b≠p):ad D p b=false:=by unfold ad;rw[h];simp[n]
theorem qk{H:Hp}{D:ak->Bool}{p:ak}{o:HO}(h:D p=true):hd (upd H p o) D=hd H D:=by
 funext b
 unfold hd
 by_cases q:D b=true
 ·rw[aG q,aG q]
 ·rw[aD q,aD q,bY (fun e:b=p=>q (by rw[e];exact h))]
theorem m8{H1:Hp}{D:ak->Bool}{L:ak}(hL:H1 L=none):hd H1 (ad D L)=hd H1 D:=by
 funext b
 by_cases hb:b=L
 ·subst hb
  unfold hd
  rw[aG fX,hL]
  split<;>rfl
 ·unfold hd
  by_cases q:D b=true
  ·rw[aG q,aG (zf q)]
  ·rw[aD q,aD (by rw[VI (by simpa using q) hb];exact aF)]
def Od(H:Hp)(D:ak->Bool):Prop:=∀b,D b=true->H b≠none
theorem Od.zero{H:Hp}:Od H D0:=fun b h=>by unfold D0 at h;cases h
theorem Od.fresh{H:Hp}{D:ak->Bool}(h:Od H D){p:ak}(hn:H p=none):D p=false:=by
 cases q:D p with
 |false=>rfl
 |true=>exact absurd hn (h p q)
theorem Od.mono{H H':Hp}{D:ak->Bool}(h:Od H D)(s:aQ H H'):Od H' D:=fun b q e=>h b q (s.free e)
theorem Od.upd{H:Hp}{D:ak->Bool}(h:Od H D){p:ak}{o:HO}:Od (upd H p o) D:=fun b q e=>by
 by_cases hb:b=p
 ·subst hb;rw[aE]at e;cases e
 ·rw[bY hb]at e;exact h b q e
theorem Od.ad{H:Hp}{D:ak->Bool}(h:Od H D){p:ak}{o:HO}(hp:H p=some o):Od H (ad D p):=fun b q e=>by
 unfold L2.ad at q
 rcases Bool.or_eq_true_iff.mp q with q|q
 ·exact h b q e
 ·have:=f9 q
  subst this
  rw[hp]at e;cases e
theorem OU{H:Hp}{D:ak->Bool}{p:ak}{o:HO}(h:D p=false):hd (upd H p o) D p=some o:=iY aE h
theorem um{K:ah}{H:Hp}{D:ak->Bool}{p:ak}{xs:List V}{ds:List bf}(hp:H p=some (.lst xs))(hD:D p=false)(a:bN K (hd H D) xs ds):Dx K (hd H D) (.ref p) (.list ds):=
 .lst (iY hp hD) a
theorem aep{K:ah}{H:Hp}{D:ak->Bool}{p:ak}{xs:List V}{ds:List bf}(hp:H p=some (.tup xs))(hD:D p=false)(a:bN K (hd H D) xs ds):Dx K (hd H D) (.ref p) (.tuple ds):=
 .tup (rN.of (iY hp hD)) a
theorem k_{K:ah}{H:Hp}{D:ak->Bool}{p:ak}{xs:List V}{ds:List bf}(hn:H p=none)(hO:Od H D)(a:bN K (hd H D) xs ds):Dx K (hd (upd H p (.lst xs)) D) (.ref p) (.list ds):=
 um aE (hO.fresh hn) ((aU (aQ.new hn)).EG a)
theorem Kg{K:ah}{H:Hp}{D:ak->Bool}{p:ak}{xs:List V}{ds:List bf}(hn:H p=none)(hO:Od H D)(a:bN K (hd H D) xs ds):Dx K (hd (upd H p (.tup xs)) D) (.ref p) (.tuple ds):=
 aep aE (hO.fresh hn) ((aU (aQ.new hn)).EG a)
def qC(K:ah)(R:List bf->bf->Prop):Sp:=fun vs H Q _=>∃D ds d,Od H D/\bN K (hd H D) vs ds/\R ds d/\∀v H',aQ H H'->Dx K (hd H' D) v d->Q v H'
theorem iR{K:ah}{R:List bf->bf->Prop}{n:Nat}(h:∀ds d,R ds d->ds.length=n):∀(vs:List V)(H:Hp)(Q:VK)(E:XK),qC K R vs H Q E->vs.length=n:=by
 rintro vs H Q E ⟨D,ds,d,o,a,r,_⟩
 rw[a.length]
 exact h ds d r
section
variable{K:ah}{H:Hp}
theorem Dx.bV{v:V}{ds:List bf}(h:Dx K H v (.list ds)):∃a xs,v=.ref a/\H a=some (.lst xs)/\bN K H xs ds:=by
 cases h with
 |lst s a=>exact⟨_,_,rfl,s,a⟩
theorem Dx.DZ{v:V}{ds:List bf}(h:Dx K H v (.tuple ds)):∃a xs,v=.ref a/\rN K H a xs/\bN K H xs ds:=by
 cases h with
 |tup s a=>exact⟨_,_,rfl,s,a⟩
theorem Dx.int_inv{v:V}{i:Int}(h:Dx K H v (.int i)):v=.int i:=by cases h;rfl
theorem Dx.Kh{v:V}(h:Dx K H v .none):v=.jX:=by cases h;rfl
theorem Dx.zg{v:V}{b:Bool}(h:Dx K H v (.bool b)):v=.bl b:=by cases h;rfl
theorem bN.nil_inv{vs:List V}(h:bN K H vs []):vs=[]:=by cases h;rfl
theorem bN.cons_inv{vs:List V}{d:bf}{ds:List bf}(h:bN K H vs (d::ds)):∃v r,vs=v::r/\Dx K H v d/\bN K H r ds:=by
 cases h with
 |cons a b=>exact⟨_,_,rfl,a,b⟩
theorem bN.one{vs:List V}{d:bf}(h:bN K H vs [d]):∃v,vs=[v]/\Dx K H v d:=by
 obtain⟨v,r,rfl,a,b⟩:=h.cons_inv
 rw[b.nil_inv]
 exact⟨v,rfl,a⟩
theorem bN.two{vs:List V}{d e:bf}(h:bN K H vs [d,e]):∃v u,vs=[v,u]/\Dx K H v d/\Dx K H u e:=by
 obtain⟨v,r,rfl,a,b⟩:=h.cons_inv
 obtain⟨u,rfl,c⟩:=b.one
 exact⟨v,u,rfl,a,c⟩
theorem bN.three{vs:List V}{d e f:bf}(h:bN K H vs [d,e,f]):∃v u x,vs=[v,u,x]/\Dx K H v d/\Dx K H u e/\Dx K H x f:=by
 obtain⟨v,r,rfl,a,b⟩:=h.cons_inv
 obtain⟨u,x,rfl,c,d⟩:=b.two
 exact⟨v,u,x,rfl,a,c,d⟩
theorem bN.four{vs:List V}{d e f g:bf}(h:bN K H vs [d,e,f,g]):∃v u x y,vs=[v,u,x,y]/\Dx K H v d/\Dx K H u e/\Dx K H x f/\Dx K H y g:=by
 obtain⟨v,r,rfl,a,b⟩:=h.cons_inv
 obtain⟨u,x,y,rfl,c,d,e⟩:=b.three
 exact⟨v,u,x,y,rfl,a,c,d,e⟩
end
structure yt(K:ah)(D:ak->Bool)(H1 H:Hp)(L:ak)(ds:List bf):Prop where
 same:aQ H1 H
 od:Od H D
 ex:∃acc,H L=some (.lst acc)/\bN K (hd H (ad D L)) acc ds
theorem yt.start{K:ah}{D:ak->Bool}{H1:Hp}{L:ak}(o:Od H1 D)(h:H1 L=none):yt K D H1 (upd H1 L (.lst [])) L []:=⟨aQ.new h,o.upd,[],aE,.nil⟩
theorem yt.done{K:ah}{D:ak->Bool}{H1 H:Hp}{L:ak}{ds:List bf}(c:yt K D H1 H L ds)(hL:H1 L=none)(o:Od H1 D):Dx K (hd H D) (.ref L) (.list ds):=by
 obtain⟨acc,h,a⟩:=c.ex
 exact um h (o.fresh hL) (wu.EG a)
theorem yt.odL{K:ah}{D:ak->Bool}{H1 H:Hp}{L:ak}{ds:List bf}(c:yt K D H1 H L ds):Od H (ad D L):=by
 obtain⟨acc,h,a⟩:=c.ex
 exact c.od.ad h
theorem yt.push{K:ah}{D:ak->Bool}{H1 H H':Hp}{L:ak}{ds:List bf}{y:V}{d:bf}(c:yt K D H1 H L ds)(hL:H1 L=none)(s:aQ H H')(hy:Dx K (hd H' (ad D L)) y d)(n:ds.length<aK):∃acc,H' L=some (.lst acc)/\acc.length<aK/\yt K D H1 (upd H' L (.lst (acc++[y]))) L (ds++[d]):=by
 obtain⟨acc,h,a⟩:=c.ex
 refine⟨acc,s _ _ h,by rw[a.length];exact n,(c.same.trans s).write hL,(c.od.mono s).upd,acc++[y],aE,?_⟩
 rw[qk fX]
 exact((aU s).EG a).snoc hy
theorem yt.skip{K:ah}{D:ak->Bool}{H1 H H':Hp}{L:ak}{ds:List bf}(c:yt K D H1 H L ds)(s:aQ H H'):yt K D H1 H' L ds:=by
 obtain⟨acc,h,a⟩:=c.ex
 exact⟨c.same.trans s,c.od.mono s,acc,s _ _ h,(aU s).EG a⟩
theorem wF{K:ah}{a:ak}{xs:List V}{ds:List bf}{f:bf->bf}{i0:Nat}{te:TE}{vs:List Nat}{σ:St}{H1:Hp}{L:ak}{Qd:Hp->Prop}{D:ak->Bool}(hL:H1 L=none)(o:Od H1 D)(hq:cG K H1 a xs)(hx:bN K (hd H1 D) xs ds)(hn:ds.length<=aK)(hw:∀x,gC ((gC σ vs).set i0 (some x)) vs=gC σ vs)(he:∀(i:Nat)(x:V)(d:bf)(H:Hp)(D':ak->Bool)(Qe:VK),ds[i]?=some d->aQ H1 H->Od H D'->Dx K (hd H D') x d->aQ (hd H1 D) (hd H D')->(∀y H',aQ H H'->Dx K (hd H' D') y (f d)->Qe y H')->te ((gC σ vs).set i0 (some x)) H Qe)(J9:∀H,aQ H1 H->Dx K (hd H D) (.ref L) (.list (ds.map f))->Qd H):∃W:Nat->Nat->Hp->Prop,(∃m,W 0 m (upd H1 L (.lst [])))/\∀i m H,W i m H->((QR K a).stop i H/\Qd H)\/((QR K a).go i H/\∃Nx:Hp->Prop,(∀H',Nx H'->∃m',m'<m/\W (i+1) m' H')/\∀x H',(QR K a).Qi i H x H'->wm i0 x (gC σ vs) H' fun σ2 H2=>gC σ2 vs=gC σ vs/\MM σ2 H2 fun b H3=>if b=true then te σ2 H3 fun y H4=>∃acc,H4 L=some (.lst acc)/\acc.length<aK/\Nx (upd H4 L (.lst (acc++[y])))else Nx H3):=by
 have jT:=hx.length
 refine Kd (K:=K) (a:=a) (xs:=xs) (fun i H=>yt K D H1 H L ((ds.map f).take i)) (yt.start o hL) (fun i H _ c=>c.same.seq hq) (fun i x H hi c=>⟨hw x,?_⟩) fun H c=>J9 H c.same ?_
 ·unfold MM
  dsimp only
  rw[aG rfl]
  obtain⟨d,hd1,hd2⟩:=hx.get hi
  have sd:aQ (hd H1 D) (hd H (ad D L)):=by rw[<-m8 hL];exact aU c.same
  refine he i x d H (ad D L) _ hd1 c.same c.odL (sd.dp hd2) sd fun y H' s hy=>?_
  have IB:i<ds.length:=(az.mp hd1).1
  obtain⟨acc,h1,h2,h3⟩:=c.push hL s hy (by rw[a_,aa];omega)
  refine⟨acc,h1,h2,?_⟩
  have e:(ds.map f).take (i+1)=(ds.map f).take i++[f d]:=by
   rw[jj,aT,hd1]
   rfl
  rw[e]
  exact h3
 ·have e:(ds.map f).take xs.length=ds.map f:=kg (by rw[aa,jT];exact aV _)
  have q:=c.done hL o
  rw[e]at q
  exact q
section
variable{X:Cx}
theorem kO{c:Bool}{A B:Prop}(h:c=true)(a:A):if c=true then A else B:=by rw[aG h];exact a
theorem iL{c:Bool}{A B:Prop}(h:c=false)(b:B):if c=true then A else B:=by rw[aD (by rw[h];exact aF)];exact b
theorem Qn{c:Bool}{A B:Prop}(h1:c=true->A)(h2:c=false->B):if c=true then A else B:=by
 cases h:c with
 |true=>exact kO rfl (h1 h)
 |false=>exact iL rfl (h2 h)
def Val(t:TE)(σ:St)(H:Hp)(v:V):Prop:=∀R:VK,R v H->t σ H R
theorem vy{v:V}{σ:St}{H:Hp}:Val (tC v) σ H v:=fun _ r=>r
theorem yE{i:Nat}{v:V}{σ:St}{H:Hp}(e:σ[i]?=some (some v)):Val (adZ i) σ H v:=fun _ r=>⟨v,e,r⟩
theorem sG{p q:Int->Int->Bool}{ta tb tc:TE}{σ:St}{a b c:Int}{H:Hp}{Q:VK}(ha:Val ta σ H (.int a))(hb:Val tb σ H (.int b))(hc:Val tc σ H (.int c))(h:Q (.bl (p a b&&q b c)) H):Tu (XQ fun i j=>.bl (p i j)) (XQ fun i j=>.bl (q i j)) ta tb tc σ H Q:=by
 refine ha _ (hb _ ⟨a,b,rfl,rfl,_,rfl,Qn (fun e=>hc _ ⟨b,c,rfl,rfl,?_⟩) fun e=>?_⟩)
 ·rw[e,g8]at h
  exact h
 ·rw[e,qt]at h
  exact h
def aer(K:ah):R2:=fun x y H Q=>∃a b xs ys,x=.ref a/\y=.ref b/\rN K H a xs/\rN K H b ys/\xs.length+ys.length<=aK/\
 (xs=[]->Q (.ref b) H)/\(xs≠[]->ys=[]->Q (.ref a) H)/\(xs≠[]->ys≠[]->∀p,H p=none->Q (.ref p) (upd H p (.tup (xs++ys))))
theorem Rg:Ka X (Ir .Add) (aer X.K):=by
 intro pins s σ H x y v u Q I rx ry h
 obtain⟨a,b,xs,ys,rfl,rfl,ha,hb,hz,q0,q1,q2⟩:=h
 by_cases hx:xs=[]
 ·cases rx
  cases ry
  obtain⟨fi,r1,p1,_⟩:=I.tuple ha
  obtain⟨Gf,r2,p2,_⟩:=I.tuple hb
  have e1:fi=[]:=r1.Kc.mpr hx
  subst e1
  obtain⟨⟨cls,dd,data,sl⟩,ho,hc,n,hd⟩:=id p1
  obtain⟨⟨aip,dd2,data2,sl2⟩,ho2,hc2,n2,hd2⟩:=id p2
  simp only at hc hd hc2 hd2
  subst hc hd hc2 hd2
  exact aaT ⟨_,ho,rfl⟩ ⟨_,ho2,rfl⟩ P7 XF BU AA (Aa _ _)
   (tuple_addW0 a b _ Gf.toArray n n2 dd dd2 sl sl2 (by simp)) ⟨ho,ho2,⟨.ref b,H,I,rfl,q0 hx⟩⟩
 ·exact abA pins s σ H (.ref a) (.ref b) v u Q I rx ry ⟨a,b,xs,ys,rfl,rfl,ha,hb,hx,hz,q1 hx,q2 hx⟩
end
theorem WJ{K:ah}{n:Nat}{g:Nat->Option bf}{i0:Nat}{tt:TT}{te:TE}{vs:List Nat}{σ:St}{H1:Hp}{L:ak}{Qd:Hp->Prop}{D:ak->Bool}(hL:H1 L=none)(o:Od H1 D)(hn:n<=aK)(hw:∀x,gC ((gC σ vs).set i0 (some x)) vs=gC σ vs)(he:∀(i:Nat)(H:Hp)(D':ak->Bool)(Ny:VK)(Nn:Hp->Prop),i<n->aQ H1 H->Od H D'->aQ (hd H1 D) (hd H D')->(∀d,g i=some d->∀y H',aQ H H'->Dx K (hd H' D') y d->Ny y H')->(g i=none->∀H',aQ H H'->Nn H')->tt ((gC σ vs).set i0 (some (.int (0+i)))) H fun b H3=>if b=true then te ((gC σ vs).set i0 (some (.int (0+i)))) H3 Ny else Nn H3)(J9:∀H,aQ H1 H->Dx K (hd H D) (.ref L) (.list ((bK n).filterMap g))->Qd H):∃W:Nat->Nat->Hp->Prop,(∃m,W 0 m (upd H1 L (.lst [])))/\∀i m H,W i m H->((XO 0 n).stop i H/\Qd H)\/((XO 0 n).go i H/\∃Nx:Hp->Prop,(∀H',Nx H'->∃m',m'<m/\W (i+1) m' H')/\∀x H',(XO 0 n).Qi i H x H'->wm i0 x (gC σ vs) H' fun σ2 H2=>gC σ2 vs=gC σ vs/\tt σ2 H2 fun b H3=>if b=true then te σ2 H3 fun y H4=>∃acc,H4 L=some (.lst acc)/\acc.length<aK/\Nx (upd H4 L (.lst (acc++[y])))else Nx H3):=by
 refine Y5 (lo:=0) (n:=n) (fun i H=>i<=n/\yt K D H1 H L ((bK i).filterMap g)) ⟨bE _,yt.start o hL⟩ (fun i H hi c=>⟨hw _,?_⟩) fun H c=>J9 H c.2.same (c.2.done hL o)
 have sd:aQ (hd H1 D) (hd H (ad D L)):=by rw[<-m8 hL];exact aU c.2.same
 have le:((bK i).filterMap g).length<=i:=bQ (QA _ _) (uP eK)
 have e:(bK (i+1)).filterMap g=(bK i).filterMap g++(g i).toList:=by
  rw[gB,Vi]
  cases q:g i<;>simp[q]
 refine he i H (ad D L) _ _ hi c.2.same c.2.odL sd (fun d hg y H' s hy=>?_) fun hg H' s=>⟨hi,?_⟩
 ·obtain⟨acc,h1,h2,h3⟩:=c.2.push hL s hy (by omega)
  refine⟨acc,h1,h2,hi,?_⟩
  rw[e,hg]
  exact h3
 ·rw[e,hg]
  have q:=c.2.skip s
  simpa using q
theorem T4{K:ah}{a:ak}{xs:List V}{ds:List bf}{g:bf->Option bf}{i0:Nat}{tt:TT}{te:TE}{vs:List Nat}{σ:St}{H1:Hp}{L:ak}{Qd:Hp->Prop}{D:ak->Bool}(hL:H1 L=none)(o:Od H1 D)(hq:cG K H1 a xs)(hx:bN K (hd H1 D) xs ds)(hn:ds.length<=aK)(hw:∀x,gC ((gC σ vs).set i0 (some x)) vs=gC σ vs)(he:∀(i:Nat)(x:V)(d:bf)(H:Hp)(D':ak->Bool)(Ny:VK)(Nn:Hp->Prop),ds[i]?=some d->aQ H1 H->Od H D'->Dx K (hd H D') x d->aQ (hd H1 D) (hd H D')->(∀e,g d=some e->∀y H',aQ H H'->Dx K (hd H' D') y e->Ny y H')->(g d=none->∀H',aQ H H'->Nn H')->tt ((gC σ vs).set i0 (some x)) H fun b H3=>if b=true then te ((gC σ vs).set i0 (some x)) H3 Ny else Nn H3)(J9:∀H,aQ H1 H->Dx K (hd H D) (.ref L) (.list (ds.filterMap g))->Qd H):∃W:Nat->Nat->Hp->Prop,(∃m,W 0 m (upd H1 L (.lst [])))/\∀i m H,W i m H->((QR K a).stop i H/\Qd H)\/((QR K a).go i H/\∃Nx:Hp->Prop,(∀H',Nx H'->∃m',m'<m/\W (i+1) m' H')/\∀x H',(QR K a).Qi i H x H'->wm i0 x (gC σ vs) H' fun σ2 H2=>gC σ2 vs=gC σ vs/\tt σ2 H2 fun b H3=>if b=true then te σ2 H3 fun y H4=>∃acc,H4 L=some (.lst acc)/\acc.length<aK/\Nx (upd H4 L (.lst (acc++[y])))else Nx H3):=by
 have jT:=hx.length
 refine Kd (K:=K) (a:=a) (xs:=xs) (fun i H=>yt K D H1 H L ((ds.take i).filterMap g)) (yt.start o hL) (fun i H _ c=>c.same.seq hq) (fun i x H hi c=>⟨hw x,?_⟩) fun H c=>J9 H c.same ?_
 ·obtain⟨d,hd1,hd2⟩:=hx.get hi
  have sd:aQ (hd H1 D) (hd H (ad D L)):=by rw[<-m8 hL];exact aU c.same
  have IB:i<ds.length:=(az.mp hd1).1
  have le:((ds.take i).filterMap g).length<=i:=bQ (QA _ _) (by rw[a_];omega)
  have e:(ds.take (i+1)).filterMap g=(ds.take i).filterMap g++(g d).toList:=by
   rw[jj,hd1,Vi]
   cases q:g d<;>simp[q]
  refine he i x d H (ad D L) _ _ hd1 c.same c.odL (sd.dp hd2) sd (fun z hg y H' s hy=>?_) fun hg H' s=>?_
  ·obtain⟨acc,h1,h2,h3⟩:=c.push hL s hy (by omega)
   refine⟨acc,h1,h2,?_⟩
   rw[e,hg]
   exact h3
  ·rw[e,hg]
   have q:=c.skip s
   simpa using q
 ·have e:ds.take xs.length=ds:=kg (by rw[jT];exact aV _)
  have q:=c.done hL o
  rw[e]at q
  exact q
theorem abP{K:ah}{a b:ak}{xs ys:List V}{ds es:List bf}{f:bf->bf->bf}{i0 i1:Nat}{te:TE}{vs:List Nat}{σ:St}{H1:Hp}{L:ak}{Qd:Hp->Prop}{D:ak->Bool}(hL:H1 L=none)(o:Od H1 D)(hq:cG K H1 a xs)(hq2:cG K H1 b ys)(hx:bN K (hd H1 D) xs ds)(hy:bN K (hd H1 D) ys es)(hn:ds.length<=aK)(hw:∀x y,gC (((gC σ vs).set i0 (some x)).set i1 (some y)) vs=gC σ vs)(he:∀(i:Nat)(x y:V)(d e:bf)(H:Hp)(D':ak->Bool)(Qe:VK),ds[i]?=some d->es[i]?=some e->aQ H1 H->Od H D'->Dx K (hd H D') x d->Dx K (hd H D') y e->aQ (hd H1 D) (hd H D')->(∀z H',aQ H H'->Dx K (hd H' D') z (f d e)->Qe z H')->te (((gC σ vs).set i0 (some x)).set i1 (some y)) H Qe)(J9:∀H,aQ H1 H->Dx K (hd H D) (.ref L) (.list ((ds.zip es).map fun p=>f p.1 p.2))->Qd H):∃W:Nat->Nat->Hp->Prop,(∃m,W 0 m (upd H1 L (.lst [])))/\∀i m H,W i m H->((Y_ K a b).stop i H/\Qd H)\/((Y_ K a b).go i H/\∃Nx:Hp->Prop,(∀H',Nx H'->∃m',m'<m/\W (i+1) m' H')/\∀x H',(Y_ K a b).Qi i H x H'->Yu K 2 (F_ (wm i0) (F_ (wm i1) Yt)) x (gC σ vs) H' fun σ2 H2=>gC σ2 vs=gC σ vs/\MM σ2 H2 fun b H3=>if b=true then te σ2 H3 fun y H4=>∃acc,H4 L=some (.lst acc)/\acc.length<aK/\Nx (upd H4 L (.lst (acc++[y])))else Nx H3):=by
 have jT:=hx.length
 have agk:=hy.length
 refine Ze (K:=K) (a:=a) (b:=b) (xs:=xs) (ys:=ys) (fun i H=>yt K D H1 H L (((ds.zip es).map fun p=>f p.1 p.2).take i)) (yt.start o hL) (fun i H _ c=>⟨c.same.seq hq,c.same.seq hq2⟩) (fun i x y H T hi hi' c hT=>?_) fun H c=>J9 H c.same ?_
 ·refine⟨T,_,rfl,rN.of aE,rfl,x,_,rfl,y,_,rfl,rfl,hw x y,?_⟩
  unfold MM
  dsimp only
  rw[aG rfl]
  obtain⟨d,hd1,hd2⟩:=hx.get hi
  obtain⟨e,he1,he2⟩:=hy.get hi'
  have c2:=c.skip (aQ.new (o:=.tup [x,y]) hT)
  have sd:aQ (hd H1 D) (hd (upd H T (.tup [x,y])) (ad D L)):=by rw[<-m8 hL];exact aU c2.same
  refine he i x y d e _ (ad D L) _ hd1 he1 c2.same c2.odL (sd.dp hd2) (sd.dp he2) sd fun z H' s hz=>?_
  have IB:i<ds.length:=(az.mp hd1).1
  have hi3:i<es.length:=(az.mp he1).1
  obtain⟨acc,h1,h2,h3⟩:=c2.push hL s hz (by rw[a_,aa,eS];omega)
  refine⟨acc,h1,h2,?_⟩
  have e2:((ds.zip es).map fun p=>f p.1 p.2).take (i+1)=((ds.zip es).map fun p=>f p.1 p.2).take i++[f d e]:=by
   rw[jj,aT,iy (z:=(d,e)) |>.mpr ⟨hd1,he1⟩]
   rfl
  rw[e2]
  exact h3
 ·have e:((ds.zip es).map fun p=>f p.1 p.2).take (xs.zip ys).length=(ds.zip es).map fun p=>f p.1 p.2:=kg (by rw[aa,eS,eS,jT,agk];exact aV _)
  have q:=c.done hL o
  rw[e]at q
  exact q
def dG(P:bD)(w:cC)(K:ah)(mg:cM->Option ao)(base:cY)(C:ak)(m:cM)(ps:List cM)(k:Nat)(sp:Sp):Prop:=
 Tw K C/\∃(f:ak)(fd:iW),YI K C m f/\sA K fd ps []/\yr P w K mg base Rc k f fd ps sp
def t8(P:bD)(w:cC)(K:ah)(mg:cM->Option ao)(base:cY)(C:ak)(x:cM)(ps:List cM)(k:Nat)(sp:Sp):Prop:=
 mg x=some (.ref C)/\∃(f:ak)(fd:iW),Mk K C f/\sA K fd ps []/\yr P w K mg base Rc k f fd ps sp
def iZ(K:ah)(C:ak)(m jg:cM)(st:d9)(ps:List cM):Prop:=
 Tw K C/\∃(f:ak)(fd:iW),Zd K m jg st f fd/\YI K C m f/\sA K fd ps []
def E1(K:ah)(mg:cM->Option ao)(C:ak)(x jg:cM)(st:d9)(ps:List cM):Prop:=
 mg x=some (.ref C)/\∃(f:ak)(fd:iW),Zd K "__init__" jg st f fd/\Mk K C f/\sA K fd ps []
section
variable{P:bD}{w:cC}{K:ah}{mg:cM->Option ao}{base:cY}
theorem iZ.ok{C:ak}{m jg:cM}{st:d9}{N ps:List cM}{k:Nat}{sp:Sp}(D:iZ K C m jg st ps)(S:bM N ps (aY st))(len:∀vs H Q E,sp vs H Q E->vs.length=ps.length)(Ge:∀(f:ak)(iB:ao)(A:eG)(outer:List Ou)(s:aN)(H:Hp)(vs:List V)(Q:VK)(E:XK),lZ k (A.deeper (DU jg (aY st) s.heap.objs.size f iB))->sp vs H Q E->∃t,SR (OI Rc P w K mg base N jg (aY st) f iB A outer s H E).nox (m7 st) t/\t {nx:=fun _ H'=>Q .jX H',rt:=Q} (start N vs) H):dG P w K mg base C m ps (k+1) sp:=by
 obtain⟨hC,f,fd,F,hm,hb⟩:=D
 exact⟨hC,f,fd,hm,hb,F.ok S len fun iB A outer s H vs Q E hr h=>Ge f iB A outer s H vs Q E hr h⟩
theorem E1.ok{C:ak}{x jg:cM}{st:d9}{N ps:List cM}{k:Nat}{sp:Sp}(D:E1 K mg C x jg st ps)(S:bM N ps (aY st))(len:∀vs H Q E,sp vs H Q E->vs.length=ps.length)(Ge:∀(f:ak)(iB:ao)(A:eG)(outer:List Ou)(s:aN)(H:Hp)(vs:List V)(Q:VK)(E:XK),lZ k (A.deeper (DU jg (aY st) s.heap.objs.size f iB))->sp vs H Q E->∃t,SR (OI Rc P w K mg base N jg (aY st) f iB A outer s H E).nox (m7 st) t/\t {nx:=fun _ H'=>Q .jX H',rt:=Q} (start N vs) H):t8 P w K mg base C x ps (k+1) sp:=by
 obtain⟨hC,f,fd,F,hm,hb⟩:=D
 exact⟨hC,f,fd,hm,hb,F.ok S len fun iB A outer s H vs Q E hr h=>Ge f iB A outer s H vs Q E hr h⟩
end
section
variable{X:Cx}{k:Nat}{C:ak}{x m:cM}{ps:List cM}{sp:Sp}{e o:fK}{es:List fK}{ta:TE}{t:TA}{p pos AY:AB}
theorem eE{pl:Sem Bool}(c:dG X.prog X.w X.K X.mg X.base C m ps k sp)(he:PE X o ta)(hr:lZ k X.A)(ha:PA X (e::es) t)
  (lQ:b_ (e::es) X.env=(false,eval e X.env)::b_ es X.env:=by rfl)(Eo:(jI pos (b_ es X.env)).any (·.1)=false:=by rfl)
  (ht:eval (.Call (.Attribute o m AY) (e::es) [] pos) X.env=(do
   let ov<-eval o X.env
   standAt AY.atName
   let(f,first)<-holding [ov] (getMethod ov m pl)
   Nk pos f first (jI pos (b_ (e::es) X.env)) (backToKw pos (keywordEach [] X.env))):=by rfl):
  PE X (.Call (.Attribute o m AY) (e::es) [] pos) (Vw C m sp [] E0 ta t):=by
 obtain⟨hC,f,fd,hm,hb,F⟩:=c
 exact abw he hC hm F hr hb .nil Rf ha lQ Eo ht
theorem gZ{pl:Sem Bool}(c:dG X.prog X.w X.K X.mg X.base C m ps k sp)(he:PE X o ta)(hr:lZ k X.A)
  (ht:eval (.Call (.Attribute o m AY) [] [] pos) X.env=(do
   let ov<-eval o X.env
   standAt AY.atName
   let(f,first)<-holding [ov] (getMethod ov m pl)
   Nk pos f first (jI pos (b_ [] X.env)) (backToKw pos (keywordEach [] X.env))):=by rfl):
  PE X (.Call (.Attribute o m AY) [] [] pos) (Vw C m sp [] E0 ta TN):=by
 obtain⟨hC,f,fd,hm,hb,F⟩:=c
 exact YK he hC hm F hr hb .nil Rf ht
theorem qJ(c:t8 X.prog X.w X.K X.mg X.base C x ps k sp)(hr:lZ (k+1) X.A)(ha:PA X (e::es) t)(hg:Gl X x:=by rfl)
  (TU:(x==("__debug__":cM))=false:=by decide)(he:b_ (e::es) X.env=(false,eval e X.env)::b_ es X.env:=by rfl)(Eo:(jI pos (b_ es X.env)).any (·.1)=false:=by rfl):
  PE X (.Call (.Name x p) (e::es) [] pos) (Vx C sp [] E0 t):=by
 obtain⟨hm,f,fd,M,hb,F⟩:=c
 exact abx M F hr hg hm hb .nil Rf ha TU he Eo
theorem WK(c:t8 X.prog X.w X.K X.mg X.base C x ps k sp)(hr:lZ (k+1) X.A)(hg:Gl X x:=by rfl)
  (TU:(x==("__debug__":cM))=false:=by decide):PE X (.Call (.Name x p) [] [] pos) (Vx C sp [] E0 TN):=by
 obtain⟨hm,f,fd,M,hb,F⟩:=c
 exact YL M F hr hg hm hb .nil Rf TU
end
section
variable{X:Cx}{e:fK}{f:cM}{pos:AB}{ta:TE}
def l5(K:ah):List V->Hp->VK->Prop:=fun xs H Q=>∃p ys,xs=[.ref p]/\(cG K H p ys\/rN K H p ys)/\Q (.int ys.length) H
theorem cB:Gb X (.builtin "len") (l5 X.K):=OM
theorem bC{K:ah}(hK:X.K=K)(he:PE X e ta)(hb:DT e f X.env (eval e X.env)=eval e X.env):PE X (.Attribute e f pos) (afS K ta f):=by
 subst hK
 exact ad_ he hb
end
structure LL(K:ah)(D:ak->Bool)(H1 H:Hp)(tk:ak)(Qo:List (List bf)):Prop where
 same:aQ H1 H
 free:H1 tk=none
 ex:∃ps:List ak,H tk=some (.lst (ps.map V.ref))/\ps.Nodup/\tk∉ps/\(∀p∈ps,H1 p=none)/\ps.length=Qo.length/\∀(j:Nat)(p:ak)(t:List bf),ps[j]?=some p->Qo[j]?=some t->∃acc,H p=some (.lst acc)/\bN K (hd H1 D) acc t
section
variable{K:ah}{D:ak->Bool}{H1 H H':Hp}{tk:ak}{Qo:List (List bf)}
theorem LL.start(h:H1 tk=none):LL K D H1 (upd H1 tk (.lst [])) tk []:=⟨aQ.new h,h,[],aE,adI,by simp,by simp,rfl,fun j p t e=>by simp at e⟩
theorem LL.skip(c:LL K D H1 H tk Qo)(s:aQ H H'):LL K D H1 H' tk Qo:=by
 obtain⟨ps,h1,h2,h3,h4,h5,h6⟩:=c.ex
 exact⟨c.same.trans s,c.free,ps,s _ _ h1,h2,h3,h4,h5,fun j p t e1 e2=>let⟨acc,a,b⟩:=h6 j p t e1 e2;⟨acc,s _ _ a,b⟩⟩
theorem LL.VJ{q:ak}{v:V}{d:bf}(c:LL K D H1 H tk Qo)(hq:H q=none)(hv:Dx K (hd H1 D) v d):∃xs,upd H q (.lst [v]) tk=some (.lst xs)/\xs.length=Qo.length/\LL K D H1 (upd (upd H q (.lst [v])) tk (.lst (xs++[.ref q]))) tk (Qo++[[d]]):=by
 obtain⟨ps,h1,h2,h3,h4,h5,h6⟩:=c.ex
 have nq:tk≠q:=cW h1 hq
 have nqp:∀p∈ps,p≠q:=fun p hp e=>by
  obtain⟨j,hj⟩:=lU hp
  obtain⟨t,ht⟩:∃t,Qo[j]?=some t:=⟨_,aB (by have:=(az.mp hj).1;omega)⟩
  obtain⟨acc,a,_⟩:=h6 j p t hj ht
  rw[e,hq]at a
  cases a
 refine⟨ps.map V.ref,(aQ.new hq) _ _ h1,by rw[aa];exact h5,(c.same.trans (aQ.new hq)).write c.free,c.free,ps++[q],?_,?_,?_,?_,?_,?_⟩
 ·rw[aE,bu];rfl
 ·exact VH h2 fun hm=>nqp q hm rfl
 ·simp[h3,nq]
 ·intro p hp
  rcases aX.mp hp with hp|hp
  ·exact h4 p hp
  ·rw[bJ.mp hp]
   exact c.same.free hq
 ·simp[h5]
 ·intro j p t e1 e2
  by_cases hj:j<ps.length
  ·rw[dD hj]at e1
   rw[dD (by omega)]at e2
   obtain⟨acc,a,b⟩:=h6 j p t e1 e2
   have hp:=aL e1
   exact⟨acc,by rw[bY (fun e:p=tk=>h3 (by rw[<-e];exact hp)),bY (nqp p hp)];exact a,b⟩
  ·rw[d_ (by omega)]at e1
   rw[d_ (by omega)]at e2
   have e0:j=ps.length:=by
    have:=(az.mp e1).1
    simp at this
    omega
   subst e0
   rw[h5]at e2
   simp at e1 e2
   subst e1 e2
   exact⟨[v],by rw[bY (iG nq),aE],.cons hv .nil⟩
theorem LL.Rh{pre:List (List bf)}{t:List bf}{v:V}{d:bf}(c:LL K D H1 H tk (pre++[t]))(hv:Dx K (hd H1 D) v d):∃xs p acc,H tk=some (.lst xs)/\QV xs (-1)=some (.ref p)/\H p=some (.lst acc)/\acc.length=t.length/\LL K D H1 (upd H p (.lst (acc++[v]))) tk (pre++[t++[d]]):=by
 obtain⟨ps,h1,h2,h3,h4,h5,h6⟩:=c.ex
 rw[au]at h5
 have qI:ps≠[]:=fun e=>by rw[e]at h5;simp at h5
 obtain⟨qs,p,rfl⟩:∃qs p,ps=qs++[p]:=⟨ps.dropLast,ps.getLast qI,(fJ qI).symm⟩
 simp at h5
 obtain⟨acc,a,b⟩:=h6 qs.length p t (by simp) (by rw[h5];simp)
 have hp:p∈qs++[p]:=by simp
 have ntk:tk≠p:=fun e=>h3 (by rw[e];exact hp)
 refine⟨_,p,acc,h1,by rw[bu];exact Gg _ _,a,b.length,c.same.write (h4 p hp),c.free,qs++[p],by rw[bY ntk];exact h1,h2,h3,h4,by simp[h5],?_⟩
 intro j p' t' e1 e2
 by_cases hj:j<qs.length
 ·rw[dD hj]at e1
  rw[dD (by omega)]at e2
  obtain⟨ajg,a',b'⟩:=h6 j p' t' (by rw[dD hj];exact e1) (by rw[dD (by omega)];exact e2)
  have np:p'≠p:=fun e=>by
   rw[t_]at h2
   exact h2.2.2 p' (aL e1) p (by simp) e
  exact⟨ajg,by rw[bY np];exact a',b'⟩
 ·rw[d_ (by omega)]at e1
  rw[d_ (by omega)]at e2
  have e0:j=qs.length:=by
   have:=(az.mp e1).1
   simp at this
   omega
  subst e0
  rw[h5]at e2
  simp at e1 e2
  subst e1 e2
  exact⟨acc++[v],aE,b.snoc hv⟩
theorem Ri{K:ah}{G:Hp}:∀{ps:List ak}{Qo:List (List bf)},ps.length=Qo.length->(∀(j:Nat)(p:ak)(t:List bf),ps[j]?=some p->Qo[j]?=some t->Dx K G (.ref p) (.list t))->bN K G (ps.map V.ref) (Qo.map r9)
 |[],[],_,_=>.nil
 |[],_::_,h,_=>by simp at h
 |_::_,[],h,_=>by simp at h
 |p::ps,t::Qo,h,f=>.cons (f 0 p t rfl rfl) (Ri (by simpa using h) fun j p t e1 e2=>f (j+1) p t (by simpa using e1) (by simpa using e2))
theorem LL.done(c:LL K D H1 H tk Qo)(o:Od H1 D):Dx K (hd H D) (.ref tk) (.list (Qo.map r9)):=by
 obtain⟨ps,h1,h2,h3,h4,h5,h6⟩:=c.ex
 refine um h1 (o.fresh c.free) (Ri h5 fun j p t e1 e2=>?_)
 obtain⟨acc,a,b⟩:=h6 j p t e1 e2
 exact um a (o.fresh (h4 p (aL e1))) ((aU c.same).EG b)
theorem LL.len(c:LL K D H1 H tk Qo):∃xs,H tk=some (.lst xs)/\xs.length=Qo.length:=by
 obtain⟨ps,h1,h2,h3,h4,h5,h6⟩:=c.ex
 exact⟨_,h1,by rw[aa];exact h5⟩
end
abbrev TK:=List (Nat×List Nat)
def T5(l:List Nat):bf:=.tuple (l.map fun n:Nat=>.int (n:Int))
def Js(p:Nat×List Nat):bf:=.tuple [.int (p.1:Int),T5 p.2]
def NQ(k:TK):bf:=.tuple (k.map Js)
theorem abQ:∀{l m:List Nat},T5 l=T5 m->l=m:=by
 intro l m h
 have h:=EV h
 induction l generalizing m with
 |nil=>cases m with
  |nil=>rfl
  |cons _ _=>simp at h
 |cons a l ih=>cases m with
  |nil=>simp at h
  |cons b m=>
   simp only[bg,iE,S3]at h
   rw[ih (congrArg QB h.2) h.2,show a=b by omega]
theorem abR{p q:Nat×List Nat}(h:Js p=Js q):p=q:=by
 have h:=EV h
 simp only[iE,S3,and_true]at h
 obtain⟨a,l⟩:=p
 obtain⟨b,m⟩:=q
 have e1:a=b:=by have:=h.1;simp at this;omega
 have e2:l=m:=abQ h.2
 rw[e1,e2]
theorem abS{j k:TK}(h:NQ j=NQ k):j=k:=by
 have h:=EV h
 induction j generalizing k with
 |nil=>cases k with
  |nil=>rfl
  |cons _ _=>simp at h
 |cons a l ih=>cases k with
  |nil=>simp at h
  |cons b m=>
   simp only[bg,iE]at h
   rw[ih (congrArg QB h.2) h.2,abR h.1]
theorem abT:∀l m:List Nat,fh (T5 l) (T5 m)=decide (l=m):=by
 intro l m
 show eY (l.map fun n:Nat=>.int (n:Int)) (m.map fun n:Nat=>.int (n:Int))=_
 induction l generalizing m with
 |nil=>cases m<;>simp[eY]
 |cons a l ih=>cases m with
  |nil=>simp[eY]
  |cons b m=>
   show(((a:Int)==(b:Int))&&eY _ _)=_
   rw[ih]
   by_cases e:a=b
   ·subst e;simp
   ·rw[dU.mpr (fun z:(a:Int)=b=>e (by omega))]
    simp[e]
theorem abU(p q:Nat×List Nat):fh (Js p) (Js q)=decide (p=q):=by
 show(((p.1:Int)==(q.1:Int))&&(fh (T5 p.2) (T5 q.2)&&true))=_
 rw[abT]
 obtain⟨a,l⟩:=p
 obtain⟨b,m⟩:=q
 by_cases e:a=b
 ·subst e;simp
 ·rw[dU.mpr (fun z:(a:Int)=b=>e (by omega))]
  simp[e]
theorem abV:∀j k:TK,fh (NQ j) (NQ k)=decide (j=k):=by
 intro j k
 show eY (j.map Js) (k.map Js)=_
 induction j generalizing k with
 |nil=>cases k<;>simp[eY]
 |cons a l ih=>cases k with
  |nil=>simp[eY]
  |cons b m=>
   show(fh (Js a) (Js b)&&eY _ _)=_
   rw[ih,abU]
   simp[iE]
theorem abW(l:List Nat):gu (T5 l)=true:=by
 show lI (l.map fun n:Nat=>.int (n:Int))=true
 induction l with
 |nil=>rfl
 |cons a l ih=>exact(g8 _).trans ih
theorem OV(k:TK):gu (NQ k)=true:=by
 show lI (k.map Js)=true
 induction k with
 |nil=>rfl
 |cons a l ih=>
  have e:gu (Js a)=true:=by
   show(true&&(gu (T5 a.2)&&true))=true
   rw[abW]
   rfl
  show(gu (Js a)&&lI (l.map Js))=true
  rw[e,ih]
  rfl
theorem WL(l:List Nat):gK (T5 l)=1:=by
 show e8 (l.map fun n:Nat=>.int (n:Int))+1=1
 have:e8 (l.map fun n:Nat=>.int (n:Int))=0:=by
  induction l with
  |nil=>rfl
  |cons a l ih=>
   show max 0 (e8 _)=0
   rw[ih]
   rfl
 omega
theorem WM(k:TK):gK (NQ k)<=3:=by
 show e8 (k.map Js)+1<=3
 have:e8 (k.map Js)<=2:=by
  induction k with
  |nil=>show 0<=2;decide
  |cons a l ih=>
   have e:gK (Js a)=2:=by
    show max 0 (max (gK (T5 a.2)) 0)+1=2
    rw[WL]
    rfl
   show max (gK (Js a)) (e8 (l.map Js))<=2
   omega
 omega
section
variable{prog:bD}{w:cC}
def HA(prog:bD)(w:cC)(A:eG)(h:cY)(v:ao)(n:Int)(d:Nat):Prop:=
 ∀(E:ao->aN->Prop)(s:aN)(Q:Int->aN->Prop),s.heap=h->Q n {s with toks:=s.toks+d}->b8 (cI prog w) A (pyHash v) Q E s
inductive yF(prog:bD)(w:cC)(A:eG)(h:cY):List ao->List (Int×Nat)->Prop
 |nil:yF prog w A h [] []
 |cons {v vs n d r}:HA prog w A h v n d->yF prog w A h vs r->yF prog w A h (v::vs) ((n,d)::r)
def pY(l:List (Int×Nat)):Nat:=(l.map (·.2)).sum
theorem Rj(A:eG)(h:cY)(i:Int)(t:Tok):HA prog w A h (.int i t) (Nl i) 1:=fun E s Q _ q=>wpAny_pyHash_int q
theorem E2{A:eG}{h:cY}{a:ak}{o:mC}{items:Array ao}{n:Nat}{hs:List (Int×Nat)}(ga:h.get? a=some o)(gc:o.cls=.type "tuple")(gd:o.data=.seq items n)(hv:yF prog w A.in1 h items.toList hs)(room:A.units<qD):HA prog w A h (.ref a) (Mj (iX (hs.map (·.1)))) (pY hs+1):=by
 intro E s Q eh q
 subst eh
 have ty:s.TypeIs (.ref a) "tuple":=⟨o,ga,gc⟩
 unfold pyHash pyHashByItsType
 refine aP (wpAny_cRoomFor_or (.inr room) (aP (F7 ty Ca.lookup ?_)))
 show b8 _ _ (if(some (adJ "tuple.__hash__")==some Co)=true then _ else _) Q E s
 rw[aD (show¬(some (adJ "tuple.__hash__")==some Co)=true by rw[beq_builtin_none];exact aF)]
 refine aP (F7 ty Ca.lookup (aP ?_))
 refine wpAny_callSpecialIfBoundUnlessNone?_slot ty Ca (P9 Ca ty F.entry_tuple_hash ?_ (F.args_tuple_hash_1 _))
 show b8 _ _ (G9 (.ref a)>>=_) _ _ s
 refine aP (wpAny_tupleItemsOf ga gd (aP ?_))
 rw[<-Hi]
 refine wpAny_forIn_list _
  (fun o9(b:Array Int)s'=>∃done left,hs=done++left/\yF prog w A.in1 s.heap o9 left/\b.toList=done.map (·.1)/\s'={s with toks:=s.toks+pY done}) _ ?_ ?_ _ _ ⟨[],hs,rfl,hv,rfl,rfl⟩
 ·rintro x o9 b s' ⟨done,left,e,hl,hb,rfl⟩
  cases hl with
  |@cons _ _ m d r h1 hl'=>
   have dr:pY (done++[(m,d)])=pY done+d:=by simp[pY]
   have agl:∃Zf ac9,hs=Zf++ac9/\yF prog w A.in1 s.heap o9 ac9/\(b.push m).toList=Zf.map (·.1)/\({s with toks:=s.toks+pY done+d}:aN)={s with toks:=s.toks+pY Zf}:=
    ⟨done++[(m,d)],r,by rw[e];simp,hl',by simp[hb],by rw[dr,SJ]⟩
   refine aP (h1 _ _ _ rfl ?_)
   first
    |exact bR agl
    |exact aP (bR (bR agl))
 ·rintro b s' ⟨done,left,e,hl,hb,rfl⟩
  cases hl
  rw[cQ]at e
  subst e
  show b8 _ _ (retInt (iX b.toList)) _ _ _
  rw[hb]
  refine wpAny_ret_mkInt ?_
  generalize iX (hs.map (·.1))=z at q⊢
  show b8 _ _ (if(decide (-(2:Int)^63<=z)&&decide (z<2^63))=true then _ else _) Q E _
  unfold Mj at q
  by_cases hz:(decide (-(2:Int)^63<=z)&&decide (z<2^63))=true
  ·rw[aG hz]at q⊢
   exact bR (by simpa[SJ]using q)
  ·rw[aD hz]at q⊢
   exact aP (wpAny_rule (bR (by simpa[SJ]using q)))
def AZ(prog:bD)(w:cC)(h:cY)(m:Nat)(v:ao):Prop:=
 ∀(A:eG)(E:ao->aN->Prop)(s:aN)(Q:Bool->aN->Prop),s.heap=h->Q true s->b8 (cI prog w) A (eqIsQuiet m v) Q E s
theorem NR{h:cY}{m:Nat}{v:ao}(hv:carriedByValue v=true):AZ prog w h m v:=fun A E s Q _ q=>by
 rw[eqIsQuiet_byValue m hv]
 exact bR q
theorem CW{h:cY}{m:Nat}{a:ak}{o:mC}{items:Array ao}{n:Nat}(ga:h.get? a=some o)(gc:o.cls=.type "tuple")(gd:o.data=.seq items n)(hv:∀v∈items.toList,AZ prog w h m v):AZ prog w h (m+1) (.ref a):=by
 intro A E s Q eh q
 subst eh
 have ty:s.TypeIs (.ref a) "tuple":=⟨o,ga,gc⟩
 unfold eqIsQuiet
 refine aP (F7 ty F.slot_tuple_eq.lookup ?_)
 show b8 _ _ (isInstance (.ref a) (.type "tuple")>>=_) _ _ s
 refine aP (wpAny_isInstance ty isSubtype_tuple_tuple ?_)
 simp only[Bool.not_true,kU,if_false]
 refine aP (wpAny_seqItems ga gd (aP ?_))
 show b8 _ _ (forIn items _ _) _ _ s
 rw[<-Hi]
 refine wpAny_forIn_list _ (fun o9 r s'=>r.1=none/\s'=s/\∀v∈o9,AZ prog w s.heap m v) _ ?_ ?_ _ _ ⟨rfl,rfl,hv⟩
 ·rintro v o9 r s' ⟨hr,rfl,al⟩
  refine aP (al v cV _ _ _ _ rfl ?_)
  simp only[Bool.not_true,kU,if_false]
  exact bR ⟨rfl,rfl,fun u hu=>al u (bO _ hu)⟩
 ·rintro⟨r1,r2⟩ s' ⟨hr,rfl,_⟩
  simp only at hr
  subst hr
  exact bR q
def hNs(l:List Nat):Int:=Mj (iX (l.map fun n:Nat=>Nl n))
def hPr(p:Nat×List Nat):Int:=Mj (iX [Nl p.1,hNs p.2])
def hTk(k:TK):Int:=Mj (iX (k.map hPr))
def dPr(p:Nat×List Nat):Nat:=1+(p.2.length+1)+1
def dTk(k:TK):Nat:=(k.map dPr).sum+1
theorem zh{h:cY}:∀{l:List Nat}{vs:List ao}{as:List ak},acM h vs (l.map fun n:Nat=>jS (n:Int)) as->∃ts:List Tok,ts.length=l.length/\vs=(l.zip ts).map fun p=>ET (p.1:Int) p.2
 |[],_,_,.nil=>⟨[],rfl,rfl⟩
 |n::l,_,_,.cons (.int _ t) r=>by
  obtain⟨ts,h1,h2⟩:=zh r
  exact⟨t::ts,by simp[h1],by rw[h2];rfl⟩
theorem Gq{A:eG}{h:cY}:∀{l:List Nat}{ts:List Tok},ts.length=l.length->yF prog w A h ((l.zip ts).map fun p=>ET (p.1:Int) p.2) (l.map fun n:Nat=>(Nl n,1))
 |[],[],_=>.nil
 |n::l,t::ts,e=>.cons (Rj A h n t) (Gq (by simpa using e))
theorem abX{A:eG}{h:cY}{v:ao}{l:List Nat}{as:List ak}(r:Ae h v (T5 l) as)(room:A.units<qD):HA prog w A h v (hNs l) (l.length+1):=by
 cases r with
 |tuple ga gc gd rs=>
  obtain⟨ts,e1,e2⟩:=zh rs
  have q:=E2 (prog:=prog) (w:=w) (A:=A) ga gc gd (by rw[e2];exact Gq e1) room
  have e3:pY (l.map fun n:Nat=>(Nl n,1))=l.length:=by
   unfold pY
   rw[aR]
   clear q e1 e2 rs
   induction l with
   |nil=>rfl
   |cons a l ih=>simp[ih];omega
  rw[e3,aR]at q
  exact q
theorem abY{A:eG}{h:cY}{v:ao}{p:Nat×List Nat}{as:List ak}(r:Ae h v (Js p) as)(room:A.units+1<qD):HA prog w A h v (hPr p) (dPr p):=by
 cases r with
 |tuple ga gc gd rs=>
  rename_i o vs n
  cases e:vs.toList with
  |nil=>rw[e]at rs;cases rs
  |cons v1 r1=>
   rw[e]at rs
   cases rs with
   |cons a1 b1=>
    cases b1 with
    |cons a2 b2=>
     cases b2
     cases a1
     have q:=E2 (prog:=prog) (w:=w) (A:=A) ga gc gd (by rw[e];exact .cons (Rj _ _ _ _) (.cons (abX a2 room) .nil)) (by omega)
     have e3:pY [(Nl p.1,1),(hNs p.2,p.2.length+1)]+1=dPr p:=by
      unfold pY dPr
      simp
     rw[e3]at q
     exact q
theorem IC{A:eG}{h:cY}(room:A.units+1<qD):∀{k:TK}{vs:List ao}{as:List ak},acM h vs (k.map Js) as->yF prog w A h vs (k.map fun p=>(hPr p,dPr p))
 |[],_,_,.nil=>.nil
 |p::k,_,_,.cons a r=>.cons (abY a room) (IC room r)
theorem abZ{A:eG}{h:cY}{v:ao}{k:TK}{as:List ak}(r:Ae h v (NQ k) as)(room:A.units+2<qD):HA prog w A h v (hTk k) (dTk k):=by
 cases r with
 |tuple ga gc gd rs=>
  have q:=E2 (prog:=prog) (w:=w) (A:=A) ga gc gd (IC (by show A.units+1+1<qD;omega) rs) (by omega)
  have e3:pY (k.map fun p=>(hPr p,dPr p))+1=dTk k:=by
   unfold pY dTk
   rw[aR]
   rfl
  rw[e3,aR]at q
  exact q
theorem Zg{h:cY}{m:Nat}{v:ao}{l:List Nat}{as:List ak}(r:Ae h v (T5 l) as):AZ prog w h (m+1) v:=by
 cases r with
 |tuple ga gc gd rs=>
  refine CW ga gc gd fun u hu=>NR ?_
  obtain⟨ts,e1,e2⟩:=zh rs
  rw[e2]at hu
  obtain⟨p,_,rfl⟩:=bI.mp hu
  rfl
theorem Zh{h:cY}{m:Nat}{v:ao}{p:Nat×List Nat}{as:List ak}(r:Ae h v (Js p) as):AZ prog w h (m+2) v:=by
 cases r with
 |tuple ga gc gd rs=>
  rename_i o vs n
  refine CW ga gc gd fun u hu=>?_
  generalize vs.toList=us at rs hu
  cases rs with
  |cons a1 b1=>
   cases b1 with
   |cons a2 b2=>
    cases b2
    cases a1
    rcases aW.mp hu with rfl|hu
    ·exact NR rfl
    ·rw[bJ.mp hu]
     exact Zg a2
theorem NS{h:cY}:∀{k:TK}{vs:List ao}{as:List ak}{u:ao},acM h vs (k.map Js) as->u∈vs->∃p bs,Ae h u (Js p) bs
 |[],_,_,_,.nil,hu=>by simp at hu
 |p::k,_,_,u,.cons a r,hu=>by
  rcases aW.mp hu with rfl|hu
  ·exact⟨p,_,a⟩
  ·exact NS r hu
theorem Zi{h:cY}{m:Nat}{v:ao}{k:TK}{as:List ak}(r:Ae h v (NQ k) as):AZ prog w h (m+3) v:=by
 cases r with
 |tuple ga gc gd rs=>
  refine CW ga gc gd fun u hu=>?_
  obtain⟨p,bs,q⟩:=NS rs hu
  exact Zh q
theorem Zj{h h':cY}{v:ao}{l:List Nat}{as:List ak}(k:∀b o items n,h.get? b=some o->o.data=.seq items n->h'.get? b=some o)(r:Ae h v (T5 l) as):Ae h' v (T5 l) as:=by
 cases r with
 |tuple ga gc gd rs=>
  refine .tuple (k _ _ _ _ ga gd) gc gd ?_
  rename_i o vs n
  generalize vs.toList=us at rs
  clear ga gc gd
  induction l generalizing us as with
  |nil=>cases rs;exact .nil
  |cons a l ih=>
   cases rs with
   |cons x y=>
    cases x
    exact .cons (.int _ _) (ih _ y)
theorem Zk{h h':cY}{v:ao}{p:Nat×List Nat}{as:List ak}(k:∀b o items n,h.get? b=some o->o.data=.seq items n->h'.get? b=some o)(r:Ae h v (Js p) as):Ae h' v (Js p) as:=by
 cases r with
 |tuple ga gc gd rs=>
  refine .tuple (k _ _ _ _ ga gd) gc gd ?_
  rename_i o vs n
  generalize vs.toList=us at rs
  cases rs with
  |cons a1 b1=>
   cases b1 with
   |cons a2 b2=>
    cases b2
    cases a1
    exact .cons (.int _ _) (.cons (Zj k a2) .nil)
theorem Zl{h h':cY}{v:ao}{j:TK}{as:List ak}(k:∀b o items n,h.get? b=some o->o.data=.seq items n->h'.get? b=some o)(r:Ae h v (NQ j) as):Ae h' v (NQ j) as:=by
 cases r with
 |tuple ga gc gd rs=>
  refine .tuple (k _ _ _ _ ga gd) gc gd ?_
  rename_i o vs n
  generalize vs.toList=us at rs
  clear ga gc gd
  induction j generalizing us as with
  |nil=>cases rs;exact .nil
  |cons a l ih=>
   cases rs with
   |cons x y=>exact .cons (Zk k x) (ih _ y)
end
def HB(prog:bD)(w:cC):HeapKind prog w TK where
 is:=fun h k a=>∃as,Ae h (.ref a) (NQ k) as
 hash:=hTk
 draws:=dTk
 room:=fun A=>A.units+8<qD
 inj:=fun⟨_,x⟩⟨_,y⟩=>abS (Qc _ _ _ _ _ (OV _) x y)
 keeps:=fun{h h' k a d o es ep}⟨as,x⟩ho hd hs=>⟨as,Zl (fun b ob items n e c=>(hs.2 b (by
  intro e2
  rw[e2,ho]at e
  cases e
  rw[hd]at c
  cases c)).trans e) x⟩
 pyHash:=fun hu⟨as,x⟩q=>abZ x (by omega) _ _ _ rfl q
 eqBool:=fun{A E s x y a b Q}hu⟨as,p⟩⟨bs,r⟩q=>by
  have dx:=WM x
  have e:=abV x y
  exact aa1 _ _ A s _ _ _ _ p r (OV x) (OV y) (by have:min (gK (NQ x)) (gK (NQ y))<=3:=bQ (Nat.min_le_left _ _) dx;omega) prog w E Q (by rw[e];exact q)
 quiet:=fun{A E s k a Q}⟨as,x⟩q=>Zi (m:=5) x A E s Q rfl q
abbrev KY:=List (TK×ak×ak)
def HC(dh:KY):List (TK×ak×ao):=dh.map fun p=>(p.1,p.2.1,dI p.2.2)
def WN(P:bD)(w:cC)(d:ak)(dh:KY):HO:=.ext fun h=>(d==nX)=false/\dh.length<=aK/\
 ∃o es ep,h.get? d=some o/\o.ExactDict/\o.data=.dict es ep/\es.toList=(HC dh).map (entryOfKey (HB P w))/\(dh.map (·.1)).Nodup
def KZ(K:ah)(H:Hp)(dh:KY):Prop:=∀p∈dh,Dx K H (.ref p.2.1) (NQ p.1)
def xC(dh:KY)(k:TK):Option ak:=(dh.find? fun p=>decide (p.1=k)).map (·.2.2)
section
variable{X:Cx}{pins:List (ak×mC)}{σ:St}{H:Hp}{s:aN}{d b:ak}{dh:KY}{k:TK}
theorem Gr:∀(dh:KY)(k:TK),((Iu (HC dh) k).map (·.2))=(xC dh k).map dI
 |[],k=>rfl
 |p::dh,k=>by
  have ih:=Gr dh k
  unfold Iu xC HC at *
  rw[bg,g5,g5]
  by_cases e:p.1=k
  ·simp only[aI e]
   rfl
  ·simp only[aH e]
   exact ih
theorem VL(dh:KY):(HC dh).map (·.1)=dh.map (·.1):=by
 unfold HC
 rw[aR]
 rfl
theorem dO.dX(I:dO X pins σ H s)(e:H d=some (WN X.prog X.w d dh))(ks:KZ X.K H dh):(d==nX)=false/\dh.length<=aK/\s.heap.DictOfH (HB X.prog X.w) d (HC dh):=by
 obtain⟨⟨h1,h2,o,es,ep,q1,q2,q3,q4,q5⟩,_⟩:=I.dz d _ e
 refine⟨h1,h2,o,es,ep,q1,q2,q3,q4,fun x hx=>?_,by rw[VL];exact q5⟩
 obtain⟨p,hp,rfl⟩:=bI.mp hx
 exact Dp.reads I _ _ _ (ks p hp).dp rfl
theorem dO.tk(I:dO X pins σ H s)(h:Dx X.K H (.ref b) (NQ k)):(HB X.prog X.w).is s.heap k b:=Dp.reads I _ _ _ h.dp rfl
theorem Zm{P:bD}{w:cC}{H:Hp}(h:cY)(hb:nX<h.objs.size):kP P w H (h.push {cls:=.type "dict",data:=.dict #[]}) h.objs.size (WN P w h.objs.size []):=
 ⟨⟨dU.mpr (iG (d8 hb)),bE _,_,#[],0,cF _ rfl,⟨rfl,rfl,rfl⟩,rfl,rfl,adI⟩,⟨_,cF _ rfl⟩,
  fun h1 h2⟨a,b,o,es,ep,q1,q⟩k=>⟨a,b,o,es,ep,k o q1,q⟩⟩
end
section
variable{X:Cx}{o i e value:fK}{pos AV Gd:AB}{td ty tv:TE}
def aes(P:bD)(w:cC):TE:=fun _ H Q=>∀p,H p=none->Q (.ref p) (upd H p (WN P w p []))
theorem Zn:PE X (.Dict [] [] pos) (aes X.prog X.w):=fun pins s σ H Q I h=>
 wpAny_Dict_empty ⟨.ref s.heap.objs.size,_,I.laid (a:=s.heap.objs.size) (o:=WN X.prog X.w s.heap.objs.size []) (t':=s.toks) (fun _ _ q=>bh _ q) (aV _) (Zm s.heap I.big),rfl,h _ (I.dz.fresh (aV _))⟩
def VM(P:bD)(w:cC)(K:ah)(H:Hp)(x y:V)(d b:ak)(dh:KY)(k:TK):Prop:=
 x=.ref d/\y=.ref b/\H d=some (WN P w d dh)/\KZ K H dh/\Dx K H (.ref b) (NQ k)
def Zo(P:bD)(w:cC)(K:ah)(ty td:TE):TE:=fun σ H Q=>ty σ H fun y H1=>td σ H1 fun x H2=>∃d b dh k,VM P w K H2 x y d b dh k/\Q (.bl (!(xC dh k).isSome)) H2
def aet(P:bD)(w:cC)(K:ah)(td ty:TE):TE:=fun σ H Q=>td σ H fun x H1=>ty σ H1 fun y H2=>∃d b dh k r,VM P w K H2 x y d b dh k/\xC dh k=some r/\Q (.ref r) H2
def aeu(P:bD)(w:cC)(K:ah)(td ty tv:TE):TS:=fun D σ H=>tv σ H fun v H1=>td σ H1 fun x H2=>ty σ H2 fun y H3=>∃d b dh k r,VM P w K H3 x y d b dh k/\xC dh k=none/\v=.ref r/\dh.length<aK/\
 D.nx σ (upd H3 d (WN P w d (dh++[(k,b,r)])))
theorem T6(hu:X.A.units+9<qD)(hi:PE X i ty)(ho:PE X o td):PC X .NotIn i o (Zo X.prog X.w X.K ty td):=by
 intro pins s σ H Q I h
 refine jw (hi pins s σ H _ I h) fun iv s1⟨y,H1,I1,ry,q1⟩=>jw (ho pins s1 σ H1 _ I1 q1) fun u s2⟨x,H2,I2,rx,d,b,dh,k,⟨ex,ey,e1,e2,e3⟩,q2⟩=>?_
 subst ex ey
 cases rx
 cases ry
 obtain⟨z1,z2,z3⟩:=I2.dX e1 e2
 refine wpAny_notIn_heap (knd:=HB X.prog X.w) (show X.A.units+1+8<qD from hu) (I2.tk e3) z1 z3 ?_
 have a:=congrArg Option.isSome (Gr dh k)
 rw[tV,tV]at a
 rw[a]
 exact⟨.bl _,H2,I2.tok _,rfl,q2⟩
theorem Zp(hu:X.A.units+9<qD)(ho:PE X o td)(hi:PE X i ty)(hs:aek i):PE X (.Subscript o i pos) (aet X.prog X.w X.K td ty):=by
 intro pins s σ H Q I h
 refine VD Mw.lookup hs (jw (ho pins s σ H _ I h) fun u s1⟨x,H1,I1,rx,q1⟩=>jw (hi pins s1 σ H1 _ I1 q1) fun iv s2⟨y,H2,I2,ry,d,b,dh,k,r,⟨ex,ey,e1,e2,e3⟩,e4,q2⟩=>?_)
 subst ex ey
 cases rx
 cases ry
 obtain⟨z1,z2,z3⟩:=I2.dX e1 e2
 have a:=Gr dh k
 rw[e4]at a
 obtain⟨p,hp,hp2⟩:=jf.mp (show(Iu (HC dh) k).map (·.2)=some (dI r)from a)
 refine⟨z3.typeIs,wpAny_getItem_heap (knd:=HB X.prog X.w) (show X.A.units+1+8<qD from hu) (I2.tk e3) z3 hp ?_⟩
 rw[hp2]
 exact⟨.ref r,H2,I2.tok _,rfl,q2⟩
theorem Zq(hu:X.A.units+9<qD)(ho:PE X o td)(hi:PE X i ty)(hv:PE X value tv)(hs:AL value (some (.Subscript o i AV)) pos.line X.env=pure false):PS X (.Assign [.Subscript o i AV] value pos) (aeu X.prog X.w X.K td ty tv):=by
 intro pins s σ H D I h
 refine aa0 (jw (hv pins s σ H _ I h) fun r s1⟨v,H1,I1,rv,q1⟩=>jw (ho pins s1 σ H1 _ I1 q1) fun u s2⟨x,H2,I2,rx,q2⟩=>jw (hi pins s2 σ H2 _ I2 q2) fun iv s3⟨y,H3,I3,ry,d,b,dh,k,r',⟨ex,ey,e1,e2,e3⟩,e4,ev,hl,q3⟩=>?_) hs
 subst ex ey ev
 cases rx
 cases ry
 cases rv
 obtain⟨z1,z2,z3⟩:=I3.dX e1 e2
 have hz:(HC dh).length<=aK:=by unfold HC;rw[aa];exact z2
 have hno:Iu (HC dh) k=none:=by
  have a:=Gr dh k
  rw[e4]at a
  exact QC.mp a
 refine wpAny_setItem_heap (hsz:=hz) (knd:=HB X.prog X.w) (show X.A.units+1+8<qD from hu) (I3.tk e3) z3 fun h' dd' sb=>?_
 rw[storedH_new hno]at dd'
 obtain⟨q,es,ep,hq,h2,h3,h4,_,h5⟩:=dd'
 have ex2:HC dh++[(k,b,dI r')]=HC (dh++[(k,b,r')]):=by unfold HC;rw[bu];rfl
 rw[ex2]at h4 h5
 rw[VL]at h5
 refine⟨σ,_,OS I3 (by rw[e1];exact yZ) sb ⟨q,hq⟩ (ob:=WN X.prog X.w d (dh++[(k,b,r')])) ⟨⟨z1,by rw[au];exact hl,q,es,ep,hq,h2,h3,h4,h5⟩,⟨q,hq⟩,
  fun h1 h2⟨a,b,o,es,ep,q1,q⟩k=>⟨a,b,o,es,ep,k o q1,q⟩⟩,q3⟩
end
def lR(i:Nat):d9:=PySem.Challenge.pw_trackmarks_s01_answers.main.body.getD i (.Pass ⟨0,0,0,0⟩)
abbrev D3:d9:=lR 8
theorem T7:bM ["number"] ["number"] (aY D3):=⟨rfl,rfl,rfl,by decide+kernel,rfl,by decide+kernel,by decide+kernel⟩
abbrev yG:d9:=lR 9
theorem A0:bM ["numbers","number"] ["numbers"] (aY yG):=⟨rfl,rfl,rfl,by decide+kernel,rfl,by decide+kernel,by decide+kernel⟩
abbrev qQ:d9:=lR 10
theorem uo:bM ["signs","sign"] ["signs"] (aY qQ):=⟨rfl,rfl,rfl,by decide+kernel,rfl,by decide+kernel,by decide+kernel⟩
abbrev wG:d9:=lR 11
theorem MO:bM ["signs"] ["signs"] (aY wG):=⟨rfl,rfl,rfl,by decide+kernel,rfl,by decide+kernel,by decide+kernel⟩
abbrev qR:d9:=lR 12
theorem HD:bM ["text"] ["text"] (aY qR):=⟨rfl,rfl,rfl,by decide+kernel,rfl,by decide+kernel,by decide+kernel⟩
abbrev pZ:d9:=lR 13
theorem yH:bM ["letter","prop","value","look"] ["letter","prop","value"] (aY pZ):=⟨rfl,rfl,rfl,by decide+kernel,rfl,by decide+kernel,by decide+kernel⟩
abbrev oM:d9:=lR 14
theorem kr:bM ["old_letter","new_letter","old_look","new_look","prop"] ["old_letter","new_letter"] (aY oM):=⟨rfl,rfl,rfl,by decide+kernel,rfl,by decide+kernel,by decide+kernel⟩
abbrev wH:d9:=lR 15
theorem MP:bM ["old_letter","new_letter"] ["old_letter","new_letter"] (aY wH):=⟨rfl,rfl,rfl,by decide+kernel,rfl,by decide+kernel,by decide+kernel⟩
abbrev A1:d9:=lR 19
theorem Rk:bM ["number"] ["number"] (aY A1):=⟨rfl,rfl,rfl,by decide+kernel,rfl,by decide+kernel,by decide+kernel⟩
abbrev sI:d9:=lR 20
theorem Jt:bM ["sign"] ["sign"] (aY sI):=⟨rfl,rfl,rfl,by decide+kernel,rfl,by decide+kernel,by decide+kernel⟩
abbrev yI:d9:=lR 21
theorem A2:bM ["text","grain","letter"] ["text","grain"] (aY yI):=⟨rfl,rfl,rfl,by decide+kernel,rfl,by decide+kernel,by decide+kernel⟩
abbrev uS:d9:=lR 22
theorem mF:bM ["letters","tokens","within_word","letter","goes_on"] ["letters"] (aY uS):=⟨rfl,rfl,rfl,by decide+kernel,rfl,by decide+kernel,by decide+kernel⟩
abbrev D4:d9:=lR 23
theorem E3:bM ["token","letter"] ["token"] (aY D4):=⟨rfl,rfl,rfl,by decide+kernel,rfl,by decide+kernel,by decide+kernel⟩
abbrev yJ:d9:=lR 28
theorem wI:bM ["old_token","new_token","one","other"] ["old_token","new_token"] (aY yJ):=⟨rfl,rfl,rfl,by decide+kernel,rfl,by decide+kernel,by decide+kernel⟩
abbrev A3:d9:=lR 29
theorem vz:bM ["old_token","new_tokens","new_words","word","row","place","new_token"] ["old_token","new_tokens","new_words"] (aY A3):=⟨rfl,rfl,rfl,by decide+kernel,rfl,by decide+kernel,by decide+kernel⟩
abbrev wJ:d9:=lR 30
theorem lK:bM ["old_tokens","new_tokens","new_words","known","table","old_token","key","token"] ["old_tokens","new_tokens"] (aY wJ):=⟨rfl,rfl,rfl,by decide+kernel,rfl,by decide+kernel,by decide+kernel⟩
abbrev qU:d9:=lR 31
theorem uq:bM ["new_sizes","costs","size"] ["new_sizes"] (aY qU):=⟨rfl,rfl,rfl,by decide+kernel,rfl,by decide+kernel,by decide+kernel⟩
abbrev A4:d9:=lR 32
theorem lu:bM ["old_size","new_sizes","keeps","below","costs","place","least","with_put","keep","cost"] ["old_size","new_sizes","keeps","below"] (aY A4):=⟨rfl,rfl,rfl,by decide+kernel,rfl,by decide+kernel,by decide+kernel⟩
abbrev wK:d9:=lR 33
theorem zj:bM ["old_sizes","new_sizes","keeps","table","place"] ["old_sizes","new_sizes","keeps"] (aY wK):=⟨rfl,rfl,rfl,by decide+kernel,rfl,by decide+kernel,by decide+kernel⟩
abbrev m9:d9:=fR (lR 34) 0
theorem jU:bM ["self","old_text","new_text","grain","token"] ["self","old_text","new_text","grain"] (aY m9):=⟨rfl,rfl,rfl,by decide+kernel,rfl,by decide+kernel,by decide+kernel⟩
abbrev lA:d9:=fR (lR 34) 1
theorem Cg:bM ["self"] ["self"] (aY lA):=⟨rfl,rfl,rfl,by decide+kernel,rfl,by decide+kernel,by decide+kernel⟩
abbrev m_:d9:=fR (lR 34) 2
theorem wz:bM ["self","i","j","keep"] ["self","i","j"] (aY m_):=⟨rfl,rfl,rfl,by decide+kernel,rfl,by decide+kernel,by decide+kernel⟩
abbrev ng:d9:=fR (lR 34) 3
theorem Er:bM ["self","i","j"] ["self","i","j"] (aY ng):=⟨rfl,rfl,rfl,by decide+kernel,rfl,by decide+kernel,by decide+kernel⟩
abbrev l9:d9:=fR (lR 34) 4
theorem CY:bM ["self","i","j"] ["self","i","j"] (aY l9):=⟨rfl,rfl,rfl,by decide+kernel,rfl,by decide+kernel,by decide+kernel⟩
abbrev jZ:d9:=fR (lR 34) 5
theorem fU:bM ["self","steps","i","j","step"] ["self"] (aY jZ):=⟨rfl,rfl,rfl,by decide+kernel,rfl,by decide+kernel,by decide+kernel⟩
abbrev oN:d9:=fR (lR 40) 0
theorem E4:bM ["self","kind","put_places","dropped_places","painted_places","painted_property"] ["self","kind","put_places","dropped_places","painted_places","painted_property"] (aY oN):=⟨rfl,rfl,rfl,by decide+kernel,rfl,by decide+kernel,by decide+kernel⟩
abbrev yK:d9:=lR 41
theorem p5:bM ["marks","found","before","place","mark"] ["marks"] (aY yK):=⟨rfl,rfl,rfl,by decide+kernel,rfl,by decide+kernel,by decide+kernel⟩
abbrev p6:d9:=lR 42
theorem sJ:bM ["row","fate","piece"] ["row","fate"] (aY p6):=⟨rfl,rfl,rfl,by decide+kernel,rfl,by decide+kernel,by decide+kernel⟩
abbrev uT:d9:=lR 43
theorem CZ:bM ["piece","prop","entry"] ["piece","prop"] (aY uT):=⟨rfl,rfl,rfl,by decide+kernel,rfl,by decide+kernel,by decide+kernel⟩
abbrev Gs:d9:=lR 44
theorem wY:bM ["row","found","prop","places","piece"] ["row"] (aY Gs):=⟨rfl,rfl,rfl,by decide+kernel,rfl,by decide+kernel,by decide+kernel⟩
abbrev wL:d9:=lR 45
theorem zm:bM ["row","places","place"] ["row","places"] (aY wL):=⟨rfl,rfl,rfl,by decide+kernel,rfl,by decide+kernel,by decide+kernel⟩
abbrev wM:d9:=lR 46
theorem zo:bM ["row","cut_places","puts","letters","put_places"] ["row","cut_places","puts"] (aY wM):=⟨rfl,rfl,rfl,by decide+kernel,rfl,by decide+kernel,by decide+kernel⟩
abbrev kG:d9:=lR 47
theorem gf:bM ["row","least","found","puts","cut_places","partner","put_places"] ["row","least"] (aY kG):=⟨rfl,rfl,rfl,by decide+kernel,rfl,by decide+kernel,by decide+kernel⟩
abbrev OW:d9:=lR 48
theorem ab0:bM ["change"] ["change"] (aY OW):=⟨rfl,rfl,rfl,by decide+kernel,rfl,by decide+kernel,by decide+kernel⟩
abbrev wN:d9:=lR 49
theorem MQ:bM ["row","least"] ["row","least"] (aY wN):=⟨rfl,rfl,rfl,by decide+kernel,rfl,by decide+kernel,by decide+kernel⟩
abbrev l_:d9:=lR 50
theorem iM:bM ["row","changes","numbers","number","change","place","piece"] ["row","changes"] (aY l_):=⟨rfl,rfl,rfl,by decide+kernel,rfl,by decide+kernel,by decide+kernel⟩
abbrev lB:d9:=lR 51
theorem iA:bM ["row","changes","numbers","number","change","place","piece"] ["row","changes"] (aY lB):=⟨rfl,rfl,rfl,by decide+kernel,rfl,by decide+kernel,by decide+kernel⟩
abbrev p7:d9:=fR (lR 53) 0
theorem Gu:bM ["self","fate","letter","entries"] ["self","fate","letter","entries"] (aY p7):=⟨rfl,rfl,rfl,by decide+kernel,rfl,by decide+kernel,by decide+kernel⟩
abbrev uU:d9:=lR 54
theorem sL:bM ["old_letters","new_letters","one","other"] ["old_letters","new_letters"] (aY uU):=⟨rfl,rfl,rfl,by decide+kernel,rfl,by decide+kernel,by decide+kernel⟩
abbrev uV:d9:=lR 55
theorem xD:bM ["fate","letters","letter"] ["fate","letters"] (aY uV):=⟨rfl,rfl,rfl,by decide+kernel,rfl,by decide+kernel,by decide+kernel⟩
abbrev qV:d9:=lR 56
theorem mG:bM ["old_text","new_text","scripts","row","step","i","j"] ["old_text","new_text","scripts"] (aY qV):=⟨rfl,rfl,rfl,by decide+kernel,rfl,by decide+kernel,by decide+kernel⟩
abbrev kH:d9:=fR (lR 58) 0
theorem A5:bM ["self","row","changes","cost"] ["self","row","changes","cost"] (aY kH):=⟨rfl,rfl,rfl,by decide+kernel,rfl,by decide+kernel,by decide+kernel⟩
abbrev A6:d9:=lR 59
theorem C0:bM ["old_text","new_text","grain","least","scripts","row"] ["old_text","new_text","grain","least"] (aY A6):=⟨rfl,rfl,rfl,by decide+kernel,rfl,by decide+kernel,by decide+kernel⟩
abbrev nh:d9:=lR 60
theorem Es:bM ["old_text","new_text","grain"] ["old_text","new_text","grain"] (aY nh):=⟨rfl,rfl,rfl,by decide+kernel,rfl,by decide+kernel,by decide+kernel⟩
abbrev kI:d9:=fR (lR 62) 0
theorem A7:bM ["self","calls"] ["self","calls"] (aY kI):=⟨rfl,rfl,rfl,by decide+kernel,rfl,by decide+kernel,by decide+kernel⟩
abbrev kJ:d9:=fR (lR 62) 1
theorem A8:bM ["self"] ["self"] (aY kJ):=⟨rfl,rfl,rfl,by decide+kernel,rfl,by decide+kernel,by decide+kernel⟩
abbrev jo:d9:=fR (lR 62) 2
theorem pA:bM ["self","amount","start"] ["self","amount"] (aY jo):=⟨rfl,rfl,rfl,by decide+kernel,rfl,by decide+kernel,by decide+kernel⟩
abbrev jB:d9:=fR (lR 62) 3
theorem yu:bM ["self"] ["self"] (aY jB):=⟨rfl,rfl,rfl,by decide+kernel,rfl,by decide+kernel,by decide+kernel⟩
abbrev kK:d9:=fR (lR 62) 4
theorem A9:bM ["self"] ["self"] (aY kK):=⟨rfl,rfl,rfl,by decide+kernel,rfl,by decide+kernel,by decide+kernel⟩
abbrev uW:d9:=lR 64
theorem K0:bM ["letter"] ["letter"] (aY uW):=⟨rfl,rfl,rfl,by decide+kernel,rfl,by decide+kernel,by decide+kernel⟩
abbrev yL:d9:=lR 65
theorem A_:bM ["text","told","letter"] ["text"] (aY yL):=⟨rfl,rfl,rfl,by decide+kernel,rfl,by decide+kernel,by decide+kernel⟩
abbrev uX:d9:=lR 66
theorem xE:bM ["tokens","token"] ["tokens"] (aY uX):=⟨rfl,rfl,rfl,by decide+kernel,rfl,by decide+kernel,by decide+kernel⟩
abbrev uY:d9:=lR 67
theorem mH:bM ["row","fates","entries","piece"] ["row"] (aY uY):=⟨rfl,rfl,rfl,by decide+kernel,rfl,by decide+kernel,by decide+kernel⟩
abbrev sM:d9:=lR 68
theorem qW:bM ["entries","numbers","told","prop","value"] ["entries","numbers"] (aY sM):=⟨rfl,rfl,rfl,by decide+kernel,rfl,by decide+kernel,by decide+kernel⟩
abbrev Ba:d9:=lR 69
theorem vA:bM ["comparison","told","place","piece","number"] ["comparison"] (aY Ba):=⟨rfl,rfl,rfl,by decide+kernel,rfl,by decide+kernel,by decide+kernel⟩
abbrev sN:d9:=lR 70
theorem vK:bM ["changes","told","change"] ["changes"] (aY sN):=⟨rfl,rfl,rfl,by decide+kernel,rfl,by decide+kernel,by decide+kernel⟩
abbrev uZ:d9:=lR 72
theorem K3:bM ["piece","number","accepted"] ["piece","number","accepted"] (aY uZ):=⟨rfl,rfl,rfl,by decide+kernel,rfl,by decide+kernel,by decide+kernel⟩
abbrev p8:d9:=lR 73
theorem lC:bM ["piece","numbers","accepted","letter","prop","value"] ["piece","numbers","accepted"] (aY p8):=⟨rfl,rfl,rfl,by decide+kernel,rfl,by decide+kernel,by decide+kernel⟩
abbrev wO:d9:=lR 74
theorem oq:bM ["comparison","numbers","accepted","number","text","place","piece"] ["comparison","numbers"] (aY wO):=⟨rfl,rfl,rfl,by decide+kernel,rfl,by decide+kernel,by decide+kernel⟩
abbrev ni:d9:=lR 100
theorem Et:bM ["signs"] ["signs"] (aY ni):=⟨rfl,rfl,rfl,by decide+kernel,rfl,by decide+kernel,by decide+kernel⟩
abbrev D5:d9:=lR 101
theorem T8:bM ["w"] ["w"] (aY D5):=⟨rfl,rfl,rfl,by decide+kernel,rfl,by decide+kernel,by decide+kernel⟩
abbrev qX:d9:=fR (lR 102) 0
theorem HE:bM ["self"] ["self"] (aY qX):=⟨rfl,rfl,rfl,by decide+kernel,rfl,by decide+kernel,by decide+kernel⟩
abbrev oO:d9:=fR (lR 102) 1
theorem E5:bM ["self","old_text","new_text"] ["self","old_text","new_text"] (aY oO):=⟨rfl,rfl,rfl,by decide+kernel,rfl,by decide+kernel,by decide+kernel⟩
abbrev nj:d9:=fR (lR 102) 2
theorem Eu:bM ["self","w"] ["self","w"] (aY nj):=⟨rfl,rfl,rfl,by decide+kernel,rfl,by decide+kernel,by decide+kernel⟩
abbrev sO:d9:=fR (lR 102) 3
theorem BZ:bM ["self","signs","refusal"] ["self","signs"] (aY sO):=⟨rfl,rfl,rfl,by decide+kernel,rfl,by decide+kernel,by decide+kernel⟩
abbrev sP:d9:=fR (lR 102) 4
theorem B0:bM ["self","signs","refusal"] ["self","signs"] (aY sP):=⟨rfl,rfl,rfl,by decide+kernel,rfl,by decide+kernel,by decide+kernel⟩
abbrev qY:d9:=fR (lR 102) 5
theorem HF:bM ["self"] ["self"] (aY qY):=⟨rfl,rfl,rfl,by decide+kernel,rfl,by decide+kernel,by decide+kernel⟩
abbrev p9:d9:=fR (lR 102) 6
theorem yM:bM ["self","p","signs","text"] ["self","p","signs"] (aY p9):=⟨rfl,rfl,rfl,by decide+kernel,rfl,by decide+kernel,by decide+kernel⟩
abbrev nu:d9:=fR (lR 102) 7
theorem wA:bM ["self","p","q","text"] ["self","p","q"] (aY nu):=⟨rfl,rfl,rfl,by decide+kernel,rfl,by decide+kernel,by decide+kernel⟩
abbrev lD:d9:=fR (lR 102) 8
theorem gF:bM ["self","w","p","q","k","v","text","others","painted","letter"] ["self","w","p","q","k","v"] (aY lD):=⟨rfl,rfl,rfl,by decide+kernel,rfl,by decide+kernel,by decide+kernel⟩
abbrev oR:d9:=fR (lR 102) 9
theorem E6:bM ["self"] ["self"] (aY oR):=⟨rfl,rfl,rfl,by decide+kernel,rfl,by decide+kernel,by decide+kernel⟩
abbrev lE:d9:=fR (lR 102) 10
theorem Ci:bM ["self","grain","least"] ["self","grain","least"] (aY lE):=⟨rfl,rfl,rfl,by decide+kernel,rfl,by decide+kernel,by decide+kernel⟩
abbrev nD:d9:=fR (lR 102) 11
theorem Ew:bM ["self"] ["self"] (aY nD):=⟨rfl,rfl,rfl,by decide+kernel,rfl,by decide+kernel,by decide+kernel⟩
abbrev qZ:d9:=fR (lR 102) 12
theorem HG:bM ["self"] ["self"] (aY qZ):=⟨rfl,rfl,rfl,by decide+kernel,rfl,by decide+kernel,by decide+kernel⟩
abbrev mj:d9:=fR (lR 102) 13
theorem C1:bM ["self"] ["self"] (aY mj):=⟨rfl,rfl,rfl,by decide+kernel,rfl,by decide+kernel,by decide+kernel⟩
abbrev kM:d9:=fR (lR 102) 14
theorem j0:bM ["self","numbers","most","number"] ["self","numbers"] (aY kM):=⟨rfl,rfl,rfl,by decide+kernel,rfl,by decide+kernel,by decide+kernel⟩
abbrev mq:d9:=fR (lR 102) 15
theorem vB:bM ["self","numbers","refusal"] ["self","numbers"] (aY mq):=⟨rfl,rfl,rfl,by decide+kernel,rfl,by decide+kernel,by decide+kernel⟩
abbrev mw:d9:=fR (lR 102) 16
theorem pB:bM ["self","numbers","refusal","text"] ["self","numbers"] (aY mw):=⟨rfl,rfl,rfl,by decide+kernel,rfl,by decide+kernel,by decide+kernel⟩
abbrev p_:d9:=fR (lR 102) 17
theorem Gv:bM ["self","w"] ["self","w"] (aY p_):=⟨rfl,rfl,rfl,by decide+kernel,rfl,by decide+kernel,by decide+kernel⟩
abbrev nF:d9:=fR (lR 102) 18
theorem Ex:bM ["self","w","grain"] ["self","w","grain"] (aY nF):=⟨rfl,rfl,rfl,by decide+kernel,rfl,by decide+kernel,by decide+kernel⟩
abbrev q_:d9:=fR (lR 102) 19
theorem HH:bM ["self","grain"] ["self","grain"] (aY q_):=⟨rfl,rfl,rfl,by decide+kernel,rfl,by decide+kernel,by decide+kernel⟩
abbrev oU:d9:=lR 103
theorem nG:bM ["desk","number","reader","p","given"] ["desk","number","reader"] (aY oU):=⟨rfl,rfl,rfl,by decide+kernel,rfl,by decide+kernel,by decide+kernel⟩
abbrev j4:d9:=lR 104
theorem rO:bM ["desk","number","reader","given"] ["desk","number","reader"] (aY j4):=⟨rfl,rfl,rfl,by decide+kernel,rfl,by decide+kernel,by decide+kernel⟩
abbrev lF:d9:=lR 105
theorem t9:bM ["desk","number","reader","given"] ["desk","number","reader"] (aY lF):=⟨rfl,rfl,rfl,by decide+kernel,rfl,by decide+kernel,by decide+kernel⟩
abbrev u0:d9:=lR 106
theorem pC:bM ["desk","reader","number","answer"] ["desk","reader"] (aY u0):=⟨rfl,rfl,rfl,by decide+kernel,rfl,by decide+kernel,by decide+kernel⟩
abbrev ur:d9:=lR 107
theorem xF:bM ["calls","desk","reader","given","answer"] ["calls"] (aY ur):=⟨rfl,rfl,rfl,by decide+kernel,rfl,by decide+kernel,by decide+kernel⟩
structure fT(K:ah)(mg:cM->Option ao):Prop where
 EH:mS mg "PARAGRAPH_END" 10
 Rl:mS mg "LOWEST_SIGN" 32
 OX:mS mg "HIGHEST_SIGN" 126
 rF:mS mg "MOST_INNER_LETTERS" 120
 E7:mS mg "PROPERTIES" 4
 MR:mS mg "HIGHEST_VALUE" 99
 agm:∃pl,mg "PLAIN_LOOK"=some (.ref pl)/\∀H,rN K H pl [.int 0,.int 0,.int 0,.int 0]
 Gw:mS mg "LETTER_GRAIN" 0
 T9:mS mg "WORD_GRAIN" 1
 ab1:mS mg "KEEP" 0
 Rm:mS mg "DROP" 1
 PUT:mS mg "PUT" 2
 Zr:mS mg "PUT_KIND" 1
 Zs:mS mg "CUT_KIND" 2
 T_:mS mg "PAINT_KIND" 3
 WO:mS mg "MOVE_KIND" 4
 zq:mS mg "NO_SUCH_PLACE" (-1)
 j6:mS mg "NO_SUCH_VALUE" (-2)
 u7:mS mg "NO_COMPARISON" (-4)
 K4:mS mg "TOO_LONG" (-5)
 K5:mS mg "OLD_TEXT" 0
 Zt:mS mg "NEW_TEXT" 1
 MS:mS mg "LONGEST_LEAST" 200
 Zu:mS mg "OLD_CALL" 0
 Zv:mS mg "NEW_CALL" 1
 WQ:mS mg "COPY_CALL" 2
 Zw:mS mg "PUT_CALL" 3
 Zx:mS mg "CUT_CALL" 4
 Ua:mS mg "PAINT_CALL" 5
 WR:mS mg "SWAP_CALL" 6
 OY:mS mg "COMPARE_CALL" 7
 Rn:mS mg "COUNTS_CALL" 8
 Zy:mS mg "ROW_CALL" 9
 OZ:mS mg "CHANGES_CALL" 10
 O0:mS mg "VERSION_CALL" 11
 WS:mS mg "TAKE_CALL" 12
 WT:mS mg "TEXT_CALL" 13
 Ro:mS mg "TOKENS_CALL" 14
 MT:mS mg "DISTANCE_CALL" 15
 iN:mg "len"=none
 ac_:mg "all"=none
 ada:mg "sum"=none
 agn:mg "min"=none
 Zz:mg "list"=none
 ab2:mg "tuple"=none
 Kl:mg "range"=none
 rP:mg "enumerate"=none
 adb:mg "zip"=none
 Ub:mg "reversed"=none
 ZA:mg "sorted"=none
open Vatrkf
def dn(n:Nat):bf:=.int (n:Int)
def gS(x:bZ):bf:=.tuple [dn x.sign,.tuple (x.look.map dn)]
def l6(l:List bZ):bf:=.list (l.map gS)
def Gx(l:List (List bZ)):bf:=.list (l.map l6)
def dH(l:List Nat):bf:=.list (l.map dn)
structure MU(x:bZ):Prop where
 four:x.look.length=4
 tags:x.tags=[]
def Bb(l:List bZ):Prop:=∀x∈l,MU x
theorem big{n:Nat}(h:n<=100000):n<aK:=jJ h (by decide)
theorem nI{n:Nat}(h:n<=100000):n<=aK:=qM (big h)
def vn(n:Nat):V:=.int (n:Int)
theorem pD{a b:Nat}(h:vn a=vn b):a=b:=Int.ofNat.inj (V.int.inj h)
theorem Uc(a b:Nat):fh (dn a) (dn b)=decide (a=b):=by
 show((a:Int)==(b:Int))=decide (a=b)
 by_cases h:a=b
 ·subst h;simp
 ·rw[aH h]
  exact dU.mpr (fun e=>h (by omega))
theorem HJ:∀(l m:List Nat),eY (l.map dn) (m.map dn)=decide (l=m)
 |[],[]=>rfl
 |[],b::m=>by simp[eY]
 |a::l,[]=>by simp[eY]
 |a::l,b::m=>by
  show(fh (dn a) (dn b)&&eY (l.map dn) (m.map dn))=_
  rw[Uc,HJ l m]
  simp[iE]
theorem Rp(l m:List Nat):fh (.tuple (l.map dn)) (.tuple (m.map dn))=decide (l=m):=by
 show eY (l.map dn) (m.map dn)=_
 exact HJ l m
theorem NT(l m:List Nat):fh (dH l) (dH m)=decide (l=m):=by
 show eY (l.map dn) (m.map dn)=_
 exact HJ l m
theorem K6{x y:bZ}(hx:MU x)(hy:MU y)(h1:x.sign=y.sign)(h2:x.look=y.look):x=y:=by
 cases x;cases y
 have a:=hx.tags
 have b:=hy.tags
 simp only at h1 h2 a b
 subst h1 h2 a b
 rfl
theorem ZC{x y:bZ}(hx:MU x)(hy:MU y):fh (gS x) (gS y)=decide (x=y):=by
 show(fh (dn x.sign) (dn y.sign)&&(fh (.tuple (x.look.map dn)) (.tuple (y.look.map dn))&&true))=_
 rw[Uc,Rp]
 by_cases h1:x.sign=y.sign
 ·by_cases h2:x.look=y.look
  ·have:=K6 hx hy h1 h2
   subst this
   simp
  ·rw[aH h2,aH (fun e:x=y=>h2 (by rw[e]))]
   simp
 ·rw[aH h1,aH (fun e:x=y=>h1 (by rw[e]))]
  simp
theorem ID:∀{l m:List bZ},Bb l->Bb m->eY (l.map gS) (m.map gS)=decide (l=m)
 |[],[],_,_=>rfl
 |[],b::m,_,_=>by simp[eY]
 |a::l,[],_,_=>by simp[eY]
 |a::l,b::m,hl,hm=>by
  show(fh (gS a) (gS b)&&eY (l.map gS) (m.map gS))=_
  rw[ZC (hl a (by simp)) (hm b (by simp)),ID (fun x h=>hl x (by simp[h])) (fun x h=>hm x (by simp[h]))]
  simp[iE]
theorem ZD{l m:List bZ}(hl:Bb l)(hm:Bb m):fh (l6 l) (l6 m)=decide (l=m):=by
 show eY (l.map gS) (m.map gS)=_
 exact ID hl hm
theorem Am:∀l:List Nat,e8 (l.map dn)=0
 |[]=>rfl
 |a::l=>by
  show max (gK (dn a)) (e8 (l.map dn))=0
  rw[Am l]
  rfl
theorem Ud(x:bZ):gK (gS x)=2:=by
 show max 0 (max (e8 (x.look.map dn)+1) 0)+1=2
 rw[Am]
 rfl
theorem IE:∀l:List bZ,e8 (l.map gS)<=2
 |[]=>by simp[e8]
 |a::l=>by
  show max (gK (gS a)) (e8 (l.map gS))<=2
  rw[Ud]
  have:=IE l
  omega
theorem D6:∀l:List Nat,lI (l.map dn)=true
 |[]=>rfl
 |a::l=>by
  show(gu (dn a)&&lI (l.map dn))=true
  rw[D6 l]
  rfl
theorem ZE(x:bZ):gu (gS x)=true:=by
 show(gu (dn x.sign)&&(gu (.tuple (x.look.map dn))&&true))=true
 have:gu (.tuple (x.look.map dn))=true:=D6 x.look
 rw[this]
 rfl
theorem NU:∀l:List bZ,lI (l.map gS)=true
 |[]=>rfl
 |a::l=>by
  show(gu (gS a)&&lI (l.map gS))=true
  rw[ZE,NU l]
  rfl
theorem IF(l:List Nat):qB (.tuple (l.map dn))=true:=by
 unfold qB
 have h1:gu (.tuple (l.map dn))=true:=D6 l
 have h2:gK (.tuple (l.map dn))=e8 (l.map dn)+1:=rfl
 rw[h1,h2,Am]
 rfl
theorem Gy(l:List Nat):qB (dH l)=true:=by
 unfold qB
 have h1:gu (dH l)=true:=D6 l
 have h2:gK (dH l)=e8 (l.map dn)+1:=rfl
 rw[h1,h2,Am]
 rfl
theorem IG(l:List bZ):qB (l6 l)=true:=by
 unfold qB
 have h1:gu (l6 l)=true:=NU l
 have h2:gK (l6 l)=e8 (l.map gS)+1:=rfl
 have h3:=IE l
 rw[h1,h2,aI (by omega)]
 rfl
section
variable{K:ah}{H:Hp}
theorem vL{vs:List V}:∀{l:List Nat},bN K H vs (l.map dn)->vs=l.map vn:=by
 intro l
 induction l generalizing vs with
 |nil=>intro h;cases h;rfl
 |cons n l ih=>
  intro h
  cases h with
  |cons a b=>
   have e:=a.int_inv
   rw[bg,<-ih b,e]
   rfl
theorem je:∀(l:List Nat),bN K H (l.map vn) (l.map dn)
 |[]=>.nil
 |n::l=>.cons (.int _) (je l)
theorem uu{v:V}{x:bZ}(h:Dx K H v (gS x)):∃a b,v=.ref a/\rN K H a [.int x.sign,.ref b]/\rN K H b (x.look.map vn):=by
 obtain⟨a,xs,rfl,h1,h2⟩:=h.DZ
 obtain⟨u,y,rfl,h3,h4⟩:=h2.two
 obtain rfl:=h3.int_inv
 obtain⟨b,ys,rfl,h5,h6⟩:=h4.DZ
 rw[vL h6]at h5
 exact⟨a,b,rfl,h1,h5⟩
theorem O3{a b:ak}{n:Nat}{l:List Nat}(h1:rN K H a [.int n,.ref b])(h2:rN K H b (l.map vn)):Dx K H (.ref a) (gS {sign:=n,look:=l}):=
 .tup h1 (.cons (.int _) (.cons (.tup h2 (je l)) .nil))
end
theorem ago{l:List Nat}(h:l.length=4):∃a b c d,l=[a,b,c,d]:=by
 match l,h with
 |[a,b,c,d],_=>exact⟨a,b,c,d,rfl⟩
section
variable{P:bD}{w:cC}{K:ah}{mg:cM->Option ao}{base:cY}
def NV(ds:List bf)(d:bf):Prop:=∃z:Int,ds=[.int z]/\d=.bool (fS z)
theorem Ue(G:fT K mg)(Df:jL K mg "is_sign" D3 ["number"]):bG P w K mg base "is_sign" ["number"] 1 (qC K NV):=by
 refine Df.ok T7 (iR fun ds d⟨z,e,_⟩=>by rw[e];rfl) fun f iB A outer s H vs Q E hr h=>?_
 obtain⟨D,ds,d,hO,ha,⟨z,rfl,rfl⟩,k⟩:=h
 obtain⟨v,rfl,hv⟩:=ha.one
 obtain rfl:=hv.int_inv
 refine⟨_,(aJ (bF (Yq (AW jM (pv 0) (bW G.EH) (dZ _)) (OE (CK qH qH (bW G.Rl) (pv 0) (bW G.OX)))))),?_⟩
 refine⟨_,rfl,rfl,_,rfl,?_⟩
 have fin:∀b,b=fS z->Q (.bl b) H:=fun b e=>k _ _ (aQ.refl H) (by rw[e];exact .bl _)
 by_cases h10:z=10
 ·rw[aG (by rw[aI (by rw[h10])])]
  exact fin _ (by rw[h10];rfl)
 ·rw[aD (by rw[aH (fun e=>h10 (V.int.inj e))];exact aF)]
  refine⟨_,rfl,_,_,rfl,rfl,_,rfl,?_⟩
  by_cases h32:32<=z
  ·rw[aG (aI h32)]
   refine⟨_,_,rfl,rfl,fin _ ?_⟩
   unfold fS
   rw[dU.mpr h10,aI h32]
   simp
  ·rw[aD (by rw[aH h32];exact aF)]
   refine fin _ ?_
   unfold fS
   rw[dU.mpr h10,aH h32]
   simp
theorem K7{K:ah}{H:Hp}:∀{vs:List V}{bs:List Bool},bN K H vs (bs.map PyData.bool)->vs=bs.map V.bl
 |_,[],.nil=>rfl
 |_,b::bs,.cons (.bl _) t=>by rw[bg,K7 t]
def C2(ds:List bf)(d:bf):Prop:=∃l:List Int,ds=[.list (l.map .int)]/\l.length<=2000/\d=.bool (l.all fS)
theorem O4(G:fT K mg)(Df:jL K mg "are_signs" yG ["numbers"])(HK:bG P w K mg base "is_sign" ["number"] 1 (qC K NV)):bG P w K mg base "are_signs" ["numbers"] 2 (qC K C2):=by
 refine Df.ok A0 (iR fun ds d⟨z,e,_⟩=>by rw[e];rfl) fun f iB A outer s H vs Q E hr h=>?_
 obtain⟨D,ds,d,hO,ha,⟨l,rfl,hn,rfl⟩,k⟩:=h
 obtain⟨v,rfl,hv⟩:=ha.one
 obtain⟨a,xs,rfl,h1,h2⟩:=hv.bV
 refine⟨_,(aJ (bF (cS (Y0 rfl) (by rfl) G.ac_ boot_all (aj (vm (own:=[("number",1)]) rfl A0.nd (fE (pv 0)) (gR (by rfl)) (fun _ _ _ _ _=>(cJ (i:=1) A0.nd rfl (bz rfl))) (fun _ _ _ _ _=>jA) (fun _ _ _ _ _=>(bL HK (hr.mono (by decide)) (aj (pv 1) aA)))) aA)))),?_⟩
 refine⟨_,rfl,a,rfl,⟨_,cG.of (aq _ _ h1)⟩,fun L hL=>wF (D:=D) (f:=fun d=>match d with|.int z=>.bool (fS z)|d=>d) hL hO (cG.of (aq _ _ h1)) h2 (nI (by rw[aa];omega)) (fun _=>rfl)
  (fun i x d H' D' Qe hd s o hx sd kk=>?_) fun H' s K8=>?_⟩
 ·rw[aT]at hd
  cases e:l[i]? with
  |none=>rw[e]at hd;cases hd
  |some z=>
   rw[e]at hd
   cases hd
   exact⟨x,rfl,D',[.int z],.bool (fS z),o,.cons hx .nil,⟨z,rfl,rfl⟩,kk⟩
 ·have e:(l.map jS).map (fun d=>match d with|.int z=>.bool (fS z)|d=>d)=(l.map fS).map PyData.bool:=by
   rw[aR,aR]
   rfl
  rw[e]at K8
  obtain⟨a',ys,e1,h3,h4⟩:=K8.bV
  cases e1
  have e2:=K7 h4
  subst e2
  refine⟨L,_,rfl,cG.of (aq _ _ h3),k _ _ s ?_⟩
  rw[S0]
  exact .bl _
def vM(ds:List bf)(d:bf):Prop:=∃l:List Nat,ds=[dH l]/\l.length<=2000/\d=l6 (l.map cO)
theorem HL(G:fT K mg)(Df:jL K mg "plain_letters" qQ ["signs"]):bG P w K mg base "plain_letters" ["signs"] 1 (qC K vM):=by
 refine Df.ok uo (iR fun ds d⟨z,e,_⟩=>by rw[e];rfl) fun f iB A outer s H vs Q E hr h=>?_
 obtain⟨D,ds,d,hO,ha,⟨l,rfl,hn,rfl⟩,k⟩:=h
 obtain⟨v,rfl,hv⟩:=ha.one
 obtain⟨a,xs,rfl,h1,h2⟩:=hv.bV
 obtain⟨pl,Eo,spl⟩:=G.agm
 refine⟨_,(aJ (bF (vm (own:=[("sign",1)]) rfl uo.nd (fE (pv 0)) (gR (by rfl)) (fun _ _ _ _ _=>(cJ (i:=1) uo.nd rfl (bz rfl))) (fun _ _ _ _ _=>jA) (fun _ _ _ _ _=>(CM (aj (pv 1) (aj (OC (v:=.ref pl) rfl Eo rfl) aA))))))),?_⟩
 refine⟨_,rfl,a,rfl,⟨_,cG.of (aq _ _ h1)⟩,fun L hL=>wF (D:=D) (f:=fun d=>.tuple [d,.tuple [dn 0,dn 0,dn 0,dn 0]]) hL hO (cG.of (aq _ _ h1)) h2 (nI (by rw[aa];omega)) (fun _=>rfl)
  (fun i x d H' D' Qe hd s o hx sd kk=>?_) fun H' s K8=>k _ _ s ?_⟩
 ·refine⟨x,rfl,by show 2<=aK;decide,fun p hp=>kk _ _ (aQ.new hp) (Kg hp o (.cons hx (.cons (.tup (spl _) (bN.OT [0,0,0,0])) .nil)))⟩
 ·have e:(l.map dn).map (fun d=>QB [d,.tuple [dn 0,dn 0,dn 0,dn 0]])=(l.map cO).map gS:=by
   rw[aR,aR]
   rfl
  rw[e]at K8
  exact K8
def wQ(ds:List bf)(d:bf):Prop:=∃l:List Nat,ds=[dH l]/\l.length<=2000/\d=l6 (l.map cO++[cO 10])
theorem MV(G:fT K mg)(Df:jL K mg "plain_text" wG ["signs"])(jQ:bG P w K mg base "plain_letters" ["signs"] 1 (qC K vM)):bG P w K mg base "plain_text" ["signs"] 2 (qC K wQ):=by
 refine Df.ok MO (iR fun ds d⟨z,e,_⟩=>by rw[e];rfl) fun f iB A outer s H vs Q E hr h=>?_
 obtain⟨D,ds,d,hO,ha,⟨l,rfl,hn,rfl⟩,k⟩:=h
 obtain⟨v,rfl,hv⟩:=ha.one
 refine⟨_,(aJ (bF (jx uh (bL jQ (hr.mono (by decide)) (aj (pv 0) aA)) (bL jQ (hr.mono (by decide)) (aj (c_ (aj (bW G.EH) aA)) aA))))),?_⟩
 refine⟨v,rfl,D,_,_,hO,.cons hv .nil,⟨l,rfl,hn,rfl⟩,fun v1 H1 s1 d1=>?_⟩
 refine⟨by show 1<=aK;decide,fun p hp=>?_⟩
 have o1:=(hO.mono s1)
 have dl:Dx K (hd (upd H1 p (.lst [.int 10])) D) (.ref p) (dH [10]):=k_ hp o1 (bN.OT [10])
 refine⟨D,_,_,o1.upd,.cons dl .nil,⟨[10],rfl,by decide,rfl⟩,fun v2 H2 s2 d2=>?_⟩
 have ZF:aQ H1 H2:=(aQ.new hp).trans s2
 obtain⟨a1,x1,rfl,e1,f1⟩:=((aU ZF).dp d1).bV
 obtain⟨a2,x2,rfl,e2,f2⟩:=d2.bV
 have l1:=f1.length
 have l2:=f2.length
 rw[aa,aa]at l1 l2
 have l2':x2.length=1:=l2
 refine⟨a1,a2,x1,x2,rfl,rfl,aq _ _ e1,aq _ _ e2,nI (by omega),fun q hq=>k _ _ ((s1.trans ZF).trans (aQ.new hq)) ?_⟩
 have e:l6 (l.map cO++[cO 10])=.list ((l.map cO).map gS++([10].map cO).map gS):=by
  unfold l6
  rw[bu]
  rfl
 rw[e]
 exact k_ hq ((o1.mono ZF)) (f1.append f2)
end
section
variable{P:bD}{w:cC}{K:ah}{mg:cM->Option ao}{base:cY}
def vN(ds:List bf)(d:bf):Prop:=∃l:List bZ,ds=[l6 l]/\l.length<=2000/\d=l6 l.dropLast
theorem ZG(xs:List V):Cf xs none (some (-1))=xs.dropLast:=by
 unfold Cf
 rw[HT.F8,jk,J0,Ei]
 congr 1
 show(if(-1:Int)<0 then((-1:Int)+(xs.length:Int)).toNat else min (-1:Int).toNat xs.length)=xs.length-1
 rw[aG (by decide)]
 omega
theorem bN.dropLast{K:ah}{H:Hp}{vs:List V}{ds:List bf}(a:bN K H vs ds):bN K H vs.dropLast ds.dropLast:=by
 rw[Ei,Ei,a.length]
 exact a.take _
theorem HM(G:fT K mg)(Df:jL K mg "inner_letters" qR ["text"]):bG P w K mg base "inner_letters" ["text"] 1 (qC K vN):=by
 refine Df.ok HD (iR fun ds d⟨z,e,_⟩=>by rw[e];rfl) fun f iB A outer s H vs Q E hr h=>?_
 obtain⟨D,ds,d,hO,ha,⟨l,rfl,hn,rfl⟩,k⟩:=h
 obtain⟨v,rfl,hv⟩:=ha.one
 obtain⟨a,xs,rfl,h1,h2⟩:=hv.bV
 refine⟨_,(aJ (bF (k9 qP (pv 0) sC (k8 (Ah ug b9))))),?_⟩
 refine⟨_,rfl,_,rfl,_,rfl,a,xs,rfl,cG.of (aq _ _ h1),fun p hp=>k _ _ (aQ.new hp) ?_⟩
 rw[ZG]
 refine k_ hp hO ?_
 rw[List.map_dropLast]
 exact bN.dropLast h2
def An(x:bZ)(k v:Nat):bZ:={x with look:=x.look.set k v}
def uw(ds:List bf)(d:bf):Prop:=∃(x:bZ)(k v:Nat),ds=[gS x,dn k,dn v]/\MU x/\k<4/\d=gS (An x k v)
theorem XT{n m:Nat}(e:n=m)(h:m<=100:=by decide):n<=aK:=by
 subst e
 exact nI (by omega)
theorem Gz(G:fT K mg)(Df:jL K mg "painted_letter" pZ ["letter","prop","value"]):bG P w K mg base "painted_letter" ["letter","prop","value"] 1 (qC K uw):=by
 refine Df.ok yH (iR fun ds d⟨x,kk,vv,e,_⟩=>by rw[e];rfl) fun f iB A outer s H vs Q E hr h=>?_
 obtain⟨D,ds,d,hO,ha,⟨x,kk,vv,rfl,hx,hk,rfl⟩,k⟩:=h
 obtain⟨v1,v2,v3,rfl,g1,g2,g3⟩:=ha.three
 obtain rfl:=g2.int_inv
 obtain rfl:=g3.int_inv
 obtain⟨a,b,rfl,h1,h2⟩:=uu g1
 obtain⟨l0,l1,l2,l3,el⟩:=ago hx.four
 rw[el]at h2
 refine⟨_,(aC (cR (i:=3) yH.nd rfl (bz rfl) (eX rD (pv 0) b9 (fun _ _=>rfl)))
   (aJ (bF (CM (aj (eX rD (pv 0) b9 (fun _ _=>rfl)) (aj (jx Rg (jx Rg (k9 YN (pv 3) sC (k8 (pv 1))) (CM (aj (pv 2) aA))) (k9 YN (pv 3) (k8 (jx oA (pv 1) b9)) sC)) aA)))))),?_⟩
 have u1:=aq.EF h1
 have u2:=aq.EF h2
 refine⟨_,rfl,a,_,1,_,rfl,rfl,u1,rfl,?_⟩
 refine⟨_,rfl,a,_,0,_,rfl,rfl,u1,rfl,?_⟩
 have fin:∀(H':Hp)(p:ak),aQ H H'->rN K (hd H' D) p ((x.look.set kk vv).map vn)->2<=aK/\∀q,H' q=none->Q (.ref q) (upd H' q (.tup [.int x.sign,.ref p])):=fun H' p s hp=>⟨by decide,fun q hq=>by
  refine k _ _ (s.trans (aQ.new hq)) ?_
  have hO':=hO.mono s
  have e:gS (An x kk vv)=gS {sign:=x.sign,look:=x.look.set kk vv}:=rfl
  rw[e]
  exact O3 (rN.of (OU (hO'.fresh hq))) ((aU (aQ.new hq)).EF hp)⟩
 rw[el]at fin
 match kk,hk with
 |0,_=>
  refine⟨_,rfl,_,rfl,_,rfl,b,_,rfl,u2,(fun e=>absurd (show(0:Nat)=4 from e.2) (by decide)),fun p hp=>?_⟩
  refine⟨_,rfl,XT (m:=1) rfl,fun q hq=>?_⟩
  have s2:aQ H (upd _ q (.tup [.int (vv:Int)])):=(aQ.new hp).trans (aQ.new hq)
  refine⟨p,q,_,_,rfl,rfl,rN.of ((aQ.new hq) _ _ aE),rN.of aE,XT (m:=1) rfl,fun _=>?_,fun e=>absurd rfl e,fun e=>absurd rfl e⟩
  refine⟨_,rfl,_,rfl,_,_,rfl,rfl,_,rfl,b,_,rfl,s2.EF u2,(fun e=>absurd (show(1:Nat)=0 from e.1) (by decide)),fun r Ey=>?_⟩
  refine⟨q,r,_,_,rfl,rfl,rN.of ((aQ.new Ey) _ _ aE),rN.of aE,XT (m:=4) rfl,(fun e=>by cases e),(fun _ e=>by cases e),fun _ _ t ht=>?_⟩
  exact fin _ t ((s2.trans (aQ.new Ey)).trans (aQ.new ht)) (rN.of (OU (((hO.mono s2).mono (aQ.new Ey)).fresh ht)))
 |1,_=>
  refine⟨_,rfl,_,rfl,_,rfl,b,_,rfl,u2,(fun e=>absurd (show(1:Nat)=4 from e.2) (by decide)),fun p hp=>?_⟩
  refine⟨_,rfl,XT (m:=1) rfl,fun q hq=>?_⟩
  have s2:aQ H (upd _ q (.tup [.int (vv:Int)])):=(aQ.new hp).trans (aQ.new hq)
  refine⟨p,q,_,_,rfl,rfl,rN.of ((aQ.new hq) _ _ aE),rN.of aE,XT (m:=2) rfl,(fun e=>by cases e),(fun _ e=>by cases e),fun _ _ y hy=>?_⟩
  have s3:=fun o=>s2.trans (aQ.new (o:=o) hy)
  refine⟨_,rfl,_,rfl,_,_,rfl,rfl,_,rfl,b,_,rfl,(s3 _).EF u2,(fun e=>absurd (show(2:Nat)=0 from e.1) (by decide)),fun r Ey=>?_⟩
  refine⟨y,r,_,_,rfl,rfl,rN.of ((aQ.new Ey) _ _ aE),rN.of aE,XT (m:=4) rfl,(fun e=>by cases e),(fun _ e=>by cases e),fun _ _ t ht=>?_⟩
  exact fin _ t (((s3 _).trans (aQ.new Ey)).trans (aQ.new ht)) (rN.of (OU (((hO.mono (s3 _)).mono (aQ.new Ey)).fresh ht)))
 |2,_=>
  refine⟨_,rfl,_,rfl,_,rfl,b,_,rfl,u2,(fun e=>absurd (show(2:Nat)=4 from e.2) (by decide)),fun p hp=>?_⟩
  refine⟨_,rfl,XT (m:=1) rfl,fun q hq=>?_⟩
  have s2:aQ H (upd _ q (.tup [.int (vv:Int)])):=(aQ.new hp).trans (aQ.new hq)
  refine⟨p,q,_,_,rfl,rfl,rN.of ((aQ.new hq) _ _ aE),rN.of aE,XT (m:=3) rfl,(fun e=>by cases e),(fun _ e=>by cases e),fun _ _ y hy=>?_⟩
  have s3:=fun o=>s2.trans (aQ.new (o:=o) hy)
  refine⟨_,rfl,_,rfl,_,_,rfl,rfl,_,rfl,b,_,rfl,(s3 _).EF u2,(fun e=>absurd (show(3:Nat)=0 from e.1) (by decide)),fun r Ey=>?_⟩
  refine⟨y,r,_,_,rfl,rfl,rN.of ((aQ.new Ey) _ _ aE),rN.of aE,XT (m:=4) rfl,(fun e=>by cases e),(fun _ e=>by cases e),fun _ _ t ht=>?_⟩
  exact fin _ t (((s3 _).trans (aQ.new Ey)).trans (aQ.new ht)) (rN.of (OU (((hO.mono (s3 _)).mono (aQ.new Ey)).fresh ht)))
 |3,_=>
  refine⟨_,rfl,_,rfl,_,rfl,b,_,rfl,u2,(fun e=>absurd (show(3:Nat)=4 from e.2) (by decide)),fun p hp=>?_⟩
  refine⟨_,rfl,XT (m:=1) rfl,fun q hq=>?_⟩
  have s2:aQ H (upd _ q (.tup [.int (vv:Int)])):=(aQ.new hp).trans (aQ.new hq)
  refine⟨p,q,_,_,rfl,rfl,rN.of ((aQ.new hq) _ _ aE),rN.of aE,XT (m:=4) rfl,(fun e=>by cases e),(fun _ e=>by cases e),fun _ _ y hy=>?_⟩
  have s3:=fun o=>s2.trans (aQ.new (o:=o) hy)
  refine⟨_,rfl,_,rfl,_,_,rfl,rfl,_,rfl,b,_,rfl,(s3 _).EF u2,(fun e=>absurd (show(4:Nat)=0 from e.1) (by decide)),fun r Ey=>?_⟩
  refine⟨y,r,_,_,rfl,rfl,rN.of ((aQ.new Ey) _ _ aE),rN.of aE,XT (m:=4) rfl,(fun e=>by cases e),(fun _ _=>?_),fun _ e=>absurd rfl e⟩
  exact fin _ y ((s3 _).trans (aQ.new Ey)) (rN.of (iY ((aQ.new Ey) _ _ aE) ((hO.mono s2).fresh hy)))
end
section
variable{P:bD}{w:cC}{K:ah}{mg:cM->Option ao}{base:cY}
def kY(x y:bZ):List (Nat×Nat):=(adK.filter fun k=> !(x.look.getD k 0==y.look.getD k 0)).map fun k=>(k,y.look.getD k 0)
def WU(e:Nat×Nat):bf:=.tuple [dn e.1,dn e.2]
def VN(l:List (Nat×Nat)):bf:=.list (l.map WU)
theorem Rq(x y:bZ):(kY x y).length=lP x y:=by
 unfold kY lP
 rw[aa]
theorem O5{l:List Nat}{i:Nat}(hl:l.length=4)(hi:i<4):QV (l.map vn) (0+(i:Int))=some (vn (l.getD i 0)):=by
 refine CV (j:=i) (by omega) ?_
 rw[aT,aB (by omega),aO,aB (by omega)]
 rfl
theorem Bc{α β:Type}(p:α->Bool)(f:α->β):∀l:List α,l.filterMap (fun i=>if p i=true then none else some (f i))=(l.filter fun i=> !p i).map f
 |[]=>rfl
 |a::l=>by
  rw[rB,cK]
  by_cases h:p a=true
  ·simp only[aG h]
   rw[Bc p f l,h]
   rfl
  ·simp only[aD h]
   have h':p a=false:=by simpa using h
   rw[Bc p f l,h']
   rfl
def sQ(ds:List bf)(d:bf):Prop:=∃x y:bZ,ds=[gS x,gS y]/\MU x/\MU y/\d=VN (kY x y)
theorem E8(G:fT K mg)(Df:jL K mg "entries_between" oM ["old_letter","new_letter"]):bG P w K mg base "entries_between" ["old_letter","new_letter"] 1 (qC K sQ):=by
 refine Df.ok kr (iR fun ds d⟨x,y,e,_⟩=>by rw[e];rfl) fun f iB A outer s H vs Q E hr h=>?_
 obtain⟨D,ds,d,hO,ha,⟨x,y,rfl,hx,hy,rfl⟩,k⟩:=h
 obtain⟨v1,v2,rfl,g1,g2⟩:=ha.two
 obtain⟨a,b,rfl,h1,h2⟩:=uu g1
 obtain⟨a',b',rfl,h1',h2'⟩:=uu g2
 refine⟨_,(aC (cR (i:=2) kr.nd rfl (by first|exact bz rfl|exact bB rfl) (eX (r:=Gi K) rD (pv 0) b9 (fun _ _=>rfl)))
   (aC (cR (i:=3) kr.nd rfl (by first|exact bz rfl|exact bB rfl) (eX (r:=Gi K) rD (pv 1) b9 (fun _ _=>rfl)))
   (aC (eW (dB (r:=abK K) (TZ hr.units) (pv 2) (pv 3) (dZ _)) (aJ (bF (c_ aA))) cN)
   (aJ (bF (vm (own:=[("prop",4)]) rfl kr.nd (ND rfl G.Kl (aj (bW G.E7) aA)) (gR (by rfl)) (fun _ _ _ _ _=>(cJ (i:=4) kr.nd rfl (by first|exact bz rfl|exact bB rfl))) (fun _ _ _ _ _=>(VB (dB Vv (eX (r:=Gi K) rD (pv 2) (pv 4) (fun _ _=>rfl)) (eX (r:=Gi K) rD (pv 3) (pv 4) (fun _ _=>rfl)) (dZ _)))) (fun _ _ _ _ _=>(CM (aj (pv 4) (aj (eX (r:=Gi K) rD (pv 3) (pv 4) (fun _ _=>rfl)) aA)))))))))),?_⟩
 refine⟨_,rfl,a,_,1,_,rfl,rfl,aq.EF h1,rfl,?_⟩
 refine⟨_,rfl,a',_,1,_,rfl,rfl,aq.EF h1',rfl,?_⟩
 have d1:Dx K (hd H D) (.ref b) (.tuple (x.look.map dn)):=.tup h2 (je _)
 have d2:Dx K (hd H D) (.ref b') (.tuple (y.look.map dn)):=.tup h2' (je _)
 refine⟨_,rfl,_,rfl,_,_,(aq.dp d1).dp,(aq.dp d2).dp,IF _,IF _,_,rfl,?_⟩
 rw[Rp]
 by_cases he:x.look=y.look
 ·refine kO (aI he) ?_
  refine⟨bE _,fun p hp=>k _ _ (aQ.new hp) ?_⟩
  have e:kY x y=[]:=by
   unfold kY
   rw[he]
   simp
  rw[e]
  exact k_ hp hO .nil
 ·refine iL (aH he) ?_
  refine⟨4,rfl,by decide,by decide,fun L hL=>?_⟩
  refine WJ (K:=K) (D:=D) (n:=4) (g:=fun i=>if(x.look.getD i 0==y.look.getD i 0)=true then none else some (WU (i,y.look.getD i 0))) hL hO (by decide) (fun _=>rfl) (fun i H' D' Ny Nn hi s o sd ky kn=>?_) fun H' s K8=>k _ _ s ?_
  ·have u2:=s.EF (aq.EF h2)
   have u2':=s.EF (aq.EF h2')
   refine⟨_,rfl,_,rfl,b,_,_,_,rfl,rfl,u2,O5 hx.four hi,_,rfl,_,rfl,b',_,_,_,rfl,rfl,u2',O5 hy.four hi,rfl,_,rfl,?_⟩
   by_cases hq:x.look.getD i 0=y.look.getD i 0
   ·refine iL (by rw[hq];simp) ?_
    exact kn (by rw[aG (by rw[hq];exact dW _)]) _ (aQ.refl _)
   ·have Qj:(x.look.getD i 0==y.look.getD i 0)=false:=dU.mpr hq
    refine kO (by rw[aH (fun e=>hq (pD e))];rfl) ?_
    refine⟨_,rfl,_,rfl,_,rfl,b',_,_,_,rfl,rfl,u2',O5 hy.four hi,by show 2<=aK;decide,fun p hp=>?_⟩
    refine ky (WU (i,y.look.getD i 0)) (by rw[Qj];rfl) _ _ (aQ.new hp) (Kg hp o ?_)
    have e0:(0:Int)+(i:Int)=(i:Int):=by omega
    rw[e0]
    exact .cons (.int _) (.cons (.int _) .nil)
  ·have e:(bK 4).filterMap (fun i=>if(x.look.getD i 0==y.look.getD i 0)=true then none else some (WU (i,y.look.getD i 0)))=(kY x y).map WU:=by
    rw[Bc (fun i=>x.look.getD i 0==y.look.getD i 0) (fun i=>WU (i,y.look.getD i 0))]
    unfold kY
    rw[aR]
    rfl
   rw[e]at K8
   exact K8
def Bd(ds:List bf)(d:bf):Prop:=∃x y:bZ,ds=[gS x,gS y]/\MU x/\MU y/\d=dn (lP x y)
theorem MW(G:fT K mg)(Df:jL K mg "difference" wH ["old_letter","new_letter"])(jN:bG P w K mg base "entries_between" ["old_letter","new_letter"] 1 (qC K sQ)):bG P w K mg base "difference" ["old_letter","new_letter"] 2 (qC K Bd):=by
 refine Df.ok MP (iR fun ds d⟨x,y,e,_⟩=>by rw[e];rfl) fun f iB A outer s H vs Q E hr h=>?_
 obtain⟨D,ds,d,hO,ha,⟨x,y,rfl,hx,hy,rfl⟩,k⟩:=h
 obtain⟨v1,v2,rfl,g1,g2⟩:=ha.two
 refine⟨_,(aJ (bF (cS (r:=l5 K) cB (by rfl) G.iN dN (aj (bL jN (hr.mono (by decide)) (aj (pv 0) (aj (pv 1) aA))) aA)))),?_⟩
 refine⟨_,rfl,_,rfl,D,_,_,hO,.cons g1 (.cons g2 .nil),⟨x,y,rfl,hx,hy,rfl⟩,fun v H' s dv=>?_⟩
 obtain⟨a,xs,rfl,h1,h2⟩:=dv.bV
 have hl:=h2.length
 rw[aa,Rq]at hl
 refine⟨a,xs,rfl,.inl (cG.of (aq _ _ h1)),?_⟩
 rw[hl]
 exact k _ _ s (.int _)
def Be(ds:List bf)(d:bf):Prop:=∃z:Int,ds=[.int z]/\d=.bool (bX z 0 1)
theorem Rr(G:fT K mg)(Df:jL K mg "is_grain" A1 ["number"]):bG P w K mg base "is_grain" ["number"] 1 (qC K Be):=by
 refine Df.ok Rk (iR fun ds d⟨x,e,_⟩=>by rw[e];rfl) fun f iB A outer s H vs Q E hr h=>?_
 obtain⟨D,ds,d,hO,ha,⟨z,rfl,rfl⟩,k⟩:=h
 obtain⟨v,rfl,hv⟩:=ha.one
 obtain rfl:=hv.int_inv
 refine⟨_,(aJ (bF (AW NJ (pv 0) (CM (aj (bW G.Gw) (aj (bW G.T9) aA))) (by with_unfolding_all rfl)))),?_⟩
 refine⟨_,rfl,by show 2<=aK;decide,fun p hp=>⟨p,_,rfl,.inr (rN.of aE),rfl,rfl,k _ _ (aQ.new hp) ?_⟩⟩
 have e:(if false=true then !inV (V.int z) [.int 0,.int 1]else inV (V.int z) [.int 0,.int 1])=bX z 0 1:=by
  show((0:Int)==z||((1:Int)==z||false))=(decide (0<=z)&&decide (z<=1))
  by_cases h0:z=0
  ·subst h0;rfl
  ·by_cases h1:z=1
   ·subst h1;rfl
   ·rw[dU.mpr (fun e=>h0 e.symm),dU.mpr (fun e=>h1 e.symm)]
    symm
    rw[jK,jK,Ej]
    by_cases h:0<=z
    ·exact .inr (aH (by omega))
    ·exact .inl (aH h)
 rw[e]
 exact .bl _
def C3(ds:List bf)(d:bf):Prop:=∃z:Nat,ds=[dn z]/\d=.bool (pS z)
theorem Ju(G:fT K mg)(Df:jL K mg "is_word_sign" sI ["sign"]):bG P w K mg base "is_word_sign" ["sign"] 1 (qC K C3):=by
 refine Df.ok Jt (iR fun ds d⟨x,e,_⟩=>by rw[e];rfl) fun f iB A outer s H vs Q E hr h=>?_
 obtain⟨D,ds,d,hO,ha,⟨z,rfl,rfl⟩,k⟩:=h
 obtain⟨v,rfl,hv⟩:=ha.one
 obtain rfl:=hv.int_inv
 refine⟨_,(aJ (bF (Yq (CK qH qH b9 (pv 0) b9) (Yq (CK qH qH b9 (pv 0) b9) (OE (CK qH qH b9 (pv 0) b9)))))),?_⟩
 have fin:∀b,b=pS z->Q (.bl b) H:=fun b e=>k _ _ (aQ.refl H) (by rw[e];exact .bl _)
 have cz:∀(lo hi:Nat),(decide ((lo:Int)<=(z:Int))&&decide ((z:Int)<=(hi:Int)))=(decide (lo<=z)&&decide (z<=hi)):=fun lo hi=>by
  congr 1
  ·exact fH.mpr (by omega)
  ·exact fH.mpr (by omega)
 have e1:pS z=((decide (((48:Nat):Int)<=(z:Int))&&decide ((z:Int)<=((57:Nat):Int)))||((decide (((65:Nat):Int)<=(z:Int))&&decide ((z:Int)<=((90:Nat):Int)))||(decide (((97:Nat):Int)<=(z:Int))&&decide ((z:Int)<=((122:Nat):Int))))):=by
  rw[cz,cz,cz]
  rfl
 refine sG vy (yE rfl) vy ?_
 refine⟨_,rfl,Qn (fun h=>fin _ ?_) fun h=>?_⟩
 ·rw[e1]
  have h2:(decide (((48:Nat):Int)<=(z:Int))&&decide ((z:Int)<=((57:Nat):Int)))=true:=h
  rw[h2]
  rfl
 ·refine sG vy (yE rfl) vy ?_
  refine⟨_,rfl,Qn (fun h'=>fin _ ?_) fun h'=>?_⟩
  ·rw[e1]
   have h2:(decide (((65:Nat):Int)<=(z:Int))&&decide ((z:Int)<=((90:Nat):Int)))=true:=h'
   rw[h2,Bool.true_or,Bool.or_true]
  ·refine sG vy (yE rfl) vy (fin _ ?_)
   rw[e1]
   have h2:(decide (((48:Nat):Int)<=(z:Int))&&decide ((z:Int)<=((57:Nat):Int)))=false:=h
   have h3:(decide (((65:Nat):Int)<=(z:Int))&&decide ((z:Int)<=((90:Nat):Int)))=false:=h'
   rw[h2,h3,rX,rX]
   rfl
end
def Bf(ts:List cE)(x:bZ):List cE:=ts.dropLast++[(ts.getLast?.getD [])++[x]]
def kW(st:List cE×Bool)(x:bZ):List cE×Bool:=(if(pS x.sign&&st.2)=true then Bf st.1 x else st.1++[[x]],pS x.sign)
def kX(l:List bZ):List cE×Bool:=l.foldl kW ([],false)
theorem GA(ts:List cE)(t:cE)(x:bZ):Bf (ts++[t]) x=ts++[t++[x]]:=by
 unfold Bf
 simp
def yN(x:bZ)(W:List cE):List cE:=match W with
 |(y::w)::ws=>if(pS x.sign&&pS y.sign)=true then(x::y::w)::ws else [x]::(y::w)::ws
 |ws=>[x]::ws
def B3(ts:List cE)(t:cE)(W:List cE):List cE:=match W with
 |(y::w)::ws=>if pS y.sign=true then ts++(t++y::w)::ws else ts++[t]++(y::w)::ws
 |ws=>ts++[t]++ws
theorem n8(x:bZ)(r:List bZ):jd (x::r)=yN x (jd r):=rfl
theorem ZI(ts:List cE)(x:bZ)(hx:pS x.sign=true)(W:List cE):B3 ts [x] W=ts++yN x W:=by
 unfold B3 yN
 match W with
 |[]=>simp
 |[]::ws=>simp
 |(y::w)::ws=>
  simp only[hx,g8]
  by_cases hy:pS y.sign=true
  ·rw[aG hy,aG hy];rfl
  ·rw[aD hy,aD hy];simp
theorem WV(ts:List cE)(t:cE)(x:bZ)(hx:pS x.sign=true)(W:List cE):B3 ts (t++[x]) W=B3 ts t (yN x W):=by
 match W with
 |[]=>simp[B3,yN,hx]
 |[]::ws=>simp[B3,yN,hx]
 |(y::w)::ws=>
  by_cases hy:pS y.sign=true
  ·simp[B3,yN,hx,hy]
  ·simp[B3,yN,hx,hy]
theorem Rt(x:bZ)(hx:pS x.sign=false)(W:List cE):yN x W=[x]::W:=by
 match W with
 |[]=>rfl
 |[]::ws=>rfl
 |(y::w)::ws=>simp[yN,hx]
theorem ab4(ts:List cE)(t:cE)(x:bZ)(hx:pS x.sign=false)(W:List cE):B3 ts t (yN x W)=ts++[t]++yN x W:=by
 rw[Rt x hx]
 simp[B3,hx]
theorem agp(l:List bZ):(∀(ts:List cE),(l.foldl kW (ts,false)).1=ts++jd l)/\(∀(ts:List cE)(t:cE),(l.foldl kW (ts++[t],true)).1=B3 ts t (jd l)):=by
 induction l with
 |nil=>exact⟨fun ts=>by simp[jd],fun ts t=>by simp[jd,B3]⟩
 |cons x r ih=>
  obtain⟨ih1,ih2⟩:=ih
  have main:∀ts:List cE,(r.foldl kW (ts++[[x]],pS x.sign)).1=ts++jd (x::r):=fun ts=>by
   rw[n8]
   cases hx:pS x.sign with
   |false=>rw[ih1,Rt x hx];simp
   |true=>rw[ih2,ZI ts x hx]
  refine⟨fun ts=>?_,fun ts t=>?_⟩
  ·rw[g9]
   have e:kW (ts,false) x=(ts++[[x]],pS x.sign):=by
    unfold kW
    rw[kT,aD aF]
   rw[e,main]
  ·rw[g9]
   cases hx:pS x.sign with
   |false=>
    have e:kW (ts++[t],true) x=((ts++[t])++[[x]],pS x.sign):=by
     unfold kW
     rw[hx,qt,aD aF]
    rw[e,main,n8,ab4 ts t x hx]
   |true=>
    have e:kW (ts++[t],true) x=(ts++[t++[x]],true):=by
     unfold kW
     rw[hx,g8,aG rfl,GA]
    rw[e,ih2,n8,WV ts t x hx]
theorem HN(l:List bZ):(kX l).1=jd l:=by
 have:=(agp l).1 []
 rw[oY]at this
 exact this
theorem C4(l:List bZ)(x:bZ):kX (l++[x])=kW (kX l) x:=by
 unfold kX
 rw[lV]
 rfl
theorem NW(l:List bZ):(kX l).2=true->(kX l).1≠[]:=by
 intro h
 rcases Ek l with rfl|⟨r,x,rfl⟩
 ·cases h
 ·rw[El,C4]
  unfold kW
  simp only
  split
  ·simp[Bf]
  ·simp
theorem K9(l:List bZ):(kX l).1.length<=l.length:=by
 have Ql:∀n(l:List bZ),l.length=n->(kX l).1.length<=l.length:=by
  intro n
  induction n with
  |zero=>intro l hl;rw[mY.mp hl];simp[kX]
  |succ n ih0=>
  intro l hl
  obtain⟨r,x,rfl⟩:∃r x,l=r++[x]:=by
   rcases Ek l with rfl|⟨r,x,e⟩
   ·simp at hl
   ·exact⟨r,x,by rw[e,El]⟩
  have ih:=ih0 r (by simpa using hl)
  rw[C4,au]
  unfold kW
  simp only
  split
  ·rename_i h
   have qI:=NW r (by simp only[bx]at h;exact h.2)
   have:(kX r).1.length≠0:=fun e=>qI (mY.mp e)
   unfold Bf
   rw[au,fL]
   simp
   omega
  ·rw[au]
   simp
   exact ih
 exact Ql _ l rfl
section
variable{P:bD}{w:cC}{K:ah}{mg:cM->Option ao}{base:cY}
theorem gv{α:Type}{l:List α}{i:Nat}{x:α}(h:l[i]?=some x):l.take (i+1)=l.take i++[x]:=by
 rw[jj,h]
 rfl
theorem K_:∀(l:List bZ),∀t∈jd l,t.length<=l.length
 |[],t,h=>by simp[jd]at h
 |x::r,t,h=>by
  rw[n8]at h
  have ih:=K_ r
  generalize jd r=W at h ih
  unfold yN at h
  rw[br]
  split at h
  ·rename_i y w ws
   split at h
   ·rcases aW.mp h with rfl|h
    ·have:=ih (y::w) (by simp)
     rw[br]
     omega
    ·have:=ih t (by simp[h])
     omega
   ·rcases aW.mp h with rfl|h
    ·simp
    ·have:=ih t h
     omega
  ·rcases aW.mp h with rfl|h
   ·simp
   ·have:=ih t h
    omega
def EI(ds:List bf)(d:bf):Prop:=∃l:List bZ,ds=[l6 l]/\l.length<=2000/\d=Gx (jd l)
theorem Ru(ts:List cE)(x:bZ)(h:ts≠[]):∃pre t,ts.map (fun t:cE=>t.map gS)=pre++[t]/\(Bf ts x).map (fun t:cE=>t.map gS)=pre++[t++[gS x]]:=by
 obtain⟨qs,p,rfl⟩:∃qs p,ts=qs++[p]:=⟨ts.dropLast,ts.getLast h,(fJ h).symm⟩
 rw[GA]
 exact⟨qs.map (fun t:cE=>t.map gS),p.map gS,by simp,by simp⟩
theorem La(G:fT K mg)(Df:jL K mg "word_tokens" uS ["letters"])(xG:bG P w K mg base "is_word_sign" ["sign"] 1 (qC K C3)):bG P w K mg base "word_tokens" ["letters"] 2 (qC K EI):=by
 refine Df.ok mF (iR fun ds d⟨x,e,_⟩=>by rw[e];rfl) fun f iB A outer s H vs Q E hr h=>?_
 obtain⟨D,ds,d,hO,ha,⟨l,rfl,hn,rfl⟩,k⟩:=h
 obtain⟨v,rfl,hv⟩:=ha.one
 obtain⟨a,xs,rfl,h1,h2⟩:=hv.bV
 have jT:=h2.length
 rw[aa]at jT
 refine⟨_,(aC (cR (i:=1) mF.nd rfl (by first|exact bz rfl|exact bB rfl) (c_ aA))
   (aC (cR (i:=2) mF.nd rfl (by first|exact bz rfl|exact bB rfl) QK)
   (aC (jO cA rfl (fE (pv 0)) (cJ (i:=3) mF.nd rfl (by first|exact bz rfl|exact bB rfl)) (aC (cR (i:=4) mF.nd rfl (by first|exact bz rfl|exact bB rfl) (bL xG (hr.mono (by decide)) (aj (eX (r:=Gi K) rD (pv 3) b9 (fun _ _=>rfl)) aA)))
   (aC (eW (PW.pt (To (rC (pv 4) (fun _=>rfl)) (OD (rC (pv 2) (fun _=>rfl))))) (aJ (eZ (kQ aZ cg cu iK (eX (r:=jP K) dm (pv 1) (Ah ug b9) (fun _ _=>rfl)) (aj (pv 3) aA)))) (aJ (eZ (kQ aZ cg cu iK (pv 1) (aj (c_ (aj (pv 3) aA)) aA)))))
   (aJ (cR (i:=2) mF.nd rfl (by first|exact bz rfl|exact bB rfl) (pv 4))))))
   (aJ (bF (pv 1)))))),?_⟩
 refine⟨bE _,fun tk htk=>?_⟩
 refine⟨_,rfl,a,rfl,⟨_,cG.of ((aQ.new htk) _ _ (aq _ _ h1))⟩,kq (K:=K) (a:=a) (xs:=xs)
  (fun i σ H'=>∃v3 v4,σ=[some (.ref a),some (.ref tk),some (.bl (kX (l.take i)).2),v3,v4]/\LL K D H H' tk ((kX (l.take i)).1.map (fun t:cE=>t.map gS)))
  ⟨none,none,rfl,LL.start htk⟩ (fun i σ H' _⟨_,_,_,c⟩=>cG.of (c.same _ _ (aq _ _ h1))) ?_ ?_⟩
 ·rintro i y σ H' hi ⟨v3,v4,rfl,c⟩
  obtain⟨d,e1,hy⟩:=h2.get hi
  rw[aT]at e1
  obtain⟨x,ex,rfl⟩:∃x,l[i]?=some x/\gS x=d:=by
   cases q:l[i]? with
   |none=>rw[q]at e1;cases e1
   |some x=>rw[q]at e1;exact⟨x,rfl,bH e1⟩
  obtain⟨a1,b1,rfl,h3,h4⟩:=uu hy
  have IB:i<l.length:=(az.mp ex).1
  have WH:=K9 (l.take i)
  rw[a_]at WH
  rw[gv ex,C4]
  refine⟨_,rfl,a1,_,0,_,rfl,rfl,c.same.EF (aq.EF h3),rfl,D0,_,_,Od.zero,.cons (.int _) .nil,⟨x.sign,rfl,rfl⟩,fun v5 H5 s5 d5=>?_⟩
  obtain rfl:=d5.zg
  have c5:=c.skip s5
  refine⟨_,rfl,_,rfl,?_⟩
  have fin:∀(ts:List cE)(H6:Hp),ts=(kW (kX (l.take i)) x).1->LL K D H H6 tk (ts.map (fun t:cE=>t.map gS))->∃v3 v4,[some (V.ref a),some (.ref tk),some (.bl (pS x.sign)),some (.ref a1),some (.bl (pS x.sign))]=[some (V.ref a),some (.ref tk),some (.bl (kW (kX (l.take i)) x).2),v3,v4]/\LL K D H H6 tk ((kW (kX (l.take i)) x).1.map (fun t:cE=>t.map gS)):=
   fun ts H6 e c6=>⟨_,_,rfl,by rw[<-e];exact c6⟩
  have new:∀q,H5 q=none->(kW (kX (l.take i)) x).1=(kX (l.take i)).1++[[x]]->∃xs,upd H5 q (.lst [.ref a1]) tk=some (.lst xs)/\xs.length<aK/\LL K D H (upd (upd H5 q (.lst [.ref a1])) tk (.lst (xs++[.ref q]))) tk ((kW (kX (l.take i)) x).1.map (fun t:cE=>t.map gS)):=fun q hq e=>by
   obtain⟨xs,q1,q2,q3⟩:=c5.VJ hq hy
   refine⟨xs,q1,by rw[q2,aa];exact big (by omega),?_⟩
   rw[e,bu]
   exact q3
  refine Qn (fun hw=>?_) fun hw=>?_
  ·refine⟨_,rfl,_,rfl,Qn (fun hf=>?_) fun hf=>?_⟩
   ·
    have e:(kW (kX (l.take i)) x).1=Bf (kX (l.take i)).1 x:=by
     unfold kW
     rw[hw,hf]
     rfl
    obtain⟨pre,t,p1,p2⟩:=Ru (kX (l.take i)).1 x (NW _ hf)
    rw[p1]at c5
    obtain⟨Ug,p,acc,q1,q2,q3,q4,q5⟩:=c5.Rh hy
    refine⟨_,rfl,_,rfl,tk,_,_,_,rfl,rfl,cG.of q1,q2,.inl ⟨rfl,_,cG.of q3⟩,_,rfl,p,_,_,rfl,rfl,q3,?_,?_⟩
    ·rw[q4]
     have:t.length<=2000:=by
      have hm:t∈(kX (l.take i)).1.map (fun t:cE=>t.map gS):=by rw[p1];simp
      obtain⟨t',ht',rfl⟩:=bI.mp hm
      rw[aa]
      have:=K_ (l.take i) t' (by rw[<-HN];exact ht')
      rw[a_]at this
      omega
     exact big (by omega)
    ·refine⟨_,rfl,fin _ _ rfl ?_⟩
     rw[e,p2]
     exact q5
   ·obtain⟨ys,y1,y2⟩:=c5.len
    refine⟨_,rfl,.inl ⟨rfl,_,cG.of y1⟩,_,rfl,by show 1<=aK;decide,fun q hq=>?_⟩
    obtain⟨Ug,q1,q2,q3⟩:=new q hq (by unfold kW;rw[hw,hf];rfl)
    exact⟨tk,_,_,rfl,rfl,q1,q2,_,rfl,fin _ _ rfl q3⟩
  ·refine iL rfl ?_
   obtain⟨ys,y1,y2⟩:=c5.len
   refine⟨_,rfl,.inl ⟨rfl,_,cG.of y1⟩,_,rfl,by show 1<=aK;decide,fun q hq=>?_⟩
   obtain⟨Ug,q1,q2,q3⟩:=new q hq (by unfold kW;rw[hw];rfl)
   exact⟨tk,_,_,rfl,rfl,q1,q2,_,rfl,fin _ _ rfl q3⟩
 ·rintro σ H' ⟨v3,v4,rfl,c⟩
  refine⟨_,rfl,k _ _ c.same ?_⟩
  have q:=c.done hO
  rw[jT,cU,HN,aR]at q
  exact q
end
theorem mT{α β:Type}{l:List α}{f:α->β}{i:Nat}{y:β}(h:(l.map f)[i]?=some y):∃x,l[i]?=some x/\f x=y:=by
 rw[aT]at h
 cases q:l[i]? with
 |none=>rw[q]at h;cases h
 |some x=>rw[q]at h;exact⟨x,rfl,bH h⟩
section
variable{P:bD}{w:cC}{K:ah}{mg:cM->Option ao}{base:cY}
def C5(ds:List bf)(d:bf):Prop:=∃(l:List bZ)(g:Nat),ds=[l6 l,dn g]/\g<=1/\l.length<=2000/\d=Gx (tokens g l.dropLast)
theorem O6(G:fT K mg)(Df:jL K mg "tokens_of" yI ["text","grain"])(jR:bG P w K mg base "inner_letters" ["text"] 1 (qC K vN))(zu:bG P w K mg base "word_tokens" ["letters"] 2 (qC K EI)):bG P w K mg base "tokens_of" ["text","grain"] 3 (qC K C5):=by
 refine Df.ok A2 (iR fun ds d⟨x,g,e,_⟩=>by rw[e];rfl) fun f iB A outer s H vs Q E hr h=>?_
 obtain⟨D,ds,d,hO,ha,⟨l,g,rfl,hg,hn,rfl⟩,k⟩:=h
 obtain⟨v1,v2,rfl,g1,g2⟩:=ha.two
 obtain rfl:=g2.int_inv
 refine⟨_,(aC (eW (dB jM (pv 1) (bW G.Gw) (dZ _)) (aJ (bF (vm (own:=[("letter",2)]) rfl A2.nd (fE (bL jR (hr.mono (by decide)) (aj (pv 0) aA))) (gR (by rfl)) (fun _ _ _ _ _=>(cJ (i:=2) A2.nd rfl (by first|exact bz rfl|exact bB rfl))) (fun _ _ _ _ _=>jA) (fun _ _ _ _ _=>(c_ (aj (pv 2) aA)))))) cN)
   (aJ (bF (bL zu (hr.mono (by decide)) (aj (bL jR (hr.mono (by decide)) (aj (pv 0) aA)) aA))))),?_⟩
 refine⟨_,rfl,rfl,_,rfl,?_⟩
 by_cases h0:g=0
 ·subst h0
  refine kO rfl ?_
  refine⟨_,rfl,D,_,_,hO,.cons g1 .nil,⟨l,rfl,hn,rfl⟩,fun v H1 s1 d1=>?_⟩
  obtain⟨a,xs,rfl,h1,h2⟩:=d1.bV
  have o1:=hO.mono s1
  refine⟨a,rfl,⟨_,cG.of (aq _ _ h1)⟩,fun L hL=>wF (K:=K) (D:=D) (f:=fun d=>.list [d]) hL o1 (cG.of (aq _ _ h1)) h2 (nI (by rw[aa,fL];omega)) (fun _=>rfl)
   (fun i x d H' D' Qe hd s o hx sd kk=>?_) fun H' s K8=>k _ _ (s1.trans s) ?_⟩
  ·exact⟨_,rfl,by show 1<=aK;decide,fun p hp=>kk _ _ (aQ.new hp) (k_ hp o (.cons hx .nil))⟩
  ·rw[aR]at K8
   unfold Gx tokens
   rw[aG rfl,aR]
   exact K8
 ·refine iL (aH fun e=>h0 (pD e)) ?_
  refine⟨_,rfl,D,_,_,hO,.cons g1 .nil,⟨l,rfl,hn,rfl⟩,fun v H1 s1 d1=>?_⟩
  refine⟨D,_,_,hO.mono s1,.cons d1 .nil,⟨_,rfl,by rw[fL];omega,rfl⟩,fun v2 H2 s2 d2=>k _ _ (s1.trans s2) ?_⟩
  unfold tokens
  rw[aD h0]
  exact d2
def zw(t:cE):List Nat:=t.map fun x=>x.sign
def HP(ds:List bf)(d:bf):Prop:=∃t:cE,ds=[l6 t]/\t.length<=2000/\d=dH (zw t)
theorem Uh(G:fT K mg)(Df:jL K mg "word_of" D4 ["token"]):bG P w K mg base "word_of" ["token"] 1 (qC K HP):=by
 refine Df.ok E3 (iR fun ds d⟨x,e,_⟩=>by rw[e];rfl) fun f iB A outer s H vs Q E hr h=>?_
 obtain⟨D,ds,d,hO,ha,⟨t,rfl,hn,rfl⟩,k⟩:=h
 obtain⟨v,rfl,g1⟩:=ha.one
 obtain⟨a,xs,rfl,h1,h2⟩:=g1.bV
 refine⟨_,(aJ (bF (vm (own:=[("letter",1)]) rfl E3.nd (fE (pv 0)) (gR (by rfl)) (fun _ _ _ _ _=>(cJ (i:=1) E3.nd rfl (by first|exact bz rfl|exact bB rfl))) (fun _ _ _ _ _=>jA) (fun _ _ _ _ _=>(eX (r:=Gi K) rD (pv 1) b9 (fun _ _=>rfl)))))),?_⟩
 refine⟨_,rfl,a,rfl,⟨_,cG.of (aq _ _ h1)⟩,fun L hL=>wF (K:=K) (D:=D) (f:=fun d=>match d with|.tuple (x::_)=>x|d=>d) hL hO (cG.of (aq _ _ h1)) h2 (nI (by rw[aa];omega)) (fun _=>rfl)
   (fun i x d H' D' Qe hd s o hx sd kk=>?_) fun H' s K8=>k _ _ s ?_⟩
 ·obtain⟨z,_,rfl⟩:=mT hd
  obtain⟨a1,b1,rfl,h3,h4⟩:=uu hx
  exact⟨_,rfl,a1,_,0,_,rfl,rfl,aq.EF h3,rfl,kk _ _ (aQ.refl _) (.int _)⟩
 ·rw[aR]at K8
  unfold dH zw
  rw[aR]
  exact K8
theorem ZJ:∀(l:List Nat)(n:Nat),((l.foldl (·+·) n:Nat):Int)=(n:Int)+(l.map fun m:Nat=>(m:Int)).sum
 |[],n=>by simp
 |a::l,n=>by
  rw[g9,ZJ l (n+a),bg,AQ]
  omega
theorem ab5(l:List Nat):(l.map fun m:Nat=>(m:Int)).sum=((Mx l:Nat):Int):=by
 unfold Mx
 rw[ZJ]
 simp
def II(ds:List bf)(d:bf):Prop:=∃a b:cE,ds=[l6 a,l6 b]/\Bb a/\Bb b/\a.length<=2000/\d=dn (iz a b)
theorem O7(G:fT K mg)(Df:jL K mg "keep_cost" yJ ["old_token","new_token"])(qa:bG P w K mg base "difference" ["old_letter","new_letter"] 2 (qC K Bd)):bG P w K mg base "keep_cost" ["old_token","new_token"] 3 (qC K II):=by
 refine Df.ok wI (iR fun ds d⟨x,y,e,_⟩=>by rw[e];rfl) fun f iB A outer s H vs Q E hr h=>?_
 obtain⟨D,ds,d,hO,ha,⟨ta,tb,rfl,ka,kb,hn,rfl⟩,k⟩:=h
 obtain⟨v1,v2,rfl,g1,g2⟩:=ha.two
 obtain⟨a,xs,rfl,h1,h2⟩:=g1.bV
 obtain⟨b,ys,rfl,h3,h4⟩:=g2.bV
 refine⟨_,(aJ (bF (cS (r:=aed K) (YY rfl) (by rfl) G.ada boot_sum (aj (vm (g:=Yu K 2 (F_ (wm 2) (F_ (wm 3) Yt))) (own:=[("one",2),("other",3)]) rfl wI.nd (Zc rfl G.adb (aj (pv 0) (aj (pv 1) aA))) (gR (by rfl)) (fun _ _ _ _ _=>(by exact(xy rfl (gQ (cJ (i:=2) wI.nd rfl (by first|exact bz rfl|exact bB rfl)) (gQ (cJ (i:=3) wI.nd rfl (by first|exact bz rfl|exact bB rfl)) su))))) (fun _ _ _ _ _=>jA) (fun _ _ _ _ _=>(bL qa (hr.mono (by decide)) (aj (pv 2) (aj (pv 3) aA))))) aA)))),?_⟩
 refine⟨_,rfl,_,rfl,a,b,xs,ys,rfl,cG.of (aq _ _ h1),cG.of (aq _ _ h3),fun L hL=>?_⟩
 let ff:bf->bf->bf:=fun d e=>match d,e with
  |.tuple [.int i,.tuple l],.tuple [.int j,.tuple m]=>dn (lP {sign:=i.toNat,look:=l.map fun z=>match z with|.int n=>n.toNat|_=>0} {sign:=j.toNat,look:=m.map fun z=>match z with|.int n=>n.toNat|_=>0})
  |d,_=>d
 have hff:∀x y:bZ,MU x->MU y->ff (gS x) (gS y)=dn (lP x y):=fun x y hx hy=>by
  have ajj:∀l:List Nat,(l.map dn).map (fun z=>match z with|jS n=>n.toNat|_=>0)=l:=fun l=>by
   rw[aR]
   have:((fun z=>match z with|jS n=>n.toNat|_=>0)∘dn)=id:=by
    funext n
    show(y9 (n:Int))=n
    omega
   rw[this,List.map_id]
  show dn (lP {sign:=((x.sign:Nat):Int).toNat,look:=(x.look.map dn).map _} {sign:=((y.sign:Nat):Int).toNat,look:=(y.look.map dn).map _})=_
  unfold lP
  simp only[ajj]
 refine abP (K:=K) (D:=D) (f:=ff) hL hO (cG.of (aq _ _ h1)) (cG.of (aq _ _ h3)) h2 h4 (nI (by rw[aa];omega)) (fun _ _=>rfl)
   (fun i x y d e H' D' Qe hd he s o hx hy sd kk=>?_) fun H' s K8=>?_
 ·obtain⟨z,ez,rfl⟩:=mT hd
  obtain⟨z',ez',rfl⟩:=mT he
  have kz:=ka z (aL ez)
  have kz':=kb z' (aL ez')
  rw[hff z z' kz kz']at kk
  exact⟨_,rfl,_,rfl,D',_,_,o,.cons hx (.cons hy .nil),⟨z,z',rfl,kz,kz',rfl⟩,kk⟩
 ·have e:((ta.map gS).zip (tb.map gS)).map (fun p=>ff p.1 p.2)=((ta.zip tb).map fun x=>lP x.1 x.2).map dn:=by
   rw[List.zip_map,aR,aR]
   refine bA fun p hp=>?_
   have hm:=xm hp
   exact hff p.1 p.2 (ka _ hm.1) (kb _ hm.2)
  rw[e]at K8
  obtain⟨a',zs,e1,h5,h6⟩:=K8.bV
  cases e1
  have e2:=vL h6
  subst e2
  refine⟨L,((ta.zip tb).map fun x=>lP x.1 x.2).map (fun m:Nat=>(m:Int)),rfl,?_,?_⟩
  ·rw[aR]
   exact cG.of (aq _ _ h5)
  ·rw[ab5]
   exact k _ _ s (.int _)
def gm(a b:cE):Option Nat:=if wj a b=true then some (iz a b)else none
def Cj:Option Nat->bf
 |some n=>dn n
 |none=>.none
def ZK(l:List cE):bf:=.list (l.map fun t=>dH (zw t))
def C6(l:List cE):Prop:=∀t∈l,Bb t/\t.length<=2000
def Lb(ds:List bf)(d:bf):Prop:=∃(a:cE)(bs:List cE),ds=[l6 a,Gx bs,ZK bs]/\Bb a/\a.length<=2000/\C6 bs/\bs.length<=2000/\d=.list (bs.map fun b=>Cj (gm a b))
theorem Ui(a b:cE):decide (zw b=zw a)=wj a b:=by
 unfold wj zw
 by_cases h:(a.map fun x=>x.sign)=b.map fun x=>x.sign
 ·rw[h]
  simp
 ·rw[aH (fun e=>h e.symm)]
  exact(dU.mpr h).symm
theorem Rv(G:fT K mg)(Df:jL K mg "keep_row" A3 ["old_token","new_tokens","new_words"])(wZ:bG P w K mg base "word_of" ["token"] 1 (qC K HP))(C7:bG P w K mg base "keep_cost" ["old_token","new_token"] 3 (qC K II)):bG P w K mg base "keep_row" ["old_token","new_tokens","new_words"] 4 (qC K Lb):=by
 refine Df.ok vz (iR fun ds d⟨x,y,e,_⟩=>by rw[e];rfl) fun f iB A outer s H vs Q E hr h=>?_
 obtain⟨D,ds,d,hO,ha,⟨ta,bs,rfl,ka,na,kb,nb,rfl⟩,k⟩:=h
 obtain⟨v1,v2,v3,rfl,g1,g2,g3⟩:=ha.three
 obtain⟨b,ys,rfl,h1,h2⟩:=g2.bV
 obtain⟨c,zs,rfl,h3,h4⟩:=g3.bV
 have jT:=h2.length
 rw[aa]at jT
 refine⟨_,(aC (cR (i:=3) vz.nd rfl (by first|exact bz rfl|exact bB rfl) (bL wZ (hr.mono (by decide)) (aj (pv 0) aA)))
   (aC (cR (i:=4) vz.nd rfl (by first|exact bz rfl|exact bB rfl) (c_ aA))
   (aC (jO cA rfl (Ke rfl G.rP (aj (pv 1) aA)) (xy rfl (gQ (cJ (i:=5) vz.nd rfl (by first|exact bz rfl|exact bB rfl)) (gQ (cJ (i:=6) vz.nd rfl (by first|exact bz rfl|exact bB rfl)) su))) (aJ (eZ (kQ aZ cg cu iK (pv 4) (aj (CG (dB (r:=abK K) (TZ hr.units) (eX (r:=jP K) dm (pv 2) (pv 5) (fun _ _=>rfl)) (pv 3) (dZ _)) (bL C7 (hr.mono (by decide)) (aj (pv 0) (aj (pv 6) aA))) xx) aA)))))
   (aJ (bF (pv 4)))))),?_⟩
 refine⟨_,rfl,D,_,_,hO,.cons g1 .nil,⟨ta,rfl,na,rfl⟩,fun v4 H1 s1 d1=>?_⟩
 refine⟨bE _,fun r Ey=>?_⟩
 have o1:=hO.mono s1
 refine⟨_,rfl,b,ys,rfl,cG.of ((aQ.new Ey) _ _ (s1 _ _ (aq _ _ h1))),Gp (K:=K) (a:=b) (xs:=ys)
  (fun i σ H'=>∃v5 v6,σ=[some v1,some (.ref b),some (.ref c),some v4,some (.ref r),v5,v6]/\aQ H1 H'/\∃acc,H' r=some (.lst acc)/\bN K (hd H' D) acc ((bs.take i).map fun t=>Cj (gm ta t)))
  ⟨none,none,rfl,aQ.new Ey,[],aE,.nil⟩ (fun i σ H' _⟨_,_,_,c,_⟩=>cG.of (c _ _ (s1 _ _ (aq _ _ h1)))) ?_ ?_⟩
 ·rintro i y σ H' T hi ⟨v5,v6,rfl,c',acc,q1,q2⟩ hT
  obtain⟨d,e1,hy⟩:=h2.get hi
  obtain⟨t,et,rfl⟩:=mT e1
  have hm:=aL et
  have IB:i<bs.length:=(az.mp et).1
  obtain⟨wv,ew,hw⟩:=h4.MN (i:=i) (d:=dH (zw t)) (by rw[aT,et];rfl)
  have s2:aQ H1 (upd H' T (.tup [.int (i:Nat),y])):=c'.trans (aQ.new hT)
  have ZL:aQ H (upd H' T (.tup [.int (i:Nat),y])):=s1.trans s2
  have o2:=hO.mono ZL
  have qr:upd H' T (.tup [.int (i:Nat),y]) r=some (.lst acc):=(aQ.new hT) _ _ q1
  have q2':=(aU (D:=D) (aQ.new (o:=.tup [.int (i:Nat),y]) hT)).EG q2
  have la:=q2.length
  rw[aa,a_]at la
  refine⟨T,_,rfl,rN.of aE,rfl,.int (i:Nat),_,rfl,y,_,rfl,rfl,?_⟩
  have fin:∀(o:Option Nat)(u:V)(H3:Hp),o=gm ta t->aQ (upd H' T (.tup [.int (i:Nat),y])) H3->Dx K (hd H3 D) u (Cj o)->∃l' Ug y',V.ref r=.ref l'/\[u]=[y']/\H3 l'=some (.lst Ug)/\Ug.length<aK/\
    ∃v5 v6,[some v1,some (V.ref b),some (.ref c),some v4,some (.ref r),some (.int (i:Nat)),some y]=[some v1,some (V.ref b),some (.ref c),some v4,some (.ref r),v5,v6]/\aQ H1 (upd H3 l' (.lst (Ug++[y'])))/\
     ∃acc,upd H3 l' (.lst (Ug++[y'])) r=some (.lst acc)/\bN K (hd (upd H3 l' (.lst (Ug++[y']))) D) acc ((bs.take (i+1)).map fun t=>Cj (gm ta t)):=by
   intro o u H3 eo s3 hu
   refine⟨r,acc,u,rfl,rfl,s3 _ _ qr,big (by omega),_,_,rfl,(s2.trans s3).write Ey,acc++[u],aE,?_⟩
   rw[gv et,bu]
   have plain:∀(os:List (Option Nat))(us:List V),bN K (hd H3 D) us (os.map Cj)->bN K (hd (upd H3 r (.lst (acc++[u]))) D) us (os.map Cj):=by
    intro os
    induction os with
    |nil=>intro us h;cases h;exact .nil
    |cons o' os ih=>
     intro us h
     cases h with
     |cons x z=>
      refine .cons ?_ (ih _ z)
      cases o' with
      |none=>rw[x.Kh];exact .jX
      |some n=>rw[x.int_inv];exact .int _
   refine bN.append ?_ (.cons ?_ .nil)
   ·have:=plain ((bs.take i).map fun t=>gm ta t) acc (by rw[aR];exact(aU s3).EG q2')
    rw[aR]at this
    exact this
   ·show Dx K _ u (Cj (gm ta t))
    rw[<-eo]
    cases o with
    |none=>rw[hu.Kh];exact .jX
    |some n=>rw[hu.int_inv];exact .int _
  refine⟨_,rfl,.inl ⟨rfl,_,cG.of qr⟩,_,rfl,_,rfl,c,_,_,_,rfl,rfl,cG.of (ZL _ _ (aq _ _ h3)),CV (j:=i) rfl ew,_,rfl,_,_,
   (aq.dp ((aU ZL).dp hw)).dp,(aq.dp ((aU s2).dp d1)).dp,Gy _,Gy _,_,rfl,?_⟩
  rw[NT,Ui]
  refine Qn (fun ho=>?_) fun ho=>?_
  ·refine⟨_,rfl,_,rfl,D,_,_,o2,.cons ((aU ZL).dp g1) (.cons ((aU ZL).dp hy) .nil),⟨ta,t,rfl,ka,(kb t hm).1,na,rfl⟩,fun u H3 s3 d3=>?_⟩
   exact fin (some (iz ta t)) u H3 (by unfold gm;rw[aG ho]) s3 d3
  ·exact fin none .jX _ (by unfold gm;rw[aD (by rw[ho];exact aF)]) (aQ.refl _) .jX
 ·rintro σ H' ⟨v5,v6,rfl,c',acc,q1,q2⟩
  refine⟨_,rfl,k _ _ (s1.trans c') ?_⟩
  rw[jT,cU]at q2
  exact um q1 (o1.fresh Ey) q2
end
def xH(t:cE):TK:=t.map fun x=>(x.sign,x.look)
theorem ZM(t:cE):NQ (xH t)=.tuple (t.map gS):=by
 unfold NQ xH
 rw[aR]
 rfl
theorem Rw:∀{s t:cE},Bb s->Bb t->xH s=xH t->s=t
 |[],[],_,_,_=>rfl
 |[],_::_,_,_,e=>by cases e
 |_::_,[],_,_,e=>by cases e
 |x::s,y::t,hs,ht,e=>by
  have e':=X_ (show(x.sign,x.look)::xH s=(y.sign,y.look)::xH t from e)
  rw[K6 (hs x (by simp)) (ht y (by simp)) (eN e'.1).1 (eN e'.1).2,Rw (fun z hz=>hs z (by simp[hz])) (fun z hz=>ht z (by simp[hz])) e'.2]
def O8(bs:List cE)(a:cE):bf:=.list (bs.map fun b=>Cj (gm a b))
section
variable{P:bD}{w:cC}{K:ah}{mg:cM->Option ao}{base:cY}
def GB(ds:List bf)(d:bf):Prop:=∃(as bs:List cE),ds=[Gx as,Gx bs]/\C6 as/\C6 bs/\as.length<=2000/\bs.length<=2000/\d=.list (as.map (O8 bs))
structure agq(P:bD)(w:cC)(K:ah)(D:ak->Bool)(bs:List cE)(H1 H:Hp)(kd tb:ak)(ts:List cE):Prop where
 same:aQ H1 H
 fk:H1 kd=none
 ft:H1 tb=none
 ne:kd≠tb
 ex:∃dh acc,H kd=some (WN P w kd dh)/\dh.length<=ts.length/\KZ K (hd H (ad (ad D kd) tb)) dh/\
  (∀p∈dh,∃t,Bb t/\p.1=xH t/\Dx K (hd H (ad (ad D kd) tb)) (.ref p.2.2) (O8 bs t))/\H tb=some (.lst acc)/\bN K (hd H (ad (ad D kd) tb)) acc (ts.map (O8 bs))
theorem WW{dh:KY}{k:TK}{r:ak}(h:xC dh k=some r):∃p∈dh,p.1=k/\p.2.2=r:=by
 unfold xC at h
 obtain⟨p,hp,e⟩:=jf.mp h
 have h1:=jY hp
 have h2:=fD hp
 exact⟨p,h2,f9 h1,e⟩
theorem Lc{dh:KY}{k:TK}{b r:ak}(h:xC dh k=none):xC (dh++[(k,b,r)]) k=some r:=by
 unfold xC at *
 rw[QC]at h
 rw[Ji,h]
 simp
theorem MX(G:fT K mg)(Df:jL K mg "keep_table" wJ ["old_tokens","new_tokens"])(wZ:bG P w K mg base "word_of" ["token"] 1 (qC K HP))(E9:bG P w K mg base "keep_row" ["old_token","new_tokens","new_words"] 4 (qC K Lb)):bG P w K mg base "keep_table" ["old_tokens","new_tokens"] 5 (qC K GB):=by
 refine Df.ok lK (iR fun ds d⟨x,y,e,_⟩=>by rw[e];rfl) fun f iB A outer s H vs Q E hr h=>?_
 obtain⟨D,ds,d,hO,ha,⟨ts,bs,rfl,ka,kb,na,nb,rfl⟩,k⟩:=h
 obtain⟨v1,v2,rfl,g1,g2⟩:=ha.two
 obtain⟨a,xs,rfl,h1,h2⟩:=g1.bV
 obtain⟨b,ys,rfl,h3,h4⟩:=g2.bV
 have hu:=jJ (mZ (by decide:9<=64) _) hr.units
 have jT:=h2.length
 rw[aa]at jT
 refine⟨_,(aC (Aj (i:=2) (own:=[("token",7)]) rfl lK.nd rfl rfl (DY rfl rfl rfl rfl) (fE (pv 1)) (gR (by rfl)) (fun _ _ _ _ _=>(cJ (i:=7) lK.nd rfl (by first|exact bz rfl|exact bB rfl))) (fun _ _ _ _ _=>jA) (fun _ _ _ _ _=>(bL wZ (hr.mono (by decide)) (aj (pv 7) aA))))
   (aC (cR (i:=3) lK.nd rfl (by first|exact bz rfl|exact bB rfl) Zn)
   (aC (cR (i:=4) lK.nd rfl (by first|exact bz rfl|exact bB rfl) (c_ aA))
   (aC (jO cA rfl (fE (pv 0)) (cJ (i:=5) lK.nd rfl (by first|exact bz rfl|exact bB rfl)) (aC (cR (i:=6) lK.nd rfl (by first|exact bz rfl|exact bB rfl) (Hv ML (by rfl) G.ab2 boot_tuple (aj (pv 5) aA)))
   (aC (eW (ue (T6 hu (pv 6) (pv 3))) (aJ (Zq hu (pv 3) (pv 6) (bL E9 (hr.mono (by decide)) (aj (pv 5) (aj (pv 1) (aj (pv 2) aA)))) rfl)) cN)
   (aJ (eZ (kQ aZ cg cu iK (pv 4) (aj (Zp hu (pv 3) (pv 6) (fun _ _=>rfl)) aA)))))))
   (aJ (bF (pv 4))))))),?_⟩
 refine⟨_,rfl,b,rfl,⟨_,cG.of (aq _ _ h3)⟩,fun L hL=>wF (K:=K) (D:=D) (f:=fun d=>match d with|.list l=>.list (l.map fun d=>match d with|.tuple (x::_)=>x|d=>d)|d=>d) hL hO (cG.of (aq _ _ h3)) h4 (nI (by rw[aa];omega)) (fun _=>rfl)
   (fun i x d H' D' Qe hd s o hx sd kk=>?_) fun H1 s1 K8=>?_⟩
 ·obtain⟨t,et,rfl⟩:=mT hd
  refine⟨_,rfl,D',_,_,o,.cons hx .nil,⟨t,rfl,(kb t (aL et)).2,rfl⟩,fun v H5 s5 d5=>kk _ _ s5 ?_⟩
  have e:(r9 ((t.map gS).map fun d=>match d with|.tuple (x::_)=>x|d=>d))=dH (zw t):=by
   unfold dH zw
   rw[aR,aR]
   rfl
  show Dx K _ v (r9 ((t.map gS).map fun d=>match d with|.tuple (x::_)=>x|d=>d))
  rw[e]
  exact d5
 ·have ew:(r9 ((bs.map l6).map fun d=>match d with|.list l=>.list (l.map fun d=>match d with|.tuple (x::_)=>x|d=>d)|d=>d))=ZK bs:=by
   unfold ZK
   rw[aR]
   congr 1
   refine bA fun t _=>?_
   show r9 ((t.map gS).map fun d=>match d with|.tuple (x::_)=>x|d=>d)=_
   unfold dH zw
   rw[aR,aR]
   rfl
  rw[ew]at K8
  have o1:=hO.mono s1
  refine fun kd hk=>⟨bE _,fun tb ht=>?_⟩
  have Wz:upd H1 kd (WN P w kd []) tb=none:=ht
  have nkt:kd≠tb:=fun e=>by rw[<-e,aE]at Wz;cases Wz
  have ht1:H1 tb=none:=by rw[bY (iG nkt)]at Wz;exact Wz
  have hsL:cG K (upd (upd H1 kd (WN P w kd [])) tb (.lst [])) a xs:=cG.of ((aQ.new ht) _ _ ((aQ.new hk) _ _ (s1 _ _ (aq _ _ h1))))
  refine⟨_,rfl,a,rfl,⟨_,hsL⟩,kq (K:=K) (a:=a) (xs:=xs)
   (fun i σ H'=>∃v5 v6,σ=[some (.ref a),some (.ref b),some (.ref L),some (.ref kd),some (.ref tb),v5,v6,none]/\agq P w K D bs H1 H' kd tb (ts.take i))
   ⟨none,none,rfl,((aQ.new hk).trans (aQ.new ht)),hk,ht1,nkt,[],[],(aQ.new ht) _ _ aE,aV _,fun p hp=>by simp at hp,fun p hp=>by simp at hp,aE,.nil⟩
   (fun i σ H' _⟨_,_,_,c⟩=>cG.of (c.same _ _ (s1 _ _ (aq _ _ h1)))) ?_ ?_⟩
  ·rintro i y σ H' hi ⟨v5,v6,rfl,c⟩
   obtain⟨d,e1,hy⟩:=h2.get hi
   obtain⟨t,et,rfl⟩:=mT e1
   have hm:=aL et
   have IB:i<ts.length:=(az.mp et).1
   obtain⟨dh,acc,q1,q2,q3,q4,q5,q6⟩:=c.ex
   have eH1:hd H1 (ad (ad D kd) tb)=hd H1 D:=by rw[m8 ht1,m8 hk]
   have sd:aQ (hd H D) (hd H' (ad (ad D kd) tb)):=(aU s1).trans (by rw[<-eH1];exact aU c.same)
   have sd1:aQ (hd H1 D) (hd H' (ad (ad D kd) tb)):=by rw[<-eH1];exact aU c.same
   have oD:Od H' (ad (ad D kd) tb):=((o1.mono c.same).ad q1).ad q5
   obtain⟨ya,yxs,rfl,y1,y2⟩:=(sd.dp hy).bV
   refine⟨_,rfl,ya,yxs,rfl,.inl ⟨cG.of (aq _ _ y1),fun l hl=>?_⟩⟩
   have sl:aQ H' (upd H' l (.tup yxs)):=aQ.new hl
   have dk:Dx K (hd (upd H' l (.tup yxs)) (ad (ad D kd) tb)) (.ref l) (NQ (xH t)):=by rw[ZM];exact Kg hl oD y2
   have ajk:=q6.length
   rw[aa,a_]at ajk
   rw[a_]at q2
   have tail:∀(H5:Hp)(MY:KY)(r:ak),aQ H1 H5->H5 kd=some (WN P w kd MY)->MY.length<=i+1->KZ K (hd H5 (ad (ad D kd) tb)) MY->
     (∀p∈MY,∃t,Bb t/\p.1=xH t/\Dx K (hd H5 (ad (ad D kd) tb)) (.ref p.2.2) (O8 bs t))->H5 tb=some (.lst acc)->bN K (hd H5 (ad (ad D kd) tb)) acc ((ts.take i).map (O8 bs))->
     Dx K (hd H5 (ad (ad D kd) tb)) (.ref l) (NQ (xH t))->xC MY (xH t)=some r->
     VM P w K H5 (.ref kd) (.ref l) kd l MY (xH t)/\agq P w K D bs H1 (upd H5 tb (.lst (acc++[.ref r]))) kd tb (ts.take (i+1)):=by
    intro H5 MY r z1 z2 z3 z4 z5 z6 z7 z8 z9
    refine⟨⟨rfl,rfl,z2,fun p hp=>aq.dp (z4 p hp),aq.dp z8⟩,z1.write ht1,hk,ht1,nkt,MY,acc++[.ref r],by rw[bY nkt];exact z2,by rw[a_];omega,?_⟩
    rw[qk fX]
    refine⟨z4,z5,aE,?_⟩
    rw[gv et,bu]
    refine z7.snoc ?_
    obtain⟨p,hp,e1,e2⟩:=WW z9
    obtain⟨t',ht',e3,e4⟩:=z5 p hp
    have e5:t'=t:=Rw ht' (ka t hm).1 (by rw[<-e3,e1])
    rw[e5,e2]at e4
    exact e4
   refine⟨_,rfl,_,rfl,kd,l,dh,xH t,⟨rfl,rfl,sl _ _ q1,fun p hp=>aq.dp ((aU sl).dp (q3 p hp)),aq.dp dk⟩,_,rfl,Qn (fun hn=>?_) fun hn=>?_⟩
   ·have ZN:xC dh (xH t)=none:=by
     cases q:xC dh (xH t)with
     |none=>rfl
     |some r=>rw[q]at hn;cases hn
    have ag1:=(aU sl).dp (sd.dp hy)
    have ag2:=(aU sl).dp (sd.dp g2)
    have ag3:=(aU sl).dp (sd1.dp K8)
    refine⟨_,rfl,_,rfl,_,rfl,ad (ad D kd) tb,_,_,oD.mono sl,.cons ag1 (.cons ag2 (.cons ag3 .nil)),⟨t,bs,rfl,(ka t hm).1,(ka t hm).2,kb,nb,rfl⟩,fun rv H3 s3 d3=>?_⟩
    obtain⟨r,rxs,rfl,r1,r2⟩:=d3.bV
    have s23:=sl.trans s3
    have ks3:KZ K (hd H3 (ad (ad D kd) tb)) dh:=fun p hp=>(aU s23).dp (q3 p hp)
    have dk3:=(aU s3).dp dk
    refine⟨_,rfl,_,rfl,kd,l,dh,xH t,r,⟨rfl,rfl,s23 _ _ q1,fun p hp=>aq.dp (ks3 p hp),aq.dp dk3⟩,ZN,rfl,big (by omega),?_⟩
    have eh:hd (upd H3 kd (WN P w kd (dh++[(xH t,l,r)]))) (ad (ad D kd) tb)=hd H3 (ad (ad D kd) tb):=qk (zf fX)
    obtain⟨t1,t2⟩:=tail (upd H3 kd (WN P w kd (dh++[(xH t,l,r)]))) (dh++[(xH t,l,r)]) r ((c.same.trans s23).write hk) aE (by rw[au];simp;omega)
     (by
      rw[eh]
      intro p hp
      rcases aX.mp hp with hp|hp
      ·exact ks3 p hp
      ·rw[bJ.mp hp];exact dk3)
     (by
      rw[eh]
      intro p hp
      rcases aX.mp hp with hp|hp
      ·obtain⟨t',w1,w2,w3⟩:=q4 p hp
       exact⟨t',w1,w2,(aU s23).dp w3⟩
      ·rw[bJ.mp hp];exact⟨t,(ka t hm).1,rfl,d3⟩)
     (by rw[bY (iG nkt)];exact s23 _ _ q5) (by rw[eh];exact(aU s23).EG q6) (by rw[eh];exact dk3) (Lc ZN)
    exact⟨_,rfl,.inl ⟨rfl,_,cG.of (by rw[bY (iG nkt)];exact s23 _ _ q5)⟩,_,rfl,_,rfl,kd,l,_,xH t,r,t1,Lc ZN,tb,acc,_,rfl,rfl,by rw[bY (iG nkt)];exact s23 _ _ q5,big (by omega),_,_,rfl,t2⟩
   ·obtain⟨r,hr2⟩:∃r,xC dh (xH t)=some r:=by
     cases q:xC dh (xH t)with
     |none=>rw[q]at hn;cases hn
     |some r=>exact⟨r,rfl⟩
    obtain⟨t1,t2⟩:=tail (upd H' l (.tup yxs)) dh r (c.same.trans sl) (sl _ _ q1) (by omega) (fun p hp=>(aU sl).dp (q3 p hp)) (fun p hp=>let⟨t',w1,w2,w3⟩:=q4 p hp;⟨t',w1,w2,(aU sl).dp w3⟩) (sl _ _ q5) ((aU sl).EG q6) dk hr2
    exact⟨_,rfl,.inl ⟨rfl,_,cG.of (sl _ _ q5)⟩,_,rfl,_,rfl,kd,l,_,xH t,r,t1,hr2,tb,acc,_,rfl,rfl,sl _ _ q5,big (by omega),_,_,rfl,t2⟩
  ·rintro σ H' ⟨v5,v6,rfl,c⟩
   refine⟨_,rfl,k _ _ (s1.trans c.same) ?_⟩
   obtain⟨dh,acc,q1,q2,q3,q4,q5,q6⟩:=c.ex
   rw[jT,cU]at q6
   exact um q5 (o1.fresh ht1) (wu.EG (wu.EG q6))
end
def oV:List Nat->List Nat
 |[]=>[0]
 |a::r=>((oV r).headD 0+a)::oV r
def nJ(sz below size next:Nat)(E_:Nat)(keep:Option Nat):Nat:=
 let m:=if next+size<below+sz then next+size else below+sz
 match keep with
 |some k=>if E_+k<m then E_+k else m
 |none=>m
def jE(sz:Nat):List Nat->List (Option Nat)->List Nat->List Nat
 |[],_,under=>[under.headD 0+sz]
 |b::r,ks,under=>nJ sz (under.headD 0) b ((jE sz r ks.tail under.tail).headD 0) (under.tail.headD 0) (ks.headD none)::jE sz r ks.tail under.tail
def pF(Ld:List Nat):List (Nat×List (Option Nat))->List (List Nat)
 |[]=>[oV Ld]
 |p::r=>jE p.1 Ld p.2 ((pF Ld r).headD [])::pF Ld r
theorem aez(l:List Nat):oV l≠[]:=by cases l<;>simp[oV]
theorem O9:∀l:List Nat,(oV l).length=l.length+1
 |[]=>rfl
 |a::r=>by simp[oV,O9 r]
theorem O_(sz:Nat):∀(l:List Nat)(ks:List (Option Nat))(u:List Nat),(jE sz l ks u).length=l.length+1
 |[],_,_=>rfl
 |a::r,ks,u=>by simp[jE,O_ sz r]
theorem Pa(Ld:List Nat):∀l:List (Nat×List (Option Nat)),(pF Ld l).length=l.length+1
 |[]=>rfl
 |p::r=>by simp[pF,Pa Ld r]
theorem Pb(Ld:List Nat)(l:List (Nat×List (Option Nat))):((pF Ld l).headD []).length=Ld.length+1:=by
 cases l with
 |nil=>exact O9 Ld
 |cons p r=>exact O_ _ _ _ _
theorem mJ{α:Type}{l:List α}{i:Nat}{x:α}(h:l[i]?=some x):l.drop i=x::l.drop (i+1):=by
 obtain⟨h1,h2⟩:=az.mp h
 rw[Qg h1,h2]
theorem ZO{l:List Nat}(h:l≠[]):∃pre,l.reverse=pre++[l.headD 0]:=by
 cases l with
 |nil=>exact absurd rfl h
 |cons a r=>exact⟨r.reverse,by simp⟩
section
variable{P:bD}{w:cC}{K:ah}{mg:cM->Option ao}{base:cY}
def B4(ds:List bf)(d:bf):Prop:=∃l:List Nat,ds=[dH l]/\l.length<=2000/\d=dH (oV l)
theorem HQ(G:fT K mg)(Df:jL K mg "last_cost_row" qU ["new_sizes"]):bG P w K mg base "last_cost_row" ["new_sizes"] 1 (qC K B4):=by
 refine Df.ok uq (iR fun ds d⟨x,e,_⟩=>by rw[e];rfl) fun f iB A outer s H vs Q E hr h=>?_
 obtain⟨D,ds,d,hO,ha,⟨l,rfl,hn,rfl⟩,k⟩:=h
 obtain⟨v,rfl,g1⟩:=ha.one
 obtain⟨a,xs,rfl,h1,h2⟩:=g1.bV
 obtain rfl:=vL h2
 have hx:(l.map vn).length=l.length:=aa _
 refine⟨_,(aC (cR (i:=1) uq.nd rfl (by first|exact bz rfl|exact bB rfl) (c_ (aj b9 aA)))
   (aC (jO cA rfl (Rb rfl G.Ub (aj (pv 0) aA)) (cJ (i:=2) uq.nd rfl (by first|exact bz rfl|exact bB rfl)) (aJ (eZ (kQ aZ cg cu iK (pv 1) (aj (jx oA (eX (r:=jP K) dm (pv 1) (Ah ug b9) (fun _ _=>rfl)) (pv 2)) aA)))))
   (aC (eZ (YS aZ My Mz KO (pv 1)))
   (aJ (bF (pv 1)))))),?_⟩
 refine⟨by show 1<=aK;decide,fun r Ey=>?_⟩
 refine⟨_,rfl,a,_,rfl,cG.of ((aQ.new Ey) _ _ (aq _ _ h1)),abN (K:=K) (a:=a) (xs:=l.map vn)
  (fun i σ H'=>∃v2,σ=[some (.ref a),some (.ref r),v2]/\aQ H H'/\H' r=some (.lst ((oV (l.drop (l.length-i))).reverse.map vn)))
  ⟨none,rfl,aQ.new Ey,?_⟩ (fun i σ H' _⟨_,_,c,_⟩=>cG.of (c _ _ (aq _ _ h1))) ?_ ?_⟩
 ·rw[aE,J0,Cb]
  rfl
 ·rintro i y σ H' hi hy ⟨v2,rfl,c,q⟩
  rw[hx]at hi hy
  obtain⟨n,en,rfl⟩:=mT hy
  obtain⟨pre,ep⟩:=ZO (aez (l.drop (l.length-i)))
  have hl:=O9 (l.drop (l.length-i))
  have ed:l.drop (l.length-(i+1))=n::l.drop (l.length-i):=by
   have e0:l.length-(i+1)=l.length-1-i:=by omega
   rw[e0,mJ en]
   congr 2
   omega
  refine⟨_,rfl,.inl ⟨rfl,_,cG.of q⟩,_,rfl,_,rfl,r,_,_,vn ((oV (l.drop (l.length-i))).headD 0),rfl,rfl,cG.of q,?_,_,rfl,_,_,rfl,rfl,r,_,_,rfl,rfl,q,?_,?_⟩
  ·rw[ep,bu]
   exact Gg _ _
  ·rw[aa,F5,hl,b7]
   exact big (by omega)
  ·refine⟨_,rfl,c.write Ey,?_⟩
   rw[aE,ed,oV,jV,bu]
   rfl
 ·rintro σ H' ⟨v2,rfl,c,q⟩
  rw[hx,DV,jk]at q
  refine⟨_,rfl,.inl ⟨rfl,_,cG.of q⟩,r,_,rfl,rfl,q,_,rfl,k _ _ (c.write Ey) ?_⟩
  rw[<-abi,Wg]
  exact um aE (hO.fresh Ey) (je _)
def Le(ds:List bf)(d:bf):Prop:=∃(sz:Nat)(l:List Nat)(ks:List (Option Nat))(u:List Nat),ds=[dn sz,dH l,.list (ks.map Cj),dH u]/\l.length<=2000/\ks.length=l.length/\u.length=l.length+1/\d=dH (jE sz l ks u)
def vo:Option Nat->V
 |some n=>vn n
 |none=>.jX
theorem Pd{K:ah}{H:Hp}:∀{ks:List (Option Nat)}{vs:List V},bN K H vs (ks.map Cj)->vs=ks.map vo
 |[],_,.nil=>rfl
 |none::ks,_,.cons a b=>by rw[bg,<-Pd b,a.Kh];rfl
 |some n::ks,_,.cons a b=>by rw[bg,<-Pd b,a.int_inv];rfl
def Jv(sz:Nat)(l:List Nat)(ks:List (Option Nat))(u:List Nat)(p:Nat):List Nat:=(u.take p).map (·+sz)++jE sz (l.drop p) (ks.drop p) (u.drop p)
theorem ZP(sz:Nat)(l:List Nat)(ks:List (Option Nat))(u:List Nat)(hu:u.length=l.length+1):Jv sz l ks u l.length=u.map (·+sz):=by
 unfold Jv
 rw[Cb]
 obtain⟨x,ex⟩:∃x,u[l.length]?=some x:=⟨_,aB (by omega)⟩
 have e2:u.drop l.length=[x]:=by
  rw[mJ ex,Cw (by omega)]
 show(u.take l.length).map (·+sz)++[(u.drop l.length).headD 0+sz]=_
 rw[e2]
 have e3:u=u.take l.length++[x]:=by rw[<-e2,Em]
 conv=>rhs;rw[e3]
 rw[bu]
 rfl
theorem WX{l:List Nat}{i:Nat}:(l.drop i).headD 0=l.getD i 0:=by
 rw[List.headD_eq_head?_getD,List.head?_drop,aO]
theorem ab6{sz:Nat}{l:List Nat}{ks:List (Option Nat)}{u:List Nat}{p:Nat}(hp:p<l.length)(hk:ks.length=l.length)(hu:u.length=l.length+1):(Jv sz l ks u (p+1))[p]?=some (u.getD p 0+sz)/\(Jv sz l ks u (p+1))[p+1]?=some ((jE sz (l.drop (p+1)) (ks.drop (p+1)) (u.drop (p+1))).headD 0)/\∀x,x=nJ sz (u.getD p 0) (l.getD p 0) ((jE sz (l.drop (p+1)) (ks.drop (p+1)) (u.drop (p+1))).headD 0) (u.getD (p+1) 0) (ks.getD p none)->(Jv sz l ks u (p+1)).set p x=Jv sz l ks u p:=by
 obtain⟨a,ea⟩:∃a,u[p]?=some a:=⟨_,aB (by omega)⟩
 obtain⟨b,eb⟩:∃b,l[p]?=some b:=⟨_,aB hp⟩
 obtain⟨c,ec⟩:∃c,ks[p]?=some c:=⟨_,aB (by omega)⟩
 have la:((u.take p).map (·+sz)).length=p:=by rw[aa,a_];omega
 have e1:Jv sz l ks u (p+1)=(u.take p).map (·+sz)++(a+sz)::jE sz (l.drop (p+1)) (ks.drop (p+1)) (u.drop (p+1)):=by
  unfold Jv
  rw[gv ea,bu,gO]
  rfl
 have ga:u.getD p 0=a:=by rw[aO,ea];rfl
 have gb:l.getD p 0=b:=by rw[aO,eb];rfl
 have gc:ks.getD p none=c:=by rw[aO,ec];rfl
 rw[ga,gb,gc,e1]
 refine⟨?_,?_,fun x hx=>?_⟩
 ·rw[d_ (by omega),la,DV]
  rfl
 ·rw[d_ (by omega),la]
  have e2:p+1-p=1:=by omega
  rw[e2,Cc]
  have qI:=O_ sz (l.drop (p+1)) (ks.drop (p+1)) (u.drop (p+1))
  generalize jE sz (l.drop (p+1)) (ks.drop (p+1)) (u.drop (p+1))=R at qI
  cases R with
  |nil=>simp at qI
  |cons z R=>rfl
 ·rw[List.set_append_right _ _ (by omega),la,DV]
  unfold Jv
  rw[mJ eb,mJ ec,mJ ea,jE]
  show _++x::_=_
  rw[hx]
  simp only[List.tail_cons,MA]
  rw[<-WX (l:=u) (i:=p+1)]
theorem Lf{l:List Nat}{z:Int}{j:Nat}{x:Nat}(e:z=(j:Int))(h:l[j]?=some x):QV (l.map vn) z=some (vn x):=CV e (by rw[aT,h];rfl)
theorem getD_some{α:Type}{l:List α}{i:Nat}{d:α}(h:i<l.length):l[i]?=some (l.getD i d):=by
 rw[aO,aB h]
 rfl
theorem Rx(G:fT K mg)(Df:jL K mg "cost_row" A4 ["old_size","new_sizes","keeps","below"]):bG P w K mg base "cost_row" ["old_size","new_sizes","keeps","below"] 1 (qC K Le):=by
 refine Df.ok lu (iR fun ds d⟨x,y,z,u,e,_⟩=>by rw[e];rfl) fun f iB A outer s H vs Q E hr h=>?_
 obtain⟨D,ds,d,hO,ha,⟨sz,l,ks,u,rfl,hn,hk,hu,rfl⟩,k⟩:=h
 obtain⟨v1,v2,v3,v4,rfl,g1,g2,g3,g4⟩:=ha.four
 obtain rfl:=g1.int_inv
 obtain⟨b,xs,rfl,h1,h2⟩:=g2.bV
 obtain⟨c,ys,rfl,h3,h4⟩:=g3.bV
 obtain⟨e,zs,rfl,h5,h6⟩:=g4.bV
 obtain rfl:=vL h2
 obtain rfl:=Pd h4
 obtain rfl:=vL h6
 refine⟨_,(aC (Aj (i:=4) (own:=[("cost",9)]) rfl lu.nd rfl rfl (DY rfl rfl rfl rfl) (fE (pv 3)) (gR (by rfl)) (fun _ _ _ _ _=>(cJ (i:=9) lu.nd rfl (by first|exact bz rfl|exact bB rfl))) (fun _ _ _ _ _=>jA) (fun _ _ _ _ _=>(jx oA (pv 9) (pv 0))))
   (aC (jO cA rfl (NP rfl G.Kl (aj (jx Tt (cS (r:=l5 K) cB (by rfl) G.iN dN (aj (pv 1) aA)) b9) (aj (Ah ug b9) (aj (Ah ug b9) aA)))) (cJ (i:=5) lu.nd rfl (by first|exact bz rfl|exact bB rfl)) (aC (cR (i:=6) lu.nd rfl (by first|exact bz rfl|exact bB rfl) (eX (r:=jP K) dm (pv 4) (pv 5) (fun _ _=>rfl)))
   (aC (cR (i:=7) lu.nd rfl (by first|exact bz rfl|exact bB rfl) (jx oA (eX (r:=jP K) dm (pv 4) (jx oA (pv 5) b9) (fun _ _=>rfl)) (eX (r:=jP K) dm (pv 1) (pv 5) (fun _ _=>rfl))))
   (aC (eW (dB xB (pv 7) (pv 6) (dZ _)) (aJ (cR (i:=6) lu.nd rfl (by first|exact bz rfl|exact bB rfl) (pv 7))) cN)
   (aC (cR (i:=8) lu.nd rfl (by first|exact bz rfl|exact bB rfl) (eX (r:=jP K) dm (pv 2) (pv 5) (fun _ _=>rfl)))
   (aC (eW (PW.pt (To (ue (J' (pv 8))) (OD (dB xB (jx oA (eX (r:=jP K) dm (pv 3) (jx oA (pv 5) b9) (fun _ _=>rfl)) (pv 8)) (pv 6) (dZ _))))) (aJ (cR (i:=6) lu.nd rfl (by first|exact bz rfl|exact bB rfl) (jx oA (eX (r:=jP K) dm (pv 3) (jx oA (pv 5) b9) (fun _ _=>rfl)) (pv 8)))) cN)
   (aJ (Yw (pv 6) (Yv (pv 4) (pv 5) QW)))))))))
   (aJ (bF (pv 4))))),?_⟩
 refine⟨_,rfl,e,rfl,⟨_,cG.of (aq _ _ h5)⟩,fun L hL=>wF (K:=K) (D:=D) (f:=fun d=>match d with|.int z=>.int (z+sz)|d=>d) hL hO (cG.of (aq _ _ h5)) h6 (nI (by rw[aa];omega)) (fun _=>rfl)
   (fun i x d H' D' Qe hd s o hx sd kk=>?_) fun H1 s1 K8=>?_⟩
 ·obtain⟨n,en,rfl⟩:=mT hd
  obtain rfl:=hx.int_inv
  exact⟨_,rfl,_,rfl,_,_,rfl,rfl,kk _ _ (aQ.refl _) (.int _)⟩
 ·have ee:(u.map dn).map (fun d=>match d with|.int z=>.int (z+sz)|d=>d)=(u.map (·+sz)).map dn:=by
   rw[aR,aR]
   refine bA fun n _=>?_
   show jS ((n:Int)+(sz:Int))=jS ((n+sz:Nat):Int)
   rfl
  rw[ee]at K8
  obtain⟨L',us,eL,q1,q2⟩:=K8.bV
  cases eL
  have eus:=vL q2
  subst eus
  refine⟨_,rfl,b,_,rfl,.inl (cG.of (s1 _ _ (aq _ _ h1))),_,_,rfl,rfl,_,rfl,_,rfl,_,_,_,_,rfl,RgC.neg (by rw[aa];omega) (by rw[aa];omega) (by decide) (by decide),?_⟩
  have en:((((l.map vn).length:Nat):Int)-1- -1).toNat=l.length:=by rw[aa];omega
  rw[en]
  refine KU (n:=l.length) (fun i σ H'=>∃v5 v6 v7 v8,σ=[some (.int sz),some (.ref b),some (.ref c),some (.ref e),some (.ref L),v5,v6,v7,v8,none]/\aQ H H'/\H' L=some (.lst ((Jv sz l ks u (l.length-i)).map vn)))
   ⟨none,none,none,none,rfl,s1,?_⟩ ?_ ?_
  ·rw[J0,ZP sz l ks u hu]
   exact aq _ _ q1
  ·rintro i σ H' hi ⟨v5,v6,v7,v8,rfl,c',q⟩
   obtain⟨p,hp⟩:∃p,l.length-i=p+1:=⟨l.length-i-1,by omega⟩
   have hp':l.length-(i+1)=p:=by omega
   have Eo:p<l.length:=by omega
   rw[hp]at q
   rw[hp']
   obtain⟨t1,t2,t3⟩:=ab6 (sz:=sz) Eo hk hu
   have ep:(((l.map vn).length:Nat):Int)-1+((i:Nat):Int)*-1=(p:Int):=by rw[aa];omega
   have ep1:(((l.map vn).length:Nat):Int)-1+((i:Nat):Int)*-1+1=((p+1:Nat):Int):=by rw[ep];omega
   have u1:=c' _ _ (aq _ _ h1)
   have u3:=c' _ _ (aq _ _ h3)
   have u5:=c' _ _ (aq _ _ h5)
   generalize hnx:(jE sz (l.drop (p+1)) (ks.drop (p+1)) (u.drop (p+1))).headD 0=nx at t2 t3
   refine⟨_,rfl,_,rfl,L,_,_,_,rfl,rfl,cG.of q,Lf ep t1,?_⟩
   refine⟨_,rfl,_,rfl,_,_,rfl,rfl,L,_,_,_,rfl,rfl,cG.of q,Lf ep1 t2,_,rfl,_,rfl,b,_,_,_,rfl,rfl,cG.of u1,Lf ep (getD_some (d:=0) Eo),_,_,rfl,rfl,?_⟩
   refine⟨_,rfl,_,rfl,_,_,rfl,rfl,_,rfl,?_⟩
   have last:∀(z:Int)(v7 v8:Option V),z=((nJ sz (u.getD p 0) (l.getD p 0) nx (u.getD (p+1) 0) (ks.getD p none):Nat):Int)->
     ∃v,[some (V.int sz),some (.ref b),some (.ref c),some (.ref e),some (.ref L),some (.int ((((l.map vn).length:Nat):Int)-1+((i:Nat):Int)*-1)),some (.int z),v7,v8,none][6]?=some (some v)/\
     ∃o,[some (V.int sz),some (.ref b),some (.ref c),some (.ref e),some (.ref L),some (.int ((((l.map vn).length:Nat):Int)-1+((i:Nat):Int)*-1)),some (.int z),v7,v8,none][4]?=some (some o)/\
     ∃j,[some (V.int sz),some (.ref b),some (.ref c),some (.ref e),some (.ref L),some (.int ((((l.map vn).length:Nat):Int)-1+((i:Nat):Int)*-1)),some (.int z),v7,v8,none][5]?=some (some j)/\
     ac5 o j v H' fun H3=>∃v5 v6 v7' v8',[some (V.int sz),some (.ref b),some (.ref c),some (.ref e),some (.ref L),some (.int ((((l.map vn).length:Nat):Int)-1+((i:Nat):Int)*-1)),some (.int z),v7,v8,none]=[some (V.int sz),some (.ref b),some (.ref c),some (.ref e),some (.ref L),v5,v6,v7',v8',none]/\aQ H H3/\H3 L=some (.lst ((Jv sz l ks u p).map vn)):=by
    intro z v7 v8 hz
    refine⟨_,rfl,_,rfl,_,rfl,L,_,_,p,rfl,rfl,q,?_,_,_,_,_,rfl,c'.write hL,?_⟩
    ·have lc:p<(Jv sz l ks u (p+1)).length:=(az.mp t1).1
     rw[ep]
     unfold YO
     rw[aG (by omega),aG (by rw[aa];omega)]
     rfl
    ·rw[aE,<-t3 _ rfl,hz]
     have:V.int ((nJ sz (u.getD p 0) (l.getD p 0) nx (u.getD (p+1) 0) (ks.getD p none):Nat):Int)=vn (nJ sz (u.getD p 0) (l.getD p 0) nx (u.getD (p+1) 0) (ks.getD p none)):=rfl
     rw[this,<-List.map_set]
   have ek:QV (ks.map vo) ((((l.map vn).length:Nat):Int)-1+((i:Nat):Int)*-1)=some (vo (ks.getD p none)):=CV ep (by rw[aT,getD_some (d:=none) (by omega)];rfl)
   have eu:(u.map vn)[p+1]?=some (vn (u.getD (p+1) 0)):=by rw[aT,getD_some (d:=0) (by omega)];rfl
   have hw0:∀(b:Bool),decide (((nx:Nat):Int)+((l.getD p 0:Nat):Int)<((u.getD p 0+sz:Nat):Int))=b->(decide (nx+l.getD p 0<u.getD p 0+sz))=b:=fun b hb=>by
    rw[<-hb]
    exact fH.mpr (by omega)
   cases hkp:ks.getD p none with
   |none=>
    rw[hkp]at ek last
    refine Qn (fun hw=>?_) fun hw=>?_
    ·refine⟨_,rfl,?_⟩
     refine⟨_,rfl,_,rfl,c,_,_,_,rfl,rfl,cG.of u3,ek,?_⟩
     refine⟨_,rfl,_,rfl,iL rfl (iL rfl (last _ _ _ ?_))⟩
     have:=f9 (hw0 true hw)
     unfold nJ
     simp only
     rw[aG this]
     omega
    ·refine⟨_,rfl,_,rfl,c,_,_,_,rfl,rfl,cG.of u3,ek,?_⟩
     refine⟨_,rfl,_,rfl,iL rfl (iL rfl (last _ _ _ ?_))⟩
     have:=of_decide_eq_false (hw0 false hw)
     unfold nJ
     simp only
     rw[aD this]
   |some kp=>
    rw[hkp]at ek last
    have fin:∀(m:Nat)(z:Int),z=(m:Int)->m=(if nx+l.getD p 0<u.getD p 0+sz then nx+l.getD p 0 else u.getD p 0+sz)->
      (∀b:Bool,decide (((u.getD (p+1) 0:Nat):Int)+((kp:Nat):Int)<z)=b->nJ sz (u.getD p 0) (l.getD p 0) nx (u.getD (p+1) 0) (some kp)=if b=true then u.getD (p+1) 0+kp else m):=by
     intro m z hz hm b hb
     unfold nJ
     simp only
     rw[<-hm]
     by_cases wD:u.getD (p+1) 0+kp<m
     ·rw[aG wD,aG (by rw[<-hb];exact aI (by omega))]
     ·rw[aD wD,aD (by rw[<-hb];intro q;exact wD (by have:=f9 q;omega))]
    refine Qn (fun hw=>?_) fun hw=>?_
    ·refine⟨_,rfl,?_⟩
     refine⟨_,rfl,_,rfl,c,_,_,_,rfl,rfl,cG.of u3,ek,?_⟩
     refine⟨_,rfl,_,rfl,kO rfl ?_⟩
     have F:=fin (nx+l.getD p 0) _ rfl (by rw[aG (f9 (hw0 true hw))])
     refine⟨_,rfl,_,rfl,_,_,rfl,rfl,e,_,_,_,rfl,rfl,cG.of u5,CV ep1 eu,_,rfl,_,_,rfl,rfl,_,rfl,_,_,rfl,rfl,_,rfl,Qn (fun ZQ=>?_) fun ZQ=>?_⟩
     ·refine⟨_,rfl,_,rfl,_,_,rfl,rfl,e,_,_,_,rfl,rfl,cG.of u5,CV ep1 eu,_,rfl,_,_,rfl,rfl,last _ _ _ ?_⟩
      rw[F true ZQ,aG rfl]
      rfl
     ·refine last _ _ _ ?_
      rw[F false ZQ,aD aF]
      rfl
    ·refine⟨_,rfl,_,rfl,c,_,_,_,rfl,rfl,cG.of u3,ek,?_⟩
     refine⟨_,rfl,_,rfl,kO rfl ?_⟩
     have F:=fin (u.getD p 0+sz) _ rfl (by rw[aD (of_decide_eq_false (hw0 false hw))])
     refine⟨_,rfl,_,rfl,_,_,rfl,rfl,e,_,_,_,rfl,rfl,cG.of u5,CV ep1 eu,_,rfl,_,_,rfl,rfl,_,rfl,_,_,rfl,rfl,_,rfl,Qn (fun ZQ=>?_) fun ZQ=>?_⟩
     ·refine⟨_,rfl,_,rfl,_,_,rfl,rfl,e,_,_,_,rfl,rfl,cG.of u5,CV ep1 eu,_,rfl,_,_,rfl,rfl,last _ _ _ ?_⟩
      rw[F true ZQ,aG rfl]
      rfl
     ·refine last _ _ _ ?_
      rw[F false ZQ,aD aF]
  ·rintro σ H' ⟨v5,v6,v7,v8,rfl,c',q⟩
   rw[DV]at q
   exact⟨_,rfl,k _ _ c' (um q (hO.fresh hL) (je _))⟩
end
section
variable{P:bD}{w:cC}{K:ah}{mg:cM->Option ao}{base:cY}
theorem bN.snoc_inv{K:ah}{H:Hp}{vs:List V}{ds:List bf}{d:bf}(h:bN K H vs (ds++[d])):∃us v,vs=us++[v]/\bN K H us ds/\Dx K H v d:=by
 induction ds generalizing vs with
 |nil=>
  obtain⟨v,rfl,a⟩:=h.one
  exact⟨[],v,rfl,.nil,a⟩
 |cons x ds ih=>
  obtain⟨v,r,rfl,a,b⟩:=h.cons_inv
  obtain⟨us,u,rfl,p,q⟩:=ih b
  exact⟨v::us,u,rfl,.cons a p,q⟩
def GC(ds:List bf)(d:bf):Prop:=∃(os ns:List Nat)(WY:List (List (Option Nat))),ds=[dH os,dH ns,.list (WY.map fun ks=>.list (ks.map Cj))]/\os.length<=2000/\ns.length<=2000/\WY.length=os.length/\(∀ks∈WY,ks.length=ns.length)/\
 d=.list ((pF ns (os.zip WY)).map dH)
theorem MZ(G:fT K mg)(Df:jL K mg "cost_table" wK ["old_sizes","new_sizes","keeps"])(vO:bG P w K mg base "last_cost_row" ["new_sizes"] 1 (qC K B4))(Fb:bG P w K mg base "cost_row" ["old_size","new_sizes","keeps","below"] 1 (qC K Le)):bG P w K mg base "cost_table" ["old_sizes","new_sizes","keeps"] 2 (qC K GC):=by
 refine Df.ok zj (iR fun ds d⟨x,y,z,e,_⟩=>by rw[e];rfl) fun f iB A outer s H vs Q E hr h=>?_
 obtain⟨D,ds,d,hO,ha,⟨os,ns,WY,rfl,no,nn,hk,hks,rfl⟩,k⟩:=h
 obtain⟨v1,v2,v3,rfl,g1,g2,g3⟩:=ha.three
 obtain⟨a,xs,rfl,h1,h2⟩:=g1.bV
 obtain⟨c,zs,rfl,h5,h6⟩:=g3.bV
 obtain rfl:=vL h2
 refine⟨_,(aC (cR (i:=3) zj.nd rfl (by first|exact bz rfl|exact bB rfl) (c_ (aj (bL vO (hr.mono (by decide)) (aj (pv 1) aA)) aA)))
   (aC (jO cA rfl (NP rfl G.Kl (aj (jx Tt (cS (r:=l5 K) cB (by rfl) G.iN dN (aj (pv 0) aA)) b9) (aj (Ah ug b9) (aj (Ah ug b9) aA)))) (cJ (i:=4) zj.nd rfl (by first|exact bz rfl|exact bB rfl)) (aJ (eZ (kQ aZ cg cu iK (pv 3) (aj (bL Fb (hr.mono (by decide)) (aj (eX (r:=jP K) dm (pv 0) (pv 4) (fun _ _=>rfl)) (aj (pv 1) (aj (eX (r:=jP K) dm (pv 2) (pv 4) (fun _ _=>rfl)) (aj (eX (r:=jP K) dm (pv 3) (Ah ug b9) (fun _ _=>rfl)) aA))))) aA)))))
   (aC (eZ (YS aZ My Mz KO (pv 3)))
   (aJ (bF (pv 3)))))),?_⟩
 refine⟨_,rfl,D,_,_,hO,.cons g2 .nil,⟨ns,rfl,nn,rfl⟩,fun v4 H1 s1 d1=>?_⟩
 have o1:=hO.mono s1
 refine⟨by show 1<=aK;decide,fun r Ey=>?_⟩
 have lx:(os.map vn).length=os.length:=aa _
 refine⟨_,rfl,a,_,rfl,.inl (cG.of ((aQ.new Ey) _ _ (s1 _ _ (aq _ _ h1)))),_,_,rfl,rfl,_,rfl,_,rfl,_,_,_,_,rfl,RgC.neg (by rw[lx];omega) (by rw[lx];omega) (by decide) (by decide),?_⟩
 have en:((((os.map vn).length:Nat):Int)-1- -1).toNat=os.length:=by rw[lx];omega
 rw[en]
 have e1:hd H1 (ad D r)=hd H1 D:=m8 Ey
 refine KU (n:=os.length) (fun i σ H'=>∃v4,σ=[some (.ref a),some v2,some (.ref c),some (.ref r),v4]/\aQ H1 H'/\∃acc,H' r=some (.lst acc)/\bN K (hd H' (ad D r)) acc ((pF ns ((os.zip WY).drop (os.length-i))).reverse.map dH))
  ⟨none,rfl,aQ.new Ey,[v4],aE,?_⟩ ?_ ?_
 ·rw[qk fX,e1,J0]
  have e2:(os.zip WY).drop os.length=[]:=Cw (by rw[eS];omega)
  rw[e2]
  exact .cons d1 .nil
 ·rintro i σ H' hi ⟨v5,rfl,c',acc,q1,q2⟩
  obtain⟨p,hp⟩:∃p,os.length-i=p+1:=⟨os.length-i-1,by omega⟩
  have hp':os.length-(i+1)=p:=by omega
  have Eo:p<os.length:=by omega
  rw[hp]at q2
  rw[hp']
  have ep:(((os.map vn).length:Nat):Int)-1+((i:Nat):Int)*-1=(p:Int):=by rw[lx];omega
  obtain⟨sz,esz⟩:∃x,os[p]?=some x:=⟨_,aB Eo⟩
  obtain⟨ks,eks⟩:∃x,WY[p]?=some x:=⟨_,aB (by omega)⟩
  have ez:(os.zip WY)[p]?=some (sz,ks):=iy (z:=(sz,ks)) |>.mpr ⟨esz,eks⟩
  have hlk:=hks ks (aL eks)
  have ht:=Pb ns ((os.zip WY).drop (p+1))
  have jT:=Pa ns ((os.zip WY).drop (p+1))
  rw[mJ ez]
  unfold pF
  generalize pF ns ((os.zip WY).drop (p+1))=T at q2 ht jT⊢
  cases T with
  |nil=>simp at jT
  |cons t T=>
   simp only[MA]at ht⊢
   have oD:Od H' (ad D r):=(o1.mono c').ad q1
   have sd:aQ (hd H1 D) (hd H' (ad D r)):=by rw[<-e1];exact aU c'
   have sd0:aQ (hd H D) (hd H' (ad D r)):=(aU s1).trans sd
   rw[jV,bu]at q2
   obtain⟨us,tv,rfl,w1,w2⟩:=bN.snoc_inv q2
   obtain⟨kv,ekv,hkv⟩:=h6.MN (i:=p) (d:=.list (ks.map Cj)) (by rw[aT,eks];rfl)
   have la:=q2.length
   rw[au,au,aa,F5]at la
   refine⟨_,rfl,.inl ⟨rfl,_,cG.of q1⟩,?_⟩
   refine⟨_,rfl,_,rfl,a,_,_,_,rfl,rfl,cG.of (c' _ _ (s1 _ _ (aq _ _ h1))),Lf ep esz,_,rfl,_,rfl,_,rfl,c,_,_,_,rfl,rfl,cG.of (c' _ _ (s1 _ _ (aq _ _ h5))),CV ep ekv,_,rfl,_,rfl,r,_,_,_,rfl,rfl,cG.of q1,Gg _ _,?_⟩
   refine⟨ad D r,_,_,oD,.cons (.int _) (.cons (sd0.dp g2) (.cons (sd0.dp hkv) (.cons w2 .nil))),⟨sz,ns,ks,t,rfl,nn,hlk,ht,rfl⟩,fun v6 H3 s3 d3=>?_⟩
   refine⟨r,_,_,rfl,rfl,s3 _ _ q1,?_,_,rfl,(c'.trans s3).write Ey,_,aE,?_⟩
   ·have:=jT
    simp at this la⊢
    exact big (by omega)
   ·rw[qk fX,jV,jV,bu,bu]
    refine bN.append ?_ (.cons d3 .nil)
    exact(aU s3).EG (w1.append (.cons w2 .nil))
 ·rintro σ H' ⟨v5,rfl,c',acc,q1,q2⟩
  rw[DV,jk]at q2
  refine⟨_,rfl,.inl ⟨rfl,_,cG.of q1⟩,r,_,rfl,rfl,q1,_,rfl,k _ _ ((s1.trans c').write (s1.free Ey)) ?_⟩
  refine um aE (o1.fresh Ey) ?_
  have q3:=q2.reverse
  rw[<-abi,Wg]at q3
  have q4:bN K (hd (upd H' r (.lst acc.reverse)) (ad D r)) acc.reverse ((pF ns (os.zip WY)).map dH):=by rw[qk fX];exact q3
  exact wu.EG q4
end
theorem Ry:∀(l:List bZ),∀t∈jd l,∀x∈t,x∈l
 |[],t,h,x,_=>by simp[jd]at h
 |y::r,t,h,x,hx=>by
  rw[n8]at h
  have ih:=Ry r
  generalize jd r=W at h ih
  unfold yN at h
  split at h
  ·rename_i z w ws
   split at h
   ·rcases aW.mp h with rfl|h
    ·rcases aW.mp hx with rfl|hx
     ·simp
     ·exact bO _ (ih (z::w) (by simp) x hx)
    ·exact bO _ (ih t (by simp[h]) x hx)
   ·rcases aW.mp h with rfl|h
    ·simp at hx
     simp[hx]
    ·exact bO _ (ih t h x hx)
  ·rcases aW.mp h with rfl|h
   ·simp at hx
    simp[hx]
   ·exact bO _ (ih t h x hx)
theorem Lg{g:Nat}{l:List bZ}{t:cE}(h:t∈tokens g l):(∀x∈t,x∈l)/\t.length<=l.length:=by
 unfold tokens at h
 split at h
 ·obtain⟨y,hy,rfl⟩:=bI.mp h
  refine⟨fun x hx=>by simp at hx;rw[hx];exact hy,?_⟩
  have:=List.length_pos_of_mem hy
  simp
  omega
 ·exact⟨Ry l t h,K_ l t h⟩
theorem ux(g:Nat)(l:List bZ):(tokens g l).length<=l.length:=by
 unfold tokens
 split
 ·simp
 ·rw[<-HN]
  exact K9 l
theorem Bb.sub{l m:List bZ}(h:Bb l)(s:∀x∈m,x∈l):Bb m:=fun x hx=>h x (s x hx)
theorem w_{g:Nat}{l:List bZ}(h:Bb l)(n:l.length<=2000):C6 (tokens g l):=fun t ht=>⟨h.sub (Lg ht).1,bQ (Lg ht).2 n⟩
structure iO(K:ah)(C:ak)(fields:List cM):Prop where
 cl:Tw K C
 no:∀f∈fields,AX K C f
def scF(v1 v2 v3 v4 v5 v6 v7:V):List (cM×V):=[("old_tokens",v1),("new_tokens",v2),("old_sizes",v3),("new_sizes",v4),("keeps",v5),("costs",v6),("last_ends_cost",v7)]
def sR:List cM:=["old_tokens","new_tokens","old_sizes","new_sizes","keeps","costs","last_ends_cost"]
def fB(ts:List cE):List Nat:=ts.map fun t=>t.length
def ZR(as bs:List cE):List (Nat×List (Option Nat)):=(fB as).zip (as.map fun a=>bs.map (gm a))
def sS(as bs:List cE):List (List Nat):=pF (fB bs) (ZR as bs)
structure B5(K:ah)(C:ak)(G:Hp)(a:ak)(as bs:List cE)(e:Nat):Prop where
 ex:∃dx v1 v2 v3 v4 v5 v6,G a=some (.ins C dx (scF v1 v2 v3 v4 v5 v6 (vn e)))/\Dx K G v1 (Gx as)/\Dx K G v2 (Gx bs)/\Dx K G v3 (dH (fB as))/\Dx K G v4 (dH (fB bs))/\
  Dx K G v5 (.list (as.map (O8 bs)))/\Dx K G v6 (.list ((sS as bs).map dH))
theorem B5.mono{K:ah}{C:ak}{G G':Hp}{a:ak}{as bs:List cE}{e:Nat}(s:aQ G G')(h:B5 K C G a as bs e):B5 K C G' a as bs e:=by
 obtain⟨dx,v1,v2,v3,v4,v5,v6,h0,h1,h2,h3,h4,h5,h6⟩:=h.ex
 exact⟨dx,v1,v2,v3,v4,v5,v6,s _ _ h0,s.dp h1,s.dp h2,s.dp h3,s.dp h4,s.dp h5,s.dp h6⟩
def j7(x:ak)(H H':Hp):Prop:=∀b o,H b=some o->b≠x->H' b=some o
theorem sx{x:ak}{H H':Hp}(s:aQ H H'):j7 x H H':=fun b o e _=>s b o e
theorem j7.trans{x:ak}{H H1 H2:Hp}(a:j7 x H H1)(b:j7 x H1 H2):j7 x H H2:=fun c o e n=>b c o (a c o e n) n
theorem j7.put{x:ak}{H H1:Hp}{o:HO}(a:j7 x H H1):j7 x H (upd H1 x o):=fun c u e n=>by rw[bY n];exact a c u e n
def ZS(K:ah)(C:ak):Sp:=fun vs H Q _=>∃D x dx v1 v2 lo ln g,vs=[.ref x,v1,v2,vn g]/\Od H D/\D x=false/\H x=some (.ins C dx [])/\Dx K (hd H (ad D x)) v1 (l6 lo)/\Dx K (hd H (ad D x)) v2 (l6 ln)/\
 Bb lo/\Bb ln/\1<=lo.length/\1<=ln.length/\lo.length<=2000/\ln.length<=2000/\g<=1/\
 ∀H',j7 x H H'->B5 K C (hd H' D) x (tokens g lo.dropLast) (tokens g ln.dropLast) (lP (lo.getLast?.getD (cO 10)) (ln.getLast?.getD (cO 10)))->Q .jX H'
section
variable{P:bD}{w:cC}{K:ah}{mg:cM->Option ao}{base:cY}
theorem VO{K:ah}{G:Hp}{v:V}{l:List bZ}(h:Dx K G v (l6 l))(n:1<=l.length):∃a xs u,v=.ref a/\G a=some (.lst xs)/\QV xs (-1)=some u/\Dx K G u (gS (l.getLast?.getD (cO 10))):=by
 obtain⟨a,xs,rfl,h1,h2⟩:=h.bV
 have qI:l≠[]:=fun e=>by rw[e]at n;simp at n
 obtain⟨qs,p,rfl⟩:∃qs p,l=qs++[p]:=⟨l.dropLast,l.getLast qI,(fJ qI).symm⟩
 rw[bu]at h2
 obtain⟨us,u,rfl,w1,w2⟩:=bN.snoc_inv h2
 refine⟨a,_,u,rfl,h1,Gg _ _,?_⟩
 simpa using w2
theorem Jw{H:Hp}{D:ak->Bool}{x:ak}{o:HO}:hd (upd H x o) (ad D x)=hd H (ad D x):=qk fX
theorem aeA(l:List cE):(l.map l6).map (fun d=>match d with|.list l=>dn l.length|d=>d)=(fB l).map dn:=by
 unfold fB
 rw[aR,aR]
 refine bA fun t _=>?_
 show dn (t.map gS).length=dn t.length
 rw[aa]
theorem Jx{C:ak}(G:fT K mg)(T:iO K C sR)(Df:E1 K mg C "Scripts" "Scripts.__init__" m9 ["self","old_text","new_text","grain"])(pG:bG P w K mg base "tokens_of" ["text","grain"] 3 (qC K C5))(Bg:bG P w K mg base "keep_table" ["old_tokens","new_tokens"] 5 (qC K GB))(Bh:bG P w K mg base "cost_table" ["old_sizes","new_sizes","keeps"] 2 (qC K GC))(qa:bG P w K mg base "difference" ["old_letter","new_letter"] 2 (qC K Bd)):t8 P w K mg base C "Scripts" ["self","old_text","new_text","grain"] 6 (ZS K C):=by
 refine Df.ok jU (fun vs H Q E⟨_,_,_,_,_,_,_,_,e,_⟩=>by rw[e];rfl) fun f iB A outer s H vs Q E hr h=>?_
 obtain⟨D,x,dx,v1,v2,lo,ln,g,rfl,hO,hDx,hx,a1,a2,ko,kn,lo1,ln1,lo2,ln2,hg,k⟩:=h
 have oD:Od H (ad D x):=hO.ad hx
 have dl1:lo.dropLast.length<=2000:=by rw[fL];omega
 have dl2:ln.dropLast.length<=2000:=by rw[fL];omega
 have kT1:C6 (tokens g lo.dropLast):=w_ (ko.sub fun z hz=>lW _ hz) dl1
 have kT2:C6 (tokens g ln.dropLast):=w_ (kn.sub fun z hz=>lW _ hz) dl2
 have nT1:(tokens g lo.dropLast).length<=2000:=bQ (ux _ _) dl1
 have nT2:(tokens g ln.dropLast).length<=2000:=bQ (ux _ _) dl2
 generalize eA:tokens g lo.dropLast=as at kT1 nT1 k
 generalize eB:tokens g ln.dropLast=bs at kT2 nT2 k
 refine⟨_,(aC (iV (pv 0) (bL pG (hr.mono (by decide)) (aj (pv 1) (aj (pv 3) aA))) rfl)
   (aC (iV (pv 0) (bL pG (hr.mono (by decide)) (aj (pv 2) (aj (pv 3) aA))) rfl)
   (aC (iV (pv 0) (vm (own:=[("token",4)]) rfl jU.nd (fE (bC (K:=K) rfl (pv 0) rfl)) (gR (by rfl)) (fun _ _ _ _ _=>(cJ (i:=4) jU.nd rfl (by first|exact bz rfl|exact bB rfl))) (fun _ _ _ _ _=>jA) (fun _ _ _ _ _=>(cS (r:=l5 K) cB (by rfl) G.iN dN (aj (pv 4) aA)))) rfl)
   (aC (iV (pv 0) (vm (own:=[("token",4)]) rfl jU.nd (fE (bC (K:=K) rfl (pv 0) rfl)) (gR (by rfl)) (fun _ _ _ _ _=>(cJ (i:=4) jU.nd rfl (by first|exact bz rfl|exact bB rfl))) (fun _ _ _ _ _=>jA) (fun _ _ _ _ _=>(cS (r:=l5 K) cB (by rfl) G.iN dN (aj (pv 4) aA)))) rfl)
   (aC (iV (pv 0) (bL Bg (hr.mono (by decide)) (aj (bC (K:=K) rfl (pv 0) rfl) (aj (bC (K:=K) rfl (pv 0) rfl) aA))) rfl)
   (aC (iV (pv 0) (bL Bh (hr.mono (by decide)) (aj (bC (K:=K) rfl (pv 0) rfl) (aj (bC (K:=K) rfl (pv 0) rfl) (aj (bC (K:=K) rfl (pv 0) rfl) aA)))) rfl)
   (aJ (iV (pv 0) (bL qa (hr.mono (by decide)) (aj (eX (r:=jP K) dm (pv 1) (Ah ug b9) (fun _ _=>rfl)) (aj (eX (r:=jP K) dm (pv 2) (Ah ug b9) (fun _ _=>rfl)) aA))) rfl)))))))),?_⟩
 refine⟨_,rfl,_,rfl,ad D x,_,_,oD,.cons a1 (.cons (.int _) .nil),⟨lo,g,rfl,hg,lo2,rfl⟩,fun w1 H1 s1 d1=>?_⟩
 rw[eA]at d1
 refine⟨_,rfl,x,C,dx,_,rfl,s1 _ _ hx,T.cl,T.no _ (by decide),by simp,?_⟩
 have X1:j7 x H (upd H1 x (.ins C dx (gM "old_tokens" w1 []))):=(sx s1).put
 have o1:=(oD.mono s1).upd (p:=x) (o:=.ins C dx (gM "old_tokens" w1 []))
 have i1:upd H1 x (.ins C dx (gM "old_tokens" w1 [])) x=some (.ins C dx [("old_tokens",w1)]):=aE
 have e1:hd (upd H1 x (.ins C dx (gM "old_tokens" w1 []))) (ad D x)=hd H1 (ad D x):=Jw
 have t1:aQ (hd H (ad D x)) (hd (upd H1 x (.ins C dx (gM "old_tokens" w1 []))) (ad D x)):=by rw[e1];exact aU s1
 rw[<-e1]at d1
 generalize upd H1 x (.ins C dx (gM "old_tokens" w1 []))=J1 at *
 clear e1 s1
 refine⟨_,rfl,_,rfl,ad D x,_,_,o1,.cons (t1.dp a2) (.cons (.int _) .nil),⟨ln,g,rfl,hg,ln2,rfl⟩,fun w2 H2 s2 d2=>?_⟩
 rw[eB]at d2
 refine⟨_,rfl,x,C,dx,_,rfl,s2 _ _ i1,T.cl,T.no _ (by decide),by simp,?_⟩
 have X2:j7 x H (upd H2 x (.ins C dx (gM "new_tokens" w2 [("old_tokens",w1)]))):=(X1.trans (sx s2)).put
 have o2:=(o1.mono s2).upd (p:=x) (o:=.ins C dx (gM "new_tokens" w2 [("old_tokens",w1)]))
 have i2:upd H2 x (.ins C dx (gM "new_tokens" w2 [("old_tokens",w1)])) x=some (.ins C dx [("old_tokens",w1),("new_tokens",w2)]):=aE
 have e2:hd (upd H2 x (.ins C dx (gM "new_tokens" w2 [("old_tokens",w1)]))) (ad D x)=hd H2 (ad D x):=Jw
 have t2:aQ (hd J1 (ad D x)) (hd (upd H2 x (.ins C dx (gM "new_tokens" w2 [("old_tokens",w1)]))) (ad D x)):=by rw[e2];exact aU s2
 rw[<-e2]at d2
 generalize upd H2 x (.ins C dx (gM "new_tokens" w2 [("old_tokens",w1)]))=J2 at *
 clear e2 s2
 have d1':=t2.dp d1
 obtain⟨b1,ys1,rfl,z1,z2⟩:=d1'.bV
 refine⟨_,rfl,x,C,dx,_,_,rfl,i2,T.cl,T.no _ (by decide),rfl,b1,rfl,⟨_,cG.of (aq _ _ z1)⟩,fun L3 hL3=>wF (K:=K) (D:=ad D x) (f:=fun d=>match d with|.list l=>dn l.length|d=>d) hL3 o2 (cG.of (aq _ _ z1)) z2 (nI (by rw[aa];omega)) (fun _=>rfl)
   (fun i y d H' D' Qe hd s o hy sd kk=>?_) fun H3 s3 d3=>?_⟩
 ·obtain⟨t,et,rfl⟩:=mT hd
  obtain⟨tb,us,rfl,r1,r2⟩:=hy.bV
  refine⟨_,rfl,tb,us,rfl,.inl (cG.of (aq _ _ r1)),kk _ _ (aQ.refl _) ?_⟩
  rw[r2.length]
  exact .int _
 rw[aeA]at d3
 refine⟨_,rfl,x,C,dx,_,rfl,s3 _ _ i2,T.cl,T.no _ (by decide),by simp,?_⟩
 have X3:j7 x H (upd H3 x (.ins C dx (gM "old_sizes" (.ref L3) [("old_tokens",.ref b1),("new_tokens",w2)]))):=(X2.trans (sx s3)).put
 have o3:=(o2.mono s3).upd (p:=x) (o:=.ins C dx (gM "old_sizes" (.ref L3) [("old_tokens",.ref b1),("new_tokens",w2)]))
 have i3:upd H3 x (.ins C dx (gM "old_sizes" (.ref L3) [("old_tokens",.ref b1),("new_tokens",w2)])) x=some (.ins C dx [("old_tokens",.ref b1),("new_tokens",w2),("old_sizes",.ref L3)]):=aE
 have e3:hd (upd H3 x (.ins C dx (gM "old_sizes" (.ref L3) [("old_tokens",.ref b1),("new_tokens",w2)]))) (ad D x)=hd H3 (ad D x):=Jw
 have t3:aQ (hd J2 (ad D x)) (hd (upd H3 x (.ins C dx (gM "old_sizes" (.ref L3) [("old_tokens",.ref b1),("new_tokens",w2)]))) (ad D x)):=by rw[e3];exact aU s3
 rw[<-e3]at d3
 generalize upd H3 x (.ins C dx (gM "old_sizes" (.ref L3) [("old_tokens",.ref b1),("new_tokens",w2)]))=J3 at *
 clear e3 s3
 have agv:=t3.dp d1'
 have d2':=t3.dp d2
 obtain⟨b2,ys2,rfl,z3,z4⟩:=d2'.bV
 refine⟨_,rfl,x,C,dx,_,_,rfl,i3,T.cl,T.no _ (by decide),rfl,b2,rfl,⟨_,cG.of (aq _ _ z3)⟩,fun L4 hL4=>wF (K:=K) (D:=ad D x) (f:=fun d=>match d with|.list l=>dn l.length|d=>d) hL4 o3 (cG.of (aq _ _ z3)) z4 (nI (by rw[aa];omega)) (fun _=>rfl)
   (fun i y d H' D' Qe hd s o hy sd kk=>?_) fun H4 s4 d4=>?_⟩
 ·obtain⟨t,et,rfl⟩:=mT hd
  obtain⟨tb,us,rfl,r1,r2⟩:=hy.bV
  refine⟨_,rfl,tb,us,rfl,.inl (cG.of (aq _ _ r1)),kk _ _ (aQ.refl _) ?_⟩
  rw[r2.length]
  exact .int _
 rw[aeA]at d4
 refine⟨_,rfl,x,C,dx,_,rfl,s4 _ _ i3,T.cl,T.no _ (by decide),by simp,?_⟩
 have X4:j7 x H (upd H4 x (.ins C dx (gM "new_sizes" (.ref L4) [("old_tokens",.ref b1),("new_tokens",.ref b2),("old_sizes",.ref L3)]))):=(X3.trans (sx s4)).put
 have o4:=(o3.mono s4).upd (p:=x) (o:=.ins C dx (gM "new_sizes" (.ref L4) [("old_tokens",.ref b1),("new_tokens",.ref b2),("old_sizes",.ref L3)]))
 have i4:upd H4 x (.ins C dx (gM "new_sizes" (.ref L4) [("old_tokens",.ref b1),("new_tokens",.ref b2),("old_sizes",.ref L3)])) x=some (.ins C dx [("old_tokens",.ref b1),("new_tokens",.ref b2),("old_sizes",.ref L3),("new_sizes",.ref L4)]):=aE
 have e4:hd (upd H4 x (.ins C dx (gM "new_sizes" (.ref L4) [("old_tokens",.ref b1),("new_tokens",.ref b2),("old_sizes",.ref L3)]))) (ad D x)=hd H4 (ad D x):=Jw
 have t4:aQ (hd J3 (ad D x)) (hd (upd H4 x (.ins C dx (gM "new_sizes" (.ref L4) [("old_tokens",.ref b1),("new_tokens",.ref b2),("old_sizes",.ref L3)]))) (ad D x)):=by rw[e4];exact aU s4
 rw[<-e4]at d4
 generalize upd H4 x (.ins C dx (gM "new_sizes" (.ref L4) [("old_tokens",.ref b1),("new_tokens",.ref b2),("old_sizes",.ref L3)]))=J4 at *
 clear e4 s4
 refine⟨_,rfl,x,C,dx,_,_,rfl,i4,T.cl,T.no _ (by decide),rfl,_,rfl,x,C,dx,_,_,rfl,i4,T.cl,T.no _ (by decide),rfl,ad D x,_,_,o4,.cons (t4.dp agv) (.cons (t4.dp d2') .nil),⟨as,bs,rfl,kT1,kT2,nT1,nT2,rfl⟩,fun w5 H5 s5 d5=>?_⟩
 refine⟨_,rfl,x,C,dx,_,rfl,s5 _ _ i4,T.cl,T.no _ (by decide),by simp,?_⟩
 have X5:j7 x H (upd H5 x (.ins C dx (gM "keeps" w5 [("old_tokens",.ref b1),("new_tokens",.ref b2),("old_sizes",.ref L3),("new_sizes",.ref L4)]))):=(X4.trans (sx s5)).put
 have o5:=(o4.mono s5).upd (p:=x) (o:=.ins C dx (gM "keeps" w5 [("old_tokens",.ref b1),("new_tokens",.ref b2),("old_sizes",.ref L3),("new_sizes",.ref L4)]))
 have i5:upd H5 x (.ins C dx (gM "keeps" w5 [("old_tokens",.ref b1),("new_tokens",.ref b2),("old_sizes",.ref L3),("new_sizes",.ref L4)])) x=some (.ins C dx [("old_tokens",.ref b1),("new_tokens",.ref b2),("old_sizes",.ref L3),("new_sizes",.ref L4),("keeps",w5)]):=aE
 have e5:hd (upd H5 x (.ins C dx (gM "keeps" w5 [("old_tokens",.ref b1),("new_tokens",.ref b2),("old_sizes",.ref L3),("new_sizes",.ref L4)]))) (ad D x)=hd H5 (ad D x):=Jw
 have t5:aQ (hd J4 (ad D x)) (hd (upd H5 x (.ins C dx (gM "keeps" w5 [("old_tokens",.ref b1),("new_tokens",.ref b2),("old_sizes",.ref L3),("new_sizes",.ref L4)]))) (ad D x)):=by rw[e5];exact aU s5
 rw[<-e5]at d5
 generalize upd H5 x (.ins C dx (gM "keeps" w5 [("old_tokens",.ref b1),("new_tokens",.ref b2),("old_sizes",.ref L3),("new_sizes",.ref L4)]))=J5 at *
 clear e5 s5
 have dks:Dx K (hd J5 (ad D x)) w5 (.list ((as.map fun a=>bs.map (gm a)).map fun ks=>.list (ks.map Cj))):=by
  rw[aR]
  have:((fun ks:List (Option Nat)=>r9 (ks.map Cj))∘fun a=>bs.map (gm a))=O8 bs:=by
   funext a
   show r9 ((bs.map (gm a)).map Cj)=_
   rw[aR]
   rfl
  rw[this]
  exact d5
 refine⟨_,rfl,x,C,dx,_,_,rfl,i5,T.cl,T.no _ (by decide),rfl,_,rfl,x,C,dx,_,_,rfl,i5,T.cl,T.no _ (by decide),rfl,_,rfl,x,C,dx,_,_,rfl,i5,T.cl,T.no _ (by decide),rfl,ad D x,_,_,o5,.cons (t5.dp (t4.dp d3)) (.cons (t5.dp d4) (.cons dks .nil)),
  ⟨fB as,fB bs,as.map fun a=>bs.map (gm a),rfl,by unfold fB;rw[aa];exact nT1,by unfold fB;rw[aa];exact nT2,by unfold fB;rw[aa,aa],(fun ks hks=>by
   obtain⟨a,_,rfl⟩:=bI.mp hks
   unfold fB
   rw[aa,aa]),rfl⟩,fun w6 H6 s6 d6=>?_⟩
 refine⟨_,rfl,x,C,dx,_,rfl,s6 _ _ i5,T.cl,T.no _ (by decide),by simp,?_⟩
 have X6:j7 x H (upd H6 x (.ins C dx (gM "costs" w6 [("old_tokens",.ref b1),("new_tokens",.ref b2),("old_sizes",.ref L3),("new_sizes",.ref L4),("keeps",w5)]))):=(X5.trans (sx s6)).put
 have o6:=(o5.mono s6).upd (p:=x) (o:=.ins C dx (gM "costs" w6 [("old_tokens",.ref b1),("new_tokens",.ref b2),("old_sizes",.ref L3),("new_sizes",.ref L4),("keeps",w5)]))
 have i6:upd H6 x (.ins C dx (gM "costs" w6 [("old_tokens",.ref b1),("new_tokens",.ref b2),("old_sizes",.ref L3),("new_sizes",.ref L4),("keeps",w5)])) x=some (.ins C dx [("old_tokens",.ref b1),("new_tokens",.ref b2),("old_sizes",.ref L3),("new_sizes",.ref L4),("keeps",w5),("costs",w6)]):=aE
 have e6:hd (upd H6 x (.ins C dx (gM "costs" w6 [("old_tokens",.ref b1),("new_tokens",.ref b2),("old_sizes",.ref L3),("new_sizes",.ref L4),("keeps",w5)]))) (ad D x)=hd H6 (ad D x):=Jw
 have t6:aQ (hd J5 (ad D x)) (hd (upd H6 x (.ins C dx (gM "costs" w6 [("old_tokens",.ref b1),("new_tokens",.ref b2),("old_sizes",.ref L3),("new_sizes",.ref L4),("keeps",w5)]))) (ad D x)):=by rw[e6];exact aU s6
 rw[<-e6]at d6
 generalize upd H6 x (.ins C dx (gM "costs" w6 [("old_tokens",.ref b1),("new_tokens",.ref b2),("old_sizes",.ref L3),("new_sizes",.ref L4),("keeps",w5)]))=J6 at *
 clear e6 s6
 have tt:aQ (hd H (ad D x)) (hd J6 (ad D x)):=((((t1.trans t2).trans t3).trans t4).trans t5).trans t6
 obtain⟨p1,xs1,u1,rfl,m1,m2,m3⟩:=VO (tt.dp a1) lo1
 obtain⟨p2,xs2,u2,rfl,n1,n2,n3⟩:=VO (tt.dp a2) ln1
 have ajs:MU (lo.getLast?.getD (cO 10)):=ko _ (by
  have qI:lo≠[]:=fun e=>by rw[e]at lo1;simp at lo1
  rw[QD qI]
  exact Kv qI)
 have ajt:MU (ln.getLast?.getD (cO 10)):=kn _ (by
  have qI:ln≠[]:=fun e=>by rw[e]at ln1;simp at ln1
  rw[QD qI]
  exact Kv qI)
 refine⟨_,rfl,_,rfl,p1,_,_,_,rfl,rfl,cG.of (aq _ _ m1),m2,_,rfl,_,rfl,p2,_,_,_,rfl,rfl,cG.of (aq _ _ n1),n2,ad D x,_,_,o6,.cons m3 (.cons n3 .nil),⟨_,_,rfl,ajs,ajt,rfl⟩,fun w7 H7 s7 d7=>?_⟩
 obtain rfl:=d7.int_inv
 refine⟨_,rfl,x,C,dx,_,rfl,s7 _ _ i6,T.cl,T.no _ (by decide),by simp,?_⟩
 refine k _ (X6.trans (sx s7)).put ?_
 have up:aQ (hd H7 (ad D x)) (hd (upd H7 x (.ins C dx (gM "last_ends_cost" (.int ((lP (lo.getLast?.getD (cO 10)) (ln.getLast?.getD (cO 10)):Nat):Int)) [("old_tokens",.ref b1),("new_tokens",.ref b2),("old_sizes",.ref L3),("new_sizes",.ref L4),("keeps",w5),("costs",w6)]))) D):=by
  rw[<-Jw (H:=H7) (x:=x) (o:=(.ins C dx (gM "last_ends_cost" (.int ((lP (lo.getLast?.getD (cO 10)) (ln.getLast?.getD (cO 10)):Nat):Int)) [("old_tokens",.ref b1),("new_tokens",.ref b2),("old_sizes",.ref L3),("new_sizes",.ref L4),("keeps",w5),("costs",w6)])))]
  exact wu
 have t7:=(aU (D:=ad D x) s7).trans up
 have t67:=t6.trans t7
 exact⟨dx,_,_,_,_,_,_,iY aE hDx,t67.dp (t5.dp (t4.dp agv)),t67.dp (t5.dp (t4.dp d2')),t67.dp (t5.dp (t4.dp d3)),t67.dp (t5.dp d4),t67.dp d5,t7.dp d6⟩
end
theorem IJ:∀bs:List cE,(qF bs).length=bs.length+1
 |[]=>rfl
 |b::r=>by
  show(BX b ((qF r).headD fM)::qF r).length=_
  rw[br,IJ r,br]
theorem IK(a:cE):∀(bs:List cE)(u:List Way),(uc a bs u).length=bs.length+1
 |[],_=>rfl
 |b::r,u=>by
  show(iF a b _ _ _::uc a r (u.drop 1)).length=_
  rw[br,IK a r,br]
theorem Rz(bs:List cE):∀as:List cE,(Nt bs as).length=bs.length+1
 |[]=>IJ bs
 |a::r=>IK a bs _
theorem xJ(u:List Way):(u.map (·.cost)).headD 0=(u.headD fM).cost:=by cases u<;>rfl
theorem Bj(a b:cE)(k d p:Way):(wj a b=true/\iz a b+k.cost<=a.length+d.cost/\iz a b+k.cost<=b.length+p.cost/\iF a b k d p=S4 a b k)\/((wj a b=true->a.length+d.cost<iz a b+k.cost)/\a.length+d.cost<=b.length+p.cost/\iF a b k d p=AE a d)\/((wj a b=true->b.length+p.cost<iz a b+k.cost)/\b.length+p.cost<a.length+d.cost/\iF a b k d p=BX b p):=by
 have c1:(AE a d).cost=a.length+d.cost:=rfl
 have c2:(BX b p).cost=b.length+p.cost:=rfl
 have c3:(S4 a b k).cost=iz a b+k.cost:=rfl
 unfold iF
 dsimp only
 by_cases h1:(AE a d).cost<=(BX b p).cost
 ·rw[aG h1]
  by_cases ho:wj a b=true
  ·rw[aG ho]
   by_cases h2:(S4 a b k).cost<=(AE a d).cost
   ·rw[aG h2]
    exact .inl ⟨ho,by omega,by omega,rfl⟩
   ·rw[aD h2]
    exact .inr (.inl ⟨fun _=>by omega,by omega,rfl⟩)
  ·rw[aD ho]
   exact .inr (.inl ⟨fun h=>absurd h ho,by omega,rfl⟩)
 ·rw[aD h1]
  by_cases ho:wj a b=true
  ·rw[aG ho]
   by_cases h2:(S4 a b k).cost<=(BX b p).cost
   ·rw[aG h2]
    exact .inl ⟨ho,by omega,by omega,rfl⟩
   ·rw[aD h2]
    exact .inr (.inr ⟨fun _=>by omega,by omega,rfl⟩)
  ·rw[aD ho]
   exact .inr (.inr ⟨fun h=>absurd h ho,by omega,rfl⟩)
theorem Uj(sz below size next E_ k:Nat):nJ sz below size next E_ (some k)=min (E_+k) (min (next+size) (below+sz)):=by
 unfold nJ
 dsimp only
 have e:(if next+size<below+sz then next+size else below+sz)=min (next+size) (below+sz):=by split<;>omega
 rw[e]
 split<;>omega
theorem Uk(sz below size next E_:Nat):nJ sz below size next E_ none=min (next+size) (below+sz):=by
 unfold nJ
 dsimp only
 split<;>omega
theorem RA(a b:cE)(k d p:Way):(iF a b k d p).cost=nJ a.length d.cost b.length p.cost k.cost (gm a b):=by
 have c1:(AE a d).cost=a.length+d.cost:=rfl
 have c2:(BX b p).cost=b.length+p.cost:=rfl
 have c3:(S4 a b k).cost=iz a b+k.cost:=rfl
 by_cases ho:wj a b=true
 ·have e:gm a b=some (iz a b):=by unfold gm;rw[aG ho]
  rw[e,Uj]
  rcases Bj a b k d p with⟨_,h1,h2,e2⟩|⟨h0,h1,e2⟩|⟨h0,h1,e2⟩
  ·rw[e2];omega
  ·have:=h0 ho;rw[e2];omega
  ·have:=h0 ho;rw[e2];omega
 ·have e:gm a b=none:=by unfold gm;rw[aD ho]
  rw[e,Uk]
  rcases Bj a b k d p with⟨h,h1,h2,e2⟩|⟨h0,h1,e2⟩|⟨h0,h1,e2⟩
  ·exact absurd h ho
  ·rw[e2];omega
  ·rw[e2];omega
theorem Lh:∀bs:List cE,(qF bs).map (·.cost)=oV (fB bs)
 |[]=>rfl
 |b::r=>by
  show(b.length+((qF r).headD fM).cost)::(qF r).map (·.cost)=((oV (fB r)).headD 0+b.length)::oV (fB r)
  rw[<-Lh r,xJ,yx]
theorem NX(a:cE):∀(bs:List cE)(u:List Way),u.length=bs.length+1->(uc a bs u).map (·.cost)=jE a.length (fB bs) (bs.map (gm a)) (u.map (·.cost))
 |[],u,_=>by
  show [a.length+(u.headD fM).cost]=[(u.map (·.cost)).headD 0+a.length]
  rw[xJ,yx]
 |b::r,u,hu=>by
  have ih:=NX a r (u.drop 1) (by rw[b7,hu,br];omega)
  show(iF a b ((u.drop 1).headD fM) (u.headD fM) ((uc a r (u.drop 1)).headD fM)).cost::(uc a r (u.drop 1)).map (·.cost)=_
  have et:(u.map (·.cost)).tail=(u.drop 1).map (·.cost):=by rw[<-List.map_tail,List.drop_one]
  show _=nJ a.length ((u.map (·.cost)).headD 0) b.length ((jE a.length (fB r) (r.map (gm a)) (u.map (·.cost)).tail).headD 0) ((u.map (·.cost)).tail.headD 0) (gm a b)::jE a.length (fB r) (r.map (gm a)) (u.map (·.cost)).tail
  rw[et,<-ih,xJ,xJ,xJ,RA]
theorem Li(a:cE)(r bs:List cE):sS (a::r) bs=jE a.length (fB bs) (bs.map (gm a)) ((sS r bs).headD [])::sS r bs:=rfl
theorem Lj(bs:List cE):∀as:List cE,(sS as bs).headD []=(Nt bs as).map (·.cost)
 |[]=>(Lh bs).symm
 |a::r=>by
  rw[Li,MA,Lj bs r]
  exact(NX a bs (Nt bs r) (Rz bs r)).symm
theorem Fc(bs:List cE):∀(as:List cE)(i:Nat),i<=as.length->(sS as bs)[i]?=some ((Nt bs (as.drop i)).map (·.cost))
 |as,0,_=>by
  have h:=Lj bs as
  have hl:(sS as bs).length=(ZR as bs).length+1:=Pa _ _
  generalize sS as bs=C at h hl
  cases C with
  |nil=>simp at hl
  |cons c C=>rw[jk,<-h];rfl
 |[],i+1,h=>by simp at h
 |a::r,i+1,h=>by
  rw[Li,Cc]
  exact Fc bs r i (by simpa using h)
def W(as bs:List cE)(i j:Nat):Way:=(Nt bs (as.drop i)).getD j fM
def IL(as bs:List cE)(i j:Nat):Nat:=((sS as bs).getD i []).getD j 0
theorem Fd{as bs:List cE}{i j:Nat}(hi:i<=as.length):IL as bs i j=(W as bs i j).cost:=by
 unfold IL W
 rw[aO (l:=sS as bs),Fc bs as i hi,Option.getD_some,aO,aO,aT]
 cases(Nt bs (as.drop i))[j]?<;>rfl
theorem Lk:∀(bs:List cE)(j:Nat)(b:cE),bs[j]?=some b->(qF bs).getD j fM=BX b ((qF bs).getD (j+1) fM)
 |[],j,b,h=>by simp at h
 |c::r,0,b,h=>by
  have e:c=b:=by simpa using h
  subst e
  show BX c ((qF r).headD fM)=BX c ((qF r).getD 0 fM)
  cases qF r<;>rfl
 |c::r,j+1,b,h=>by
  have ih:=Lk r j b (by simpa using h)
  show(qF r).getD j fM=BX b ((qF r).getD (j+1) fM)
  exact ih
theorem IM:∀bs:List cE,(qF bs).getD bs.length fM=fM
 |[]=>rfl
 |c::r=>by
  show(qF r).getD r.length fM=fM
  exact IM r
theorem xK(u:List Way):u.headD fM=u.getD 0 fM:=by cases u<;>rfl
theorem Bk(u:List Way)(j:Nat):(u.drop 1).getD j fM=u.getD (j+1) fM:=by
 rw[aO,aO,List.getElem?_drop,yx]
theorem IP(a:cE):∀(bs:List cE)(u:List Way),(uc a bs u).getD bs.length fM=AE a (u.getD bs.length fM)
 |[],u=>by
  show AE a (u.headD fM)=_
  rw[xK]
  rfl
 |c::r,u=>by
  show(uc a r (u.drop 1)).getD r.length fM=_
  rw[IP a r,Bk]
  rfl
theorem Ll(a:cE):∀(bs:List cE)(u:List Way)(j:Nat)(b:cE),bs[j]?=some b->(uc a bs u).getD j fM=iF a b (u.getD (j+1) fM) (u.getD j fM) ((uc a bs u).getD (j+1) fM)
 |[],u,j,b,h=>by simp at h
 |c::r,u,0,b,h=>by
  have e:c=b:=by simpa using h
  subst e
  show iF a c ((u.drop 1).headD fM) (u.headD fM) ((uc a r (u.drop 1)).headD fM)=iF a c (u.getD 1 fM) (u.getD 0 fM) ((uc a r (u.drop 1)).getD 0 fM)
  rw[xK,xK,xK,Bk]
 |c::r,u,j+1,b,h=>by
  have ih:=Ll a r (u.drop 1) j b (by simpa using h)
  show(uc a r (u.drop 1)).getD j fM=iF a b _ _ ((uc a r (u.drop 1)).getD (j+1) fM)
  rw[ih,Bk,Bk]
def RB(as bs:List cE)(i j:Nat):Bool:=if i=as.length\/j=bs.length then false else match gm (as.getD i []) (bs.getD j [])with
 |none=>false
 |some k=>decide (IL as bs i j=IL as bs (i+1) (j+1)+k)
def mdB(as bs:List cE)(i j:Nat):Bool:=decide (i<as.length)&&decide (IL as bs i j=IL as bs (i+1) j+(as.getD i []).length)
def ZT(as bs:List cE)(i j:Nat):Nat:=if RB as bs i j=true then 0 else if mdB as bs i j=true then 1 else 2
theorem adf{as bs:List cE}{i:Nat}{a:cE}(h:as[i]?=some a):Nt bs (as.drop i)=uc a bs (Nt bs (as.drop (i+1))):=by
 rw[mJ h]
 rfl
theorem rm{α:Type}{l:List α}{i:Nat}{x d:α}(h:l[i]?=some x):l.getD i d=x:=by rw[aO,h];rfl
theorem Pe{as bs:List cE}{i j:Nat}(hi:i<=as.length)(hj:j<=bs.length)(hn:i<as.length\/j<bs.length):(ZT as bs i j=0/\i<as.length/\j<bs.length/\wj (as.getD i []) (bs.getD j [])=true/\(W as bs i j).steps=.keep (as.getD i []) (bs.getD j [])::(W as bs (i+1) (j+1)).steps)\/(ZT as bs i j=1/\i<as.length/\(W as bs i j).steps=.drop (as.getD i [])::(W as bs (i+1) j).steps)\/(ZT as bs i j=2/\j<bs.length/\(W as bs i j).steps=.put (bs.getD j [])::(W as bs i (j+1)).steps):=by
 by_cases hia:i<as.length
 ·obtain⟨a,ea⟩:∃a,as[i]?=some a:=⟨_,aB hia⟩
  have ga:as.getD i []=a:=rm ea
  by_cases hjb:j<bs.length
  ·obtain⟨b,eb⟩:∃b,bs[j]?=some b:=⟨_,aB hjb⟩
   have gb:bs.getD j []=b:=rm eb
   have ew:W as bs i j=iF a b (W as bs (i+1) (j+1)) (W as bs (i+1) j) (W as bs i (j+1)):=by
    show(Nt bs (as.drop i)).getD j fM=iF a b ((Nt bs (as.drop (i+1))).getD (j+1) fM) ((Nt bs (as.drop (i+1))).getD j fM) ((Nt bs (as.drop i)).getD (j+1) fM)
    rw[adf ea]
    exact Ll a bs _ j b eb
   have c0:=Fd (bs:=bs) (j:=j) hi
   have c1:=Fd (bs:=bs) (j:=j+1) (show i+1<=as.length from hia)
   have c2:=Fd (bs:=bs) (j:=j) (show i+1<=as.length from hia)
   have k1:(S4 a b (W as bs (i+1) (j+1))).cost=iz a b+(W as bs (i+1) (j+1)).cost:=rfl
   have k2:(AE a (W as bs (i+1) j)).cost=a.length+(W as bs (i+1) j).cost:=rfl
   have k3:(BX b (W as bs i (j+1))).cost=b.length+(W as bs i (j+1)).cost:=rfl
   have mk:RB as bs i j=(match gm a b with|none=>false|some k=>decide (IL as bs i j=IL as bs (i+1) (j+1)+k)):=by
    unfold RB
    rw[aD (by omega),ga,gb]
   have md:mdB as bs i j=decide (IL as bs i j=IL as bs (i+1) j+a.length):=by
    unfold mdB
    rw[aI hia,g8,ga]
   rw[ga,gb]
   rcases Bj a b (W as bs (i+1) (j+1)) (W as bs (i+1) j) (W as bs i (j+1))with⟨ho,h1,h2,e2⟩|⟨h0,h1,e2⟩|⟨h0,h1,e2⟩
   ·have kk:gm a b=some (iz a b):=by unfold gm;rw[aG ho]
    rw[e2]at ew
    refine .inl ⟨?_,hia,hjb,ho,by rw[ew];rfl⟩
    unfold ZT
    rw[mk,kk]
    dsimp only
    rw[aG (aI (by rw[c0,c1,ew,k1,yx]))]
   ·rw[e2]at ew
    have nk:RB as bs i j=false:=by
     rw[mk]
     unfold gm
     by_cases ho:wj a b=true
     ·rw[aG ho]
      have:=h0 ho
      exact aH (by rw[c0,c1,ew,k2];omega)
     ·rw[aD ho]
    refine .inr (.inl ⟨?_,hia,by rw[ew];rfl⟩)
    unfold ZT
    rw[nk,aD aF,md,aG (aI (by rw[c0,c2,ew,k2,yx]))]
   ·rw[e2]at ew
    have nk:RB as bs i j=false:=by
     rw[mk]
     unfold gm
     by_cases ho:wj a b=true
     ·rw[aG ho]
      have:=h0 ho
      exact aH (by rw[c0,c1,ew,k3];omega)
     ·rw[aD ho]
    refine .inr (.inr ⟨?_,hjb,by rw[ew];rfl⟩)
    unfold ZT
    rw[nk,aD aF,md,aD (by rw[aH (by rw[c0,c2,ew,k3];omega)];exact aF)]
  ·have ejb:j=bs.length:=by omega
   subst ejb
   have ew:W as bs i bs.length=AE a (W as bs (i+1) bs.length):=by
    show(Nt bs (as.drop i)).getD bs.length fM=AE a ((Nt bs (as.drop (i+1))).getD bs.length fM)
    rw[adf ea]
    exact IP a bs _
   have c0:=Fd (bs:=bs) (j:=bs.length) hi
   have c2:=Fd (bs:=bs) (j:=bs.length) (show i+1<=as.length from hia)
   have k2:(AE a (W as bs (i+1) bs.length)).cost=a.length+(W as bs (i+1) bs.length).cost:=rfl
   rw[ga]
   refine .inr (.inl ⟨?_,hia,by rw[ew];rfl⟩)
   unfold ZT
   have nk:RB as bs i bs.length=false:=by unfold RB;rw[aG (.inr rfl)]
   have md:mdB as bs i bs.length=true:=by
    unfold mdB
    rw[aI hia,g8,ga]
    exact aI (by rw[c0,c2,ew,k2,yx])
   rw[nk,md]
   rfl
 ·have eia:i=as.length:=by omega
  subst eia
  have hjb:j<bs.length:=by omega
  obtain⟨b,eb⟩:∃b,bs[j]?=some b:=⟨_,aB hjb⟩
  have gb:bs.getD j []=b:=rm eb
  have ew:W as bs as.length j=BX b (W as bs as.length (j+1)):=by
   show(Nt bs (as.drop as.length)).getD j fM=BX b ((Nt bs (as.drop as.length)).getD (j+1) fM)
   rw[Cb]
   exact Lk bs j b eb
  rw[gb]
  refine .inr (.inr ⟨?_,hjb,by rw[ew];rfl⟩)
  have nk:RB as bs as.length j=false:=by unfold RB;rw[aG (.inl rfl)]
  have md:mdB as bs as.length j=false:=by unfold mdB;rw[aH (gI _)];rfl
  unfold ZT
  rw[nk,md]
  rfl
theorem ZU(as bs:List cE):(W as bs as.length bs.length).steps=[]:=by
 unfold W
 rw[Cb]
 show((qF bs).getD bs.length fM).steps=[]
 rw[IM]
 rfl
theorem RC(g:Nat)(o n:Doc):script g o n=W (tokens g o.inner) (tokens g n.inner) 0 0:=by
 unfold script W
 rw[jk,xK]
section
variable{P:bD}{w:cC}{K:ah}{mg:cM->Option ao}{base:cY}
theorem ZV{as bs:List cE}{i:Nat}(hi:i<=as.length):∃c,(sS as bs)[i]?=some c/\∀j,j<=bs.length->c[j]?=some (IL as bs i j):=by
 refine⟨_,Fc bs as i hi,fun j hj=>?_⟩
 have hl:=Rz bs (as.drop i)
 rw[Fd hi]
 unfold W
 rw[aT,aO,aB (by omega)]
 rfl
theorem ab9{G:Hp}{v:V}{C:List (List Nat)}(h:Dx K G v (.list (C.map dH))):∃b xs,v=.ref b/\G b=some (.lst xs)/\∀(i:Nat)(c:List Nat),C[i]?=some c->∃r,xs[i]?=some (.ref r)/\G r=some (.lst (c.map vn)):=by
 obtain⟨b,xs,rfl,h1,h2⟩:=h.bV
 refine⟨b,xs,rfl,h1,fun i c hc=>?_⟩
 obtain⟨u,e1,e2⟩:=h2.MN (i:=i) (d:=dH c) (by rw[aT,hc];rfl)
 obtain⟨r,ys,rfl,h3,h4⟩:=e2.bV
 rw[vL h4]at h3
 exact⟨r,e1,h3⟩
theorem ZW{G:Hp}{v:V}{as bs:List cE}(h:Dx K G v (.list (as.map (O8 bs)))):∃b xs,v=.ref b/\G b=some (.lst xs)/\∀(i:Nat)(a:cE),as[i]?=some a->∃r,xs[i]?=some (.ref r)/\G r=some (.lst ((bs.map (gm a)).map vo)):=by
 obtain⟨b,xs,rfl,h1,h2⟩:=h.bV
 refine⟨b,xs,rfl,h1,fun i c hc=>?_⟩
 obtain⟨u,e1,e2⟩:=h2.MN (i:=i) (d:=O8 bs c) (by rw[aT,hc];rfl)
 obtain⟨r,ys,rfl,h3,h4⟩:=e2.bV
 have h5:bN K G ys ((bs.map (gm c)).map Cj):=by rw[aR];exact h4
 rw[Pd h5]at h3
 exact⟨r,e1,h3⟩
theorem i7{G:Hp}{v:V}{l:List Nat}(h:Dx K G v (dH l)):∃b,v=.ref b/\G b=some (.lst (l.map vn)):=by
 obtain⟨b,xs,rfl,h1,h2⟩:=h.bV
 rw[vL h2]at h1
 exact⟨b,rfl,h1⟩
structure aju(K:ah)(C:ak)(H:Hp)(a:ak)(as bs:List cE)(e:Nat)(dx:ak)(v1 v2:V)(b3 b4 b5 b6:ak)(x5 x6:List V):Prop where
 at_:H a=some (.ins C dx (scF v1 v2 (.ref b3) (.ref b4) (.ref b5) (.ref b6) (vn e)))
 s3:H b3=some (.lst ((fB as).map vn))
 s4:H b4=some (.lst ((fB bs).map vn))
 s5:H b5=some (.lst x5)
 s6:H b6=some (.lst x6)
 k5:∀(i:Nat)(t:cE),as[i]?=some t->∃r,x5[i]?=some (.ref r)/\H r=some (.lst ((bs.map (gm t)).map vo))
 k6:∀(i:Nat),i<=as.length->∃(r:ak)(c:List Nat),x6[i]?=some (.ref r)/\H r=some (.lst (c.map vn))/\∀j,j<=bs.length->c[j]?=some (IL as bs i j)
theorem B5.opened{C:ak}{H:Hp}{D:ak->Bool}{a:ak}{as bs:List cE}{e:Nat}(h:B5 K C (hd H D) a as bs e):∃dx v1 v2 b3 b4 b5 b6 x5 x6,aju K C H a as bs e dx v1 v2 b3 b4 b5 b6 x5 x6:=by
 obtain⟨dx,v1,v2,v3,v4,v5,v6,h0,h1,h2,h3,h4,h5,h6⟩:=h.ex
 obtain⟨b3,rfl,z3⟩:=i7 h3
 obtain⟨b4,rfl,z4⟩:=i7 h4
 obtain⟨b5,x5,rfl,z5,y5⟩:=ZW h5
 obtain⟨b6,x6,rfl,z6,y6⟩:=ab9 h6
 refine⟨dx,v1,v2,b3,b4,b5,b6,x5,x6,aq _ _ h0,aq _ _ z3,aq _ _ z4,aq _ _ z5,aq _ _ z6,fun i t ht=>?_,fun i hi=>?_⟩
 ·obtain⟨r,p,q⟩:=y5 i t ht
  exact⟨r,p,aq _ _ q⟩
 ·obtain⟨c,p,q⟩:=ZV (as:=as) (bs:=bs) hi
  obtain⟨r,p2,q2⟩:=y6 i c p
  exact⟨r,c,p2,aq _ _ q2,q⟩
def HR(K:ah)(C:ak)(f:List cE->List cE->Nat->Nat->V):Sp:=fun vs H Q _=>∃D a as bs e i j,vs=[.ref a,vn i,vn j]/\B5 K C (hd H D) a as bs e/\i<=as.length/\j<=bs.length/\Q (f as bs i j) H
def Pf(K:ah)(C:ak):Sp:=fun vs H Q _=>∃D a as bs e,vs=[.ref a]/\B5 K C (hd H D) a as bs e/\Q (vn (IL as bs 0 0+e)) H
theorem NY{l:List Nat}{i:Nat}{x:Nat}(h:l[i]?=some x):QV (l.map vn) (i:Int)=some (vn x):=Lf rfl h
theorem rG{xs:List V}{i:Nat}{v:V}(h:xs[i]?=some v):QV xs (i:Int)=some v:=CV rfl h
theorem Ul{xs:List V}{i:Nat}{v:V}(h:xs[i+1]?=some v):QV xs ((i:Int)+1)=some v:=CV (j:=i+1) (by omega) h
theorem ajv{l:List Nat}{i:Nat}{x:Nat}(h:l[i]?=some x):(l.map vn)[i]?=some (vn x):=by rw[aT,h];rfl
theorem M0{C:ak}(G:fT K mg)(T:iO K C sR)(Df:iZ K C "least_cost" "Scripts.least_cost" lA ["self"]):dG P w K mg base C "least_cost" ["self"] 1 (Pf K C):=by
 refine Df.ok Cg (fun vs H Q E⟨_,_,_,_,_,e,_⟩=>by rw[e];rfl) fun f iB A outer s H vs Q E hr h=>?_
 obtain⟨D,a,as,bs,e,rfl,hS,k⟩:=h
 obtain⟨dx,v1,v2,b3,b4,b5,b6,x5,x6,S⟩:=hS.opened
 obtain⟨r,c,p1,p2,p3⟩:=S.k6 0 (bE _)
 refine⟨_,(aJ (bF (jx oA (eX (r:=jP K) dm (eX (r:=jP K) dm (bC (K:=K) rfl (pv 0) rfl) b9 (fun _ _=>rfl)) b9 (fun _ _=>rfl)) (bC (K:=K) rfl (pv 0) rfl)))),?_⟩
 exact⟨_,rfl,a,C,dx,_,_,rfl,S.at_,T.cl,T.no _ (by decide),rfl,b6,_,_,_,rfl,rfl,cG.of S.s6,rG p1,r,_,_,_,rfl,rfl,cG.of p2,NY (p3 0 (bE _)),_,rfl,a,C,dx,_,_,rfl,S.at_,T.cl,T.no _ (by decide),rfl,_,_,rfl,rfl,k⟩
theorem RD{C:ak}(G:fT K mg)(T:iO K C sR)(Df:iZ K C "may_keep" "Scripts.may_keep" m_ ["self","i","j"]):dG P w K mg base C "may_keep" ["self","i","j"] 1 (HR K C fun as bs i j=>.bl (RB as bs i j)):=by
 refine Df.ok wz (fun vs H Q E⟨_,_,_,_,_,_,_,e,_⟩=>by rw[e];rfl) fun f iB A outer s H vs Q E hr h=>?_
 obtain⟨D,a,as,bs,e,i,j,rfl,hS,hi,hj,k⟩:=h
 dsimp only at k
 obtain⟨dx,v1,v2,b3,b4,b5,b6,x5,x6,S⟩:=hS.opened
 have l3:((fB as).map vn).length=as.length:=by unfold fB;simp
 have l4:((fB bs).map vn).length=bs.length:=by unfold fB;simp
 refine⟨_,(aC (eW (PW.pt (KH (dB jM (pv 1) (cS (r:=l5 K) cB (by rfl) G.iN dN (aj (bC (K:=K) rfl (pv 0) rfl) aA)) (dZ _)) (Hs (dB jM (pv 2) (cS (r:=l5 K) cB (by rfl) G.iN dN (aj (bC (K:=K) rfl (pv 0) rfl) aA)) (dZ _))))) (aJ (bF QK)) cN)
   (aC (cR (i:=3) wz.nd rfl (by first|exact bz rfl|exact bB rfl) (eX (r:=jP K) dm (eX (r:=jP K) dm (bC (K:=K) rfl (pv 0) rfl) (pv 1) (fun _ _=>rfl)) (pv 2) (fun _ _=>rfl)))
   (aJ (bF (Yp (Tn (J' (pv 3))) (OE (AW jM (eX (r:=jP K) dm (eX (r:=jP K) dm (bC (K:=K) rfl (pv 0) rfl) (pv 1) (fun _ _=>rfl)) (pv 2) (fun _ _=>rfl)) (jx oA (eX (r:=jP K) dm (eX (r:=jP K) dm (bC (K:=K) rfl (pv 0) rfl) (jx oA (pv 1) b9) (fun _ _=>rfl)) (jx oA (pv 2) b9) (fun _ _=>rfl)) (pv 3)) (dZ _)))))))),?_⟩
 refine⟨_,rfl,_,rfl,a,C,dx,_,_,rfl,S.at_,T.cl,T.no _ (by decide),rfl,b3,_,rfl,.inl (cG.of S.s3),rfl,_,rfl,?_⟩
 rw[l3]
 have eqi:∀(x y:Nat),decide (vn x=V.int ((y:Nat):Int))=decide (x=y):=fun x y=>fH.mpr ⟨fun h=>pD h,fun h=>by rw[h];rfl⟩
 rw[eqi]
 by_cases h1:i=as.length
 ·refine kO (aI h1) (kO rfl ?_)
  have:RB as bs i j=false:=by unfold RB;rw[aG (.inl h1)]
  rw[this]at k
  exact k
 ·refine iL (aH h1) ?_
  refine⟨_,rfl,_,rfl,a,C,dx,_,_,rfl,S.at_,T.cl,T.no _ (by decide),rfl,b4,_,rfl,.inl (cG.of S.s4),rfl,_,rfl,?_⟩
  rw[l4,eqi]
  by_cases h2:j=bs.length
  ·refine kO (aI h2) ?_
   have:RB as bs i j=false:=by unfold RB;rw[aG (.inr h2)]
   rw[this]at k
   exact k
  ·refine iL (aH h2) ?_
   have IB:i<as.length:=by omega
   have hj2:j<bs.length:=by omega
   obtain⟨ta,ea⟩:∃t,as[i]?=some t:=⟨_,aB IB⟩
   obtain⟨tb,eb⟩:∃t,bs[j]?=some t:=⟨_,aB hj2⟩
   obtain⟨r,p1,p2⟩:=S.k5 i ta ea
   have mk:RB as bs i j=(match gm ta tb with|none=>false|some k=>decide (IL as bs i j=IL as bs (i+1) (j+1)+k)):=by
    unfold RB
    rw[aD (by omega),rm ea,rm eb]
    all_goals (cases gm ta tb<;>rfl)
   rw[mk]at k
   have ek:((bs.map (gm ta)).map vo)[j]?=some (vo (gm ta tb)):=by rw[aT,aT,eb];rfl
   refine⟨_,rfl,a,C,dx,_,_,rfl,S.at_,T.cl,T.no _ (by decide),rfl,_,rfl,b5,_,_,_,rfl,rfl,cG.of S.s5,rG p1,_,rfl,r,_,_,_,rfl,rfl,cG.of p2,rG ek,?_⟩
   refine⟨_,rfl,_,rfl,?_⟩
   cases hk:gm ta tb with
   |none=>
    rw[hk]at k
    exact iL rfl k
   |some n=>
    rw[hk]at k
    refine kO rfl ?_
    obtain⟨r1,c1,q1,q2,q3⟩:=S.k6 i hi
    obtain⟨r2,c2,t1,t2,t3⟩:=S.k6 (i+1) IB
    refine⟨_,rfl,a,C,dx,_,_,rfl,S.at_,T.cl,T.no _ (by decide),rfl,_,rfl,b6,_,_,_,rfl,rfl,cG.of S.s6,rG q1,_,rfl,r1,_,_,_,rfl,rfl,cG.of q2,NY (q3 j hj),?_⟩
    refine⟨_,rfl,a,C,dx,_,_,rfl,S.at_,T.cl,T.no _ (by decide),rfl,_,rfl,_,_,rfl,rfl,b6,_,_,_,rfl,rfl,cG.of S.s6,Ul t1,_,rfl,_,_,rfl,rfl,r2,_,_,_,rfl,rfl,cG.of t2,Ul (ajv (t3 (j+1) hj2)),_,rfl,_,_,rfl,rfl,rfl,?_⟩
    have e9:decide (vn (IL as bs i j)=V.int (((IL as bs (i+1) (j+1):Nat):Int)+((n:Nat):Int)))=decide (IL as bs i j=IL as bs (i+1) (j+1)+n):=eqi _ (IL as bs (i+1) (j+1)+n)
    rw[e9]
    exact k
theorem RE{C:ak}(G:fT K mg)(T:iO K C sR)(Df:iZ K C "may_drop" "Scripts.may_drop" ng ["self","i","j"]):dG P w K mg base C "may_drop" ["self","i","j"] 1 (HR K C fun as bs i j=>.bl (mdB as bs i j)):=by
 refine Df.ok Er (fun vs H Q E⟨_,_,_,_,_,_,_,e,_⟩=>by rw[e];rfl) fun f iB A outer s H vs Q E hr h=>?_
 obtain⟨D,a,as,bs,e,i,j,rfl,hS,hi,hj,k⟩:=h
 dsimp only at k
 obtain⟨dx,v1,v2,b3,b4,b5,b6,x5,x6,S⟩:=hS.opened
 have l3:((fB as).map vn).length=as.length:=by unfold fB;simp
 refine⟨_,(aJ (bF (Yp (AW xB (pv 1) (cS (r:=l5 K) cB (by rfl) G.iN dN (aj (bC (K:=K) rfl (pv 0) rfl) aA)) (dZ _)) (OE (AW jM (eX (r:=jP K) dm (eX (r:=jP K) dm (bC (K:=K) rfl (pv 0) rfl) (pv 1) (fun _ _=>rfl)) (pv 2) (fun _ _=>rfl)) (jx oA (eX (r:=jP K) dm (eX (r:=jP K) dm (bC (K:=K) rfl (pv 0) rfl) (jx oA (pv 1) b9) (fun _ _=>rfl)) (pv 2) (fun _ _=>rfl)) (eX (r:=jP K) dm (bC (K:=K) rfl (pv 0) rfl) (pv 1) (fun _ _=>rfl))) (dZ _)))))),?_⟩
 refine⟨_,rfl,_,rfl,a,C,dx,_,_,rfl,S.at_,T.cl,T.no _ (by decide),rfl,b3,_,rfl,.inl (cG.of S.s3),_,_,rfl,rfl,_,rfl,?_⟩
 rw[l3]
 unfold mdB at k
 by_cases h1:i<as.length
 ·refine kO (aI (by omega)) ?_
  rw[aI h1,g8]at k
  obtain⟨ta,ea⟩:∃t,as[i]?=some t:=⟨_,aB h1⟩
  obtain⟨r1,c1,q1,q2,q3⟩:=S.k6 i hi
  obtain⟨r2,c2,t1,t2,t3⟩:=S.k6 (i+1) h1
  rw[rm ea]at k
  have es:(fB as)[i]?=some ta.length:=by unfold fB;rw[aT,ea];rfl
  refine⟨_,rfl,a,C,dx,_,_,rfl,S.at_,T.cl,T.no _ (by decide),rfl,_,rfl,b6,_,_,_,rfl,rfl,cG.of S.s6,rG q1,_,rfl,r1,_,_,_,rfl,rfl,cG.of q2,NY (q3 j hj),?_⟩
  refine⟨_,rfl,a,C,dx,_,_,rfl,S.at_,T.cl,T.no _ (by decide),rfl,_,rfl,_,_,rfl,rfl,b6,_,_,_,rfl,rfl,cG.of S.s6,Ul t1,_,rfl,r2,_,_,_,rfl,rfl,cG.of t2,NY (t3 j hj),?_⟩
  refine⟨_,rfl,a,C,dx,_,_,rfl,S.at_,T.cl,T.no _ (by decide),rfl,_,rfl,b3,_,_,_,rfl,rfl,cG.of S.s3,NY es,_,_,rfl,rfl,rfl,?_⟩
  have e9:decide (vn (IL as bs i j)=V.int (((IL as bs (i+1) j:Nat):Int)+((ta.length:Nat):Int)))=decide (IL as bs i j=IL as bs (i+1) j+ta.length):=fH.mpr ⟨fun h=>pD (b:=IL as bs (i+1) j+ta.length) h,fun h=>by rw[h];rfl⟩
  rw[e9]
  exact k
 ·refine iL (aH (by omega)) ?_
  rw[aH h1,qt]at k
  exact k
theorem Pg{C:ak}(G:fT K mg)(T:iO K C sR)(Df:iZ K C "step_from" "Scripts.step_from" l9 ["self","i","j"])(Fe:dG P w K mg base C "may_keep" ["self","i","j"] 1 (HR K C fun as bs i j=>.bl (RB as bs i j)))(Ff:dG P w K mg base C "may_drop" ["self","i","j"] 1 (HR K C fun as bs i j=>.bl (mdB as bs i j))):dG P w K mg base C "step_from" ["self","i","j"] 2 (HR K C fun as bs i j=>vn (ZT as bs i j)):=by
 refine Df.ok CY (fun vs H Q E⟨_,_,_,_,_,_,_,e,_⟩=>by rw[e];rfl) fun f iB A outer s H vs Q E hr h=>?_
 obtain⟨D,a,as,bs,e,i,j,rfl,hS,hi,hj,k⟩:=h
 dsimp only at k
 obtain⟨dx,v1,v2,b3,b4,b5,b6,x5,x6,S⟩:=hS.opened
 refine⟨_,(aC (eW (rC (eE Fe (pv 0) (hr.mono (by decide)) (aj (pv 1) (aj (pv 2) aA))) (fun _=>rfl)) (aJ (bF (bW G.ab1))) cN)
   (aC (eW (rC (eE Ff (pv 0) (hr.mono (by decide)) (aj (pv 1) (aj (pv 2) aA))) (fun _=>rfl)) (aJ (bF (bW G.Rm))) cN)
   (aJ (bF (bW G.PUT))))),?_⟩
 refine⟨_,rfl,a,dx,_,rfl,S.at_,rfl,_,rfl,_,rfl,D,a,as,bs,e,i,j,rfl,hS,hi,hj,_,rfl,?_⟩
 unfold ZT at k
 refine Qn (fun h1=>?_) fun h1=>?_
 ·rw[h1]at k
  exact k
 ·rw[h1]at k
  refine⟨_,rfl,a,dx,_,rfl,S.at_,rfl,_,rfl,_,rfl,D,a,as,bs,e,i,j,rfl,hS,hi,hj,_,rfl,?_⟩
  refine Qn (fun h2=>?_) fun h2=>?_
  ·rw[h2]at k
   exact k
  ·rw[h2]at k
   exact k
abbrev Mv:=Nat×Nat×Nat
def ZX(m:Mv):bf:=.tuple [dn m.1,dn m.2.1,dn m.2.2]
def lM(as bs:List cE)(m:Mv):pU:=if m.1=0 then .keep (as.getD m.2.1 []) (bs.getD m.2.2 [])else if m.1=1 then .drop (as.getD m.2.1 [])else .put (bs.getD m.2.2 [])
def WZ(as bs:List cE)(m:Mv):Prop:=(m.1=0/\m.2.1<as.length/\m.2.2<bs.length/\wj (as.getD m.2.1 []) (bs.getD m.2.2 [])=true)\/(m.1=1/\m.2.1<as.length)\/(m.1=2/\m.2.2<bs.length)
def aeE(as bs:List cE)(st:List Mv):Prop:=st.map (lM as bs)=(W as bs 0 0).steps/\(∀m∈st,WZ as bs m)/\st.length<=as.length+bs.length
def VP(K:ah)(C:ak):Sp:=fun vs H Q _=>∃D a as bs e,vs=[.ref a]/\Od H D/\B5 K C (hd H D) a as bs e/\as.length<=2000/\bs.length<=2000/\∀st v H',aeE as bs st->aQ H H'->Dx K (hd H' D) v (.list (st.map ZX))->Q v H'
def adg(K:ah)(D:ak->Bool)(as bs:List cE)(a L:ak)(H:Hp)(m:Nat)(σ:St)(H':Hp):Prop:=∃(i j:Nat)(v4:Option V)(st:List Mv)(acc:List V),
 σ=[some (.ref a),some (.ref L),some (vn i),some (vn j),v4]/\m=as.length+bs.length-(i+j)/\i<=as.length/\j<=bs.length/\st.length<=i+j/\aQ H H'/\H' L=some (.lst acc)/\bN K (hd H' (ad D L)) acc (st.map ZX)/\
   st.map (lM as bs)++(W as bs i j).steps=(W as bs 0 0).steps/\∀m∈st,WZ as bs m
theorem D7{D:ak->Bool}{as bs:List cE}{a L:ak}{H H':Hp}{i j:Nat}{st:List Mv}{acc:List V}{T0:ak}{sv i' j':Nat}{v4':Option V}(hL:H L=none)(hO:Od H D)(lQ:st.length<=i+j)(c:aQ H H')(q1:H' L=some (.lst acc))(q2:bN K (hd H' (ad D L)) acc (st.map ZX))(q3:st.map (lM as bs)++(W as bs i j).steps=(W as bs 0 0).steps)(q4:∀m∈st,WZ as bs m)(W0:H' T0=none)(dz:WZ as bs (sv,i,j))(hi':i'<=as.length)(hj':j'<=bs.length)(wD:i+j<i'+j')(aeF:(W as bs i j).steps=lM as bs (sv,i,j)::(W as bs i' j').steps):∃m',m'<as.length+bs.length-(i+j)/\adg K D as bs a L H m' [some (V.ref a),some (.ref L),some (vn i'),some (vn j'),v4'] (upd (upd H' T0 (.tup [vn sv,vn i,vn j])) L (.lst (acc++[.ref T0]))):=by
 have od':Od H' (ad D L):=(hO.mono c).ad q1
 refine⟨as.length+bs.length-(i'+j'),by omega,i',j',v4',st++[(sv,i,j)],acc++[.ref T0],rfl,rfl,hi',hj',?_,(c.trans (aQ.new W0)).write hL,aE,?_,?_,?_⟩
 ·rw[au]
  simp
  omega
 ·rw[qk fX,bu]
  exact((aU (aQ.new W0)).EG q2).snoc (Kg W0 od' (.cons (.int _) (.cons (.int _) (.cons (.int _) .nil))))
 ·rw[bu,gO]
  show st.map (lM as bs)++(lM as bs (sv,i,j)::(W as bs i' j').steps)=_
  rw[<-aeF]
  exact q3
 ·intro m hm
  rcases aX.mp hm with hm|hm
  ·exact q4 m hm
  ·rw[bJ.mp hm]
   exact dz
theorem stv{n k:Nat}(e:n=k)(m:Nat)(h:k≠m):(!decide (vn n=V.int (m:Int)))=true:=by
 rw[aH (fun q=>h (by rw[<-e];exact pD q))]
 rfl
theorem stf{n k:Nat}(e:n=k):(!decide (vn n=V.int (k:Int)))=false:=by
 rw[aI (by rw[e];rfl)]
 rfl
theorem Jy{C:ak}(G:fT K mg)(T:iO K C sR)(Df:iZ K C "chosen_steps" "Scripts.chosen_steps" jZ ["self"])(C8:dG P w K mg base C "step_from" ["self","i","j"] 2 (HR K C fun as bs i j=>vn (ZT as bs i j))):dG P w K mg base C "chosen_steps" ["self"] 3 (VP K C):=by
 refine Df.ok fU (fun vs H Q E⟨_,_,_,_,_,e,_⟩=>by rw[e];rfl) fun f iB A outer s H vs Q E hr h=>?_
 obtain⟨D,a,as,bs,e,rfl,hO,hS,na,nb,k⟩:=h
 have l3:((fB as).map vn).length=as.length:=by unfold fB;simp
 have l4:((fB bs).map vn).length=bs.length:=by unfold fB;simp
 refine⟨_,(aC (cR (i:=1) fU.nd rfl (by first|exact bz rfl|exact bB rfl) (c_ aA))
   (aC (cR (i:=2) fU.nd rfl (by first|exact bz rfl|exact bB rfl) b9)
   (aC (cR (i:=3) fU.nd rfl (by first|exact bz rfl|exact bB rfl) b9)
   (aC (QN cA (PW.pt (KH (dB xB (pv 2) (cS (r:=l5 K) cB (by rfl) G.iN dN (aj (bC (K:=K) rfl (pv 0) rfl) aA)) (dZ _)) (Hs (dB xB (pv 3) (cS (r:=l5 K) cB (by rfl) G.iN dN (aj (bC (K:=K) rfl (pv 0) rfl) aA)) (dZ _))))) (aC (cR (i:=4) fU.nd rfl (by first|exact bz rfl|exact bB rfl) (eE C8 (pv 0) (hr.mono (by decide)) (aj (pv 2) (aj (pv 3) aA))))
   (aC (eZ (kQ aZ cg cu iK (pv 1) (aj (CM (aj (pv 4) (aj (pv 2) (aj (pv 3) aA)))) aA)))
   (aC (eW (dB Vv (pv 4) (bW G.PUT) (dZ _)) (aJ (Yx (i:=2) fU.nd rfl (by first|exact bz rfl|exact bB rfl) b9 Yy)) cN)
   (aJ (eW (dB Vv (pv 4) (bW G.Rm) (dZ _)) (aJ (Yx (i:=3) fU.nd rfl (by first|exact bz rfl|exact bB rfl) b9 Yy)) cN))))))
   (aJ (bF (pv 1))))))),?_⟩
 refine⟨bE _,fun L hL=>?_⟩
 have eL:hd H (ad D L)=hd H D:=m8 hL
 refine⟨adg K D as bs a L H,⟨as.length+bs.length-(0+0),0,0,none,[],[],rfl,rfl,bE _,bE _,aV _,aQ.new hL,aE,.nil,rfl,fun m hm=>by simp at hm⟩,?_⟩
 rintro m σ H' ⟨i,j,v4,st,acc,rfl,rfl,hi,hj,lQ,c,q1,q2,q3,q4⟩
 have hS':B5 K C (hd H' D) a as bs e:=hS.mono (aU c)
 obtain⟨dx,v1,v2,b3,b4,b5,b6,x5,x6,S⟩:=hS'.opened
 have la:=q2.length
 rw[aa]at la
 refine⟨_,rfl,_,rfl,a,C,dx,_,_,rfl,S.at_,T.cl,T.no _ (by decide),rfl,b3,_,rfl,.inl (cG.of S.s3),_,_,rfl,rfl,_,rfl,?_⟩
 rw[l3]
 by_cases h1:i<as.length
 ·refine kO (aI (by omega)) (kO rfl ⟨_,fun _ _ h=>h,?_⟩)
  refine⟨_,rfl,a,dx,_,rfl,S.at_,rfl,_,rfl,_,rfl,D,a,as,bs,e,i,j,rfl,hS',hi,hj,?_⟩
  refine⟨_,rfl,.inl ⟨rfl,_,cG.of q1⟩,_,rfl,_,rfl,_,rfl,by show 3<=aK;decide,fun T0 W0=>?_⟩
  refine⟨L,_,_,rfl,rfl,(aQ.new W0) _ _ q1,big (by omega),?_⟩
  have ZY:=Pe hi hj (.inl h1)
  rcases ZY with⟨e0,z1,z2,z3,z4⟩|⟨e0,z1,z2⟩|⟨e0,z1,z2⟩
  ·refine⟨_,rfl,rfl,_,rfl,kO (stv e0 2 (by decide)) ⟨_,rfl,_,_,rfl,rfl,_,rfl,rfl,_,rfl,kO (stv e0 1 (by decide)) ⟨_,rfl,_,_,rfl,rfl,?_⟩⟩⟩
   exact D7 (i':=i+1) (j':=j+1) hL hO lQ c q1 q2 q3 q4 W0 (.inl ⟨e0,z1,z2,z3⟩) z1 z2 (by omega) (by rw[z4];unfold lM;rw[aG e0])
  ·refine⟨_,rfl,rfl,_,rfl,kO (stv e0 2 (by decide)) ⟨_,rfl,_,_,rfl,rfl,_,rfl,rfl,_,rfl,iL (stf e0) ?_⟩⟩
   exact D7 (i':=i+1) (j':=j) hL hO lQ c q1 q2 q3 q4 W0 (.inr (.inl ⟨e0,z1⟩)) z1 hj (by omega) (by rw[z2];unfold lM;rw[aD (by simp only;omega),aG e0])
  ·refine⟨_,rfl,rfl,_,rfl,iL (stf e0) ⟨_,rfl,rfl,_,rfl,kO (stv e0 1 (by decide)) ⟨_,rfl,_,_,rfl,rfl,?_⟩⟩⟩
   exact D7 (i':=i) (j':=j+1) hL hO lQ c q1 q2 q3 q4 W0 (.inr (.inr ⟨e0,z1⟩)) hi z1 (by omega) (by rw[z2];unfold lM;rw[aD (by simp only;omega),aD (by simp only;omega)])
 ·refine iL (aH (by omega)) ?_
  refine⟨_,rfl,_,rfl,a,C,dx,_,_,rfl,S.at_,T.cl,T.no _ (by decide),rfl,b4,_,rfl,.inl (cG.of S.s4),_,_,rfl,rfl,_,rfl,?_⟩
  rw[l4]
  by_cases h2:j<bs.length
  ·refine kO (aI (by omega)) ⟨_,fun _ _ h=>h,?_⟩
   refine⟨_,rfl,a,dx,_,rfl,S.at_,rfl,_,rfl,_,rfl,D,a,as,bs,e,i,j,rfl,hS',hi,hj,?_⟩
   refine⟨_,rfl,.inl ⟨rfl,_,cG.of q1⟩,_,rfl,_,rfl,_,rfl,by show 3<=aK;decide,fun T0 W0=>?_⟩
   refine⟨L,_,_,rfl,rfl,(aQ.new W0) _ _ q1,big (by omega),?_⟩
   have ZY:=Pe hi hj (.inr h2)
   rcases ZY with⟨e0,z1,z2,z3,z4⟩|⟨e0,z1,z2⟩|⟨e0,z1,z2⟩
   ·refine⟨_,rfl,rfl,_,rfl,kO (stv e0 2 (by decide)) ⟨_,rfl,_,_,rfl,rfl,_,rfl,rfl,_,rfl,kO (stv e0 1 (by decide)) ⟨_,rfl,_,_,rfl,rfl,?_⟩⟩⟩
    exact D7 (i':=i+1) (j':=j+1) hL hO lQ c q1 q2 q3 q4 W0 (.inl ⟨e0,z1,z2,z3⟩) z1 z2 (by omega) (by rw[z4];unfold lM;rw[aG e0])
   ·refine⟨_,rfl,rfl,_,rfl,kO (stv e0 2 (by decide)) ⟨_,rfl,_,_,rfl,rfl,_,rfl,rfl,_,rfl,iL (stf e0) ?_⟩⟩
    exact D7 (i':=i+1) (j':=j) hL hO lQ c q1 q2 q3 q4 W0 (.inr (.inl ⟨e0,z1⟩)) z1 hj (by omega) (by rw[z2];unfold lM;rw[aD (by simp only;omega),aG e0])
   ·refine⟨_,rfl,rfl,_,rfl,iL (stf e0) ⟨_,rfl,rfl,_,rfl,kO (stv e0 1 (by decide)) ⟨_,rfl,_,_,rfl,rfl,?_⟩⟩⟩
    exact D7 (i':=i) (j':=j+1) hL hO lQ c q1 q2 q3 q4 W0 (.inr (.inr ⟨e0,z1⟩)) hi z1 (by omega) (by rw[z2];unfold lM;rw[aD (by simp only;omega),aD (by simp only;omega)])
  ·refine iL (aH (by omega)) ?_
   have ei:i=as.length:=by omega
   have ej:j=bs.length:=by omega
   subst ei ej
   rw[ZU,cQ]at q3
   refine⟨_,rfl,k st _ _ ⟨q3,q4,by omega⟩ c (um q1 (hO.fresh hL) (wu.EG q2))⟩
end
inductive Al{β:Type}(R:V->β->Prop):List V->List β->Prop
 |nil:Al R [] []
 |cons {v:V} {b:β} {vs:List V} {bs:List β}:R v b->Al R vs bs->Al R (v::vs) (b::bs)
section
variable{β:Type}{R S:V->β->Prop}
theorem Al.length:∀{vs:List V}{bs:List β},Al R vs bs->vs.length=bs.length
 |_,_,.nil=>rfl
 |_,_,.cons _ t=>by rw[br,br,Al.length t]
theorem Al.imp(h:∀v b,R v b->S v b):∀{vs:List V}{bs:List β},Al R vs bs->Al S vs bs
 |_,_,.nil=>.nil
 |_,_,.cons a t=>.cons (h _ _ a) (Al.imp h t)
theorem Al.append:∀{vs ws:List V}{bs cs:List β},Al R vs bs->Al R ws cs->Al R (vs++ws) (bs++cs)
 |_,_,_,_,.nil,s=>s
 |_,_,_,_,.cons r t,s=>.cons r (Al.append t s)
theorem Al.snoc{vs:List V}{bs:List β}{v:V}{b:β}(a:Al R vs bs)(h:R v b):Al R (vs++[v]) (bs++[b]):=a.append (.cons h .nil)
theorem Al.get:∀{vs:List V}{bs:List β}{i:Nat}{v:V},Al R vs bs->vs[i]?=some v->∃b,bs[i]?=some b/\R v b
 |_,_,i,v,.nil,e=>by simp at e
 |_,_,0,v,.cons h _,e=>by simp at e;subst e;exact⟨_,rfl,h⟩
 |_,_,i+1,v,.cons _ t,e=>by
  obtain⟨d,h1,h2⟩:=Al.get (i:=i) (v:=v) t (by simpa using e)
  exact⟨d,by simpa using h1,h2⟩
theorem Al.agy:∀{vs:List V}{bs:List β}{i:Nat}{b:β},Al R vs bs->bs[i]?=some b->∃v,vs[i]?=some v/\R v b
 |_,_,i,v,.nil,e=>by simp at e
 |_,_,0,v,.cons h _,e=>by simp at e;subst e;exact⟨_,rfl,h⟩
 |_,_,i+1,v,.cons _ t,e=>by
  obtain⟨d,h1,h2⟩:=Al.agy (i:=i) (b:=v) t (by simpa using e)
  exact⟨d,by simpa using h1,h2⟩
theorem Al.dx{K:ah}{G:Hp}{f:β->bf}:∀{vs:List V}{bs:List β},Al (fun v b=>Dx K G v (f b)) vs bs->bN K G vs (bs.map f)
 |_,_,.nil=>.nil
 |_,_,.cons a t=>.cons a (Al.dx t)
end
structure VQ{β:Type}(R:Hp->V->β->Prop)(D:ak->Bool)(H1 H:Hp)(L:ak)(bs:List β):Prop where
 same:aQ H1 H
 od:Od H D
 ex:∃acc,H L=some (.lst acc)/\Al (R (hd H (ad D L))) acc bs
section
variable{β:Type}{R:Hp->V->β->Prop}
theorem VQ.start{D:ak->Bool}{H1:Hp}{L:ak}(o:Od H1 D)(h:H1 L=none):VQ R D H1 (upd H1 L (.lst [])) L []:=⟨aQ.new h,o.upd,[],aE,.nil⟩
theorem VQ.odL{D:ak->Bool}{H1 H:Hp}{L:ak}{bs:List β}(c:VQ R D H1 H L bs):Od H (ad D L):=by
 obtain⟨acc,h,a⟩:=c.ex
 exact c.od.ad h
theorem VQ.push(hR:∀G G' v b,aQ G G'->R G v b->R G' v b){D:ak->Bool}{H1 H H':Hp}{L:ak}{bs:List β}{y:V}{b:β}(c:VQ R D H1 H L bs)(hL:H1 L=none)(s:aQ H H')(hy:R (hd H' (ad D L)) y b)(n:bs.length<aK):∃acc,H' L=some (.lst acc)/\acc.length<aK/\VQ R D H1 (upd H' L (.lst (acc++[y]))) L (bs++[b]):=by
 obtain⟨acc,h,a⟩:=c.ex
 refine⟨acc,s _ _ h,by rw[a.length];exact n,(c.same.trans s).write hL,(c.od.mono s).upd,acc++[y],aE,?_⟩
 rw[qk fX]
 exact(a.imp fun v b h=>hR _ _ v b (aU s) h).snoc hy
theorem VQ.skip(hR:∀G G' v b,aQ G G'->R G v b->R G' v b){D:ak->Bool}{H1 H H':Hp}{L:ak}{bs:List β}(c:VQ R D H1 H L bs)(s:aQ H H'):VQ R D H1 H' L bs:=by
 obtain⟨acc,h,a⟩:=c.ex
 exact⟨c.same.trans s,c.od.mono s,acc,s _ _ h,a.imp fun v b h=>hR _ _ v b (aU s) h⟩
theorem sU(hR:∀G G' v b,aQ G G'->R G v b->R G' v b){K:ah}{a:ak}{xs:List V}{out:List β}{i0:Nat}{te:TE}{vs:List Nat}{σ:St}{H1:Hp}{L:ak}{Qd:Hp->Prop}{D:ak->Bool}(hL:H1 L=none)(o:Od H1 D)(hq:cG K H1 a xs)(jT:xs.length=out.length)(hn:out.length<=aK)(hw:∀x,gC ((gC σ vs).set i0 (some x)) vs=gC σ vs)(he:∀(i:Nat)(x:V)(b:β)(H:Hp)(D':ak->Bool)(Qe:VK),xs[i]?=some x->out[i]?=some b->aQ H1 H->Od H D'->aQ (hd H1 D) (hd H D')->(∀y H',aQ H H'->R (hd H' D') y b->Qe y H')->te ((gC σ vs).set i0 (some x)) H Qe)(J9:∀H acc,aQ H1 H->H L=some (.lst acc)->Al (R (hd H D)) acc out->Qd H):∃W:Nat->Nat->Hp->Prop,(∃m,W 0 m (upd H1 L (.lst [])))/\∀i m H,W i m H->((QR K a).stop i H/\Qd H)\/((QR K a).go i H/\∃Nx:Hp->Prop,(∀H',Nx H'->∃m',m'<m/\W (i+1) m' H')/\∀x H',(QR K a).Qi i H x H'->wm i0 x (gC σ vs) H' fun σ2 H2=>gC σ2 vs=gC σ vs/\MM σ2 H2 fun b H3=>if b=true then te σ2 H3 fun y H4=>∃acc,H4 L=some (.lst acc)/\acc.length<aK/\Nx (upd H4 L (.lst (acc++[y])))else Nx H3):=by
 refine Kd (K:=K) (a:=a) (xs:=xs) (fun i H=>VQ R D H1 H L (out.take i)) (VQ.start o hL) (fun i H _ c=>c.same.seq hq) (fun i x H hi c=>⟨hw x,?_⟩) fun H c=>?_
 ·unfold MM
  dsimp only
  rw[aG rfl]
  have IB:i<xs.length:=(az.mp hi).1
  obtain⟨b,hb⟩:∃b,out[i]?=some b:=⟨_,aB (by omega)⟩
  have sd:aQ (hd H1 D) (hd H (ad D L)):=by rw[<-m8 hL];exact aU c.same
  refine he i x b H (ad D L) _ hi hb c.same c.odL sd fun y H' s hy=>?_
  obtain⟨acc,h1,h2,h3⟩:=c.push hR hL s hy (by rw[a_];omega)
  refine⟨acc,h1,h2,?_⟩
  have e:out.take (i+1)=out.take i++[b]:=by rw[jj,hb];rfl
  rw[e]
  exact h3
 ·obtain⟨acc,h,a⟩:=c.ex
  rw[jT,cU]at a
  exact J9 H acc c.same h (a.imp fun v b h=>hR _ _ v b wu h)
theorem ab_(hR:∀G G' v b,aQ G G'->R G v b->R G' v b){K:ah}{a b:ak}{xs ys:List V}{out:List β}{i0 i1:Nat}{te:TE}{vs:List Nat}{σ:St}{H1:Hp}{L:ak}{Qd:Hp->Prop}{D:ak->Bool}(hL:H1 L=none)(o:Od H1 D)(hq:cG K H1 a xs)(hq2:cG K H1 b ys)(jT:(xs.zip ys).length=out.length)(hn:out.length<=aK)(hw:∀x y,gC (((gC σ vs).set i0 (some x)).set i1 (some y)) vs=gC σ vs)(he:∀(i:Nat)(x y:V)(b:β)(H:Hp)(D':ak->Bool)(Qe:VK),xs[i]?=some x->ys[i]?=some y->out[i]?=some b->aQ H1 H->Od H D'->aQ (hd H1 D) (hd H D')->(∀z H',aQ H H'->R (hd H' D') z b->Qe z H')->te (((gC σ vs).set i0 (some x)).set i1 (some y)) H Qe)(J9:∀H acc,aQ H1 H->H L=some (.lst acc)->Al (R (hd H D)) acc out->Qd H):∃W:Nat->Nat->Hp->Prop,(∃m,W 0 m (upd H1 L (.lst [])))/\∀i m H,W i m H->((Y_ K a b).stop i H/\Qd H)\/((Y_ K a b).go i H/\∃Nx:Hp->Prop,(∀H',Nx H'->∃m',m'<m/\W (i+1) m' H')/\∀x H',(Y_ K a b).Qi i H x H'->Yu K 2 (F_ (wm i0) (F_ (wm i1) Yt)) x (gC σ vs) H' fun σ2 H2=>gC σ2 vs=gC σ vs/\MM σ2 H2 fun b H3=>if b=true then te σ2 H3 fun y H4=>∃acc,H4 L=some (.lst acc)/\acc.length<aK/\Nx (upd H4 L (.lst (acc++[y])))else Nx H3):=by
 refine Ze (K:=K) (a:=a) (b:=b) (xs:=xs) (ys:=ys) (fun i H=>VQ R D H1 H L (out.take i)) (VQ.start o hL) (fun i H _ c=>⟨c.same.seq hq,c.same.seq hq2⟩) (fun i x y H T hi hi' c hT=>?_) fun H c=>?_
 ·refine⟨T,_,rfl,rN.of aE,rfl,x,_,rfl,y,_,rfl,rfl,hw x y,?_⟩
  unfold MM
  dsimp only
  rw[aG rfl]
  have h1:i<xs.length:=(az.mp hi).1
  have h2:i<ys.length:=(az.mp hi').1
  have h3:i<out.length:=by rw[<-jT,eS];omega
  obtain⟨b',hb⟩:∃b,out[i]?=some b:=⟨_,aB h3⟩
  have c2:=c.skip hR (aQ.new (o:=.tup [x,y]) hT)
  have sd:aQ (hd H1 D) (hd (upd H T (.tup [x,y])) (ad D L)):=by rw[<-m8 hL];exact aU c2.same
  refine he i x y b' _ (ad D L) _ hi hi' hb c2.same c2.odL sd fun z H' s hz=>?_
  obtain⟨acc,h1,h2,h3⟩:=c2.push hR hL s hz (by rw[a_];omega)
  refine⟨acc,h1,h2,?_⟩
  have e2:out.take (i+1)=out.take i++[b']:=by rw[jj,hb];rfl
  rw[e2]
  exact h3
 ·obtain⟨acc,h,a⟩:=c.ex
  rw[jT,cU]at a
  exact J9 H acc c.same h (a.imp fun v b h=>hR _ _ v b wu h)
end
theorem aQ.inst{H1:Hp}{x dx C:ak}{fs:List (cM×V)}(nx:H1 x=JZ)(nd:H1 dx=JZ)(ne:dx≠x):aQ H1 (upd (upd H1 dx (.own x)) x (.ins C dx fs)):=fun b o e=>by
 rw[bY (cW e nx),bY (cW e nd)]
 exact e
structure Pc where
 eF:Nat
 fV:bZ
 entries:List (Nat×Nat)
def uy(p:bZ×bZ):Pc:=⟨0,p.1,kY p.1 p.2⟩
def Fg(f:Nat)(x:bZ):Pc:=⟨f,x,[]⟩
def pH:pU->List Pc
 |.keep a b=>(a.zip b).map uy
 |.drop a=>a.map (Fg 1)
 |.put b=>b.map (Fg 2)
def pcF(v1 v2 v3:V):List (cM×V):=[("fate",v1),("letter",v2),("entries",v3)]
def n9:List cM:=["fate","letter","entries"]
structure xM(K:ah)(C:ak)(G:Hp)(v:V)(p:Pc):Prop where
 ex:∃a dx v2 v3,v=.ref a/\G a=some (.ins C dx (pcF (vn p.eF) v2 v3))/\Dx K G v2 (gS p.fV)/\Dx K G v3 (VN p.entries)
theorem xM.mono{K:ah}{C:ak}:∀(G G':Hp)(v:V)(p:Pc),aQ G G'->xM K C G v p->xM K C G' v p:=fun G G' v p s h=>by
 obtain⟨a,dx,v2,v3,e,h1,h2,h3⟩:=h.ex
 exact⟨a,dx,v2,v3,e,s _ _ h1,s.dp h2,s.dp h3⟩
structure pI(K:ah)(C:ak)(G:Hp)(v:V)(ps:List Pc):Prop where
 ex:∃a acc,v=.ref a/\G a=some (.lst acc)/\Al (xM K C G) acc ps
theorem pI.mono{K:ah}{C:ak}{G G':Hp}{v:V}{ps:List Pc}(s:aQ G G')(h:pI K C G v ps):pI K C G' v ps:=by
 obtain⟨a,acc,e,h1,h2⟩:=h.ex
 exact⟨a,acc,e,s _ _ h1,h2.imp fun v b h=>xM.mono _ _ v b s h⟩
def Ph(C:ak):Sp:=fun vs H Q _=>∃x dx v1 v2 v3,vs=[.ref x,v1,v2,v3]/\H x=some (.ins C dx [])/\Q .jX (upd H x (.ins C dx (pcF v1 v2 v3)))
section
variable{P:bD}{w:cC}{K:ah}{mg:cM->Option ao}{base:cY}
theorem M1{C:ak}(T:iO K C n9)(Df:E1 K mg C "Piece" "Piece.__init__" p7 ["self","fate","letter","entries"]):t8 P w K mg base C "Piece" ["self","fate","letter","entries"] 1 (Ph C):=by
 refine Df.ok Gu (fun vs H Q E⟨_,_,_,_,_,e,_⟩=>by rw[e];rfl) fun f iB A outer s H vs Q E hr h=>?_
 obtain⟨x,dx,v1,v2,v3,rfl,hx,k⟩:=h
 refine⟨_,(aC (iV (pv 0) (pv 1) rfl)
   (aC (iV (pv 0) (pv 2) rfl)
   (aJ (iV (pv 0) (pv 3) rfl)))),?_⟩
 refine⟨_,rfl,_,rfl,x,C,dx,_,rfl,hx,T.cl,T.no _ (by decide),by simp,?_⟩
 refine⟨_,rfl,_,rfl,x,C,dx,_,rfl,aE,T.cl,T.no _ (by decide),by show 1<1000;decide,?_⟩
 refine⟨_,rfl,_,rfl,x,C,dx,_,rfl,aE,T.cl,T.no _ (by decide),by show 2<1000;decide,?_⟩
 rw[l8,l8]
 exact k
theorem RG{C x dx:ak}{H1:Hp}{D:ak->Bool}{p:Pc}{v2 v3:V}(o:Od H1 D)(nx:H1 x=none)(nd:H1 dx=none)(ne:dx≠x)(h2:Dx K (hd H1 D) v2 (gS p.fV))(h3:Dx K (hd H1 D) v3 (VN p.entries)):aQ H1 (upd (upd (upd H1 dx (.own x)) x (.ins C dx [])) x (.ins C dx (pcF (vn p.eF) v2 v3)))/\xM K C (hd (upd (upd (upd H1 dx (.own x)) x (.ins C dx [])) x (.ins C dx (pcF (vn p.eF) v2 v3))) D) (.ref x) p:=by
 rw[l8]
 have s:=aQ.inst (C:=C) (fs:=pcF (vn p.eF) v2 v3) nx nd ne
 exact⟨s,x,dx,v2,v3,rfl,iY aE (o.fresh nx),(aU s).dp h2,(aU s).dp h3⟩
def ZZ(K:ah)(C:ak):Sp:=fun vs H Q _=>∃D v1 v2 la lb,vs=[v1,v2]/\Od H D/\Dx K (hd H D) v1 (l6 la)/\Dx K (hd H D) v2 (l6 lb)/\Bb la/\Bb lb/\la.length<=2000/\∀v H',aQ H H'->pI K C (hd H' D) v ((la.zip lb).map uy)->Q v H'
theorem Lm{C:ak}(G:fT K mg)(Df:jL K mg "kept_pieces" uU ["old_letters","new_letters"])(D8:t8 P w K mg base C "Piece" ["self","fate","letter","entries"] 1 (Ph C))(jN:bG P w K mg base "entries_between" ["old_letter","new_letter"] 1 (qC K sQ)):bG P w K mg base "kept_pieces" ["old_letters","new_letters"] 3 (ZZ K C):=by
 refine Df.ok sL (fun vs H Q E⟨_,_,_,_,_,e,_⟩=>by rw[e];rfl) fun f iB A outer s H vs Q E hr h=>?_
 obtain⟨D,v1,v2,la,lb,rfl,hO,a1,a2,ka,kb,na,k⟩:=h
 obtain⟨a,xs,rfl,h1,h2⟩:=a1.bV
 obtain⟨b,ys,rfl,h3,h4⟩:=a2.bV
 have l1:=h2.length
 have l2:=h4.length
 rw[aa]at l1 l2
 refine⟨_,(aJ (bF (vm (g:=Yu K 2 (F_ (wm 2) (F_ (wm 3) Yt))) (own:=[("one",2),("other",3)]) rfl sL.nd (Zc rfl G.adb (aj (pv 0) (aj (pv 1) aA))) (gR (by rfl)) (fun _ _ _ _ _=>(by exact(xy rfl (gQ (cJ (i:=2) sL.nd rfl (by first|exact bz rfl|exact bB rfl)) (gQ (cJ (i:=3) sL.nd rfl (by first|exact bz rfl|exact bB rfl)) su))))) (fun _ _ _ _ _=>jA) (fun _ _ _ _ _=>(qJ D8 (hr.mono (by decide)) (aj (bW G.ab1) (aj (pv 2) (aj (bL jN (hr.mono (by decide)) (aj (pv 2) (aj (pv 3) aA))) aA)))))))),?_⟩
 refine⟨_,rfl,_,rfl,a,b,xs,ys,rfl,cG.of (aq _ _ h1),cG.of (aq _ _ h3),fun L hL=>?_⟩
 refine ab_ (R:=xM K C) xM.mono (K:=K) (D:=D) (out:=(la.zip lb).map uy) hL hO (cG.of (aq _ _ h1)) (cG.of (aq _ _ h3)) (by rw[aa,eS,eS,l1,l2]) (nI (by rw[aa,eS];omega)) (fun _ _=>rfl)
  (fun i x y p H' D' Qe hi hi' ho s o sd kk=>?_) fun H' acc s h6 h7=>k _ _ s ⟨L,acc,rfl,iY h6 (hO.fresh hL),h7⟩
 obtain⟨⟨z,z'⟩,ez,rfl⟩:=mT ho
 obtain⟨ez1,ez2⟩:=iy.mp ez
 obtain⟨d1,e1,x1⟩:=h2.get hi
 obtain⟨d2,e2,y1⟩:=h4.get hi'
 rw[aT,ez1]at e1
 rw[aT,ez2]at e2
 cases e1
 cases e2
 have kz:=ka z (aL ez1)
 have kz':=kb z' (aL ez2)
 refine⟨_,rfl,_,rfl,_,rfl,D',_,_,o,.cons (sd.dp x1) (.cons (sd.dp y1) .nil),⟨z,z',rfl,kz,kz',rfl⟩,fun v H5 s5 d5=>?_⟩
 intro x0 GD nx nd ne
 obtain⟨t1,t2⟩:=RG (K:=K) (C:=C) (p:=uy (z,z')) (o.mono s5) nx nd ne ((aU s5).dp (sd.dp x1)) d5
 exact⟨x0,GD,_,_,_,rfl,aE,rfl,kk _ _ (s5.trans t1) t2⟩
def Z0(K:ah)(C:ak):Sp:=fun vs H Q _=>∃D f v2 la,vs=[vn f,v2]/\Od H D/\Dx K (hd H D) v2 (l6 la)/\la.length<=2000/\∀v H',aQ H H'->pI K C (hd H' D) v (la.map (Fg f))->Q v H'
theorem Ln{C:ak}(G:fT K mg)(Df:jL K mg "bare_pieces" uV ["fate","letters"])(D8:t8 P w K mg base C "Piece" ["self","fate","letter","entries"] 1 (Ph C)):bG P w K mg base "bare_pieces" ["fate","letters"] 3 (Z0 K C):=by
 refine Df.ok xD (fun vs H Q E⟨_,_,_,_,e,_⟩=>by rw[e];rfl) fun f iB A outer s H vs Q E hr h=>?_
 obtain⟨D,ft,v2,la,rfl,hO,a1,na,k⟩:=h
 obtain⟨a,xs,rfl,h1,h2⟩:=a1.bV
 have l1:=h2.length
 rw[aa]at l1
 refine⟨_,(aJ (bF (vm (own:=[("letter",2)]) rfl xD.nd (fE (pv 1)) (gR (by rfl)) (fun _ _ _ _ _=>(cJ (i:=2) xD.nd rfl (by first|exact bz rfl|exact bB rfl))) (fun _ _ _ _ _=>jA) (fun _ _ _ _ _=>(qJ D8 (hr.mono (by decide)) (aj (pv 0) (aj (pv 2) (aj (c_ aA) aA)))))))),?_⟩
 refine⟨_,rfl,a,rfl,⟨_,cG.of (aq _ _ h1)⟩,fun L hL=>?_⟩
 refine sU (R:=xM K C) xM.mono (K:=K) (D:=D) (out:=la.map (Fg ft)) hL hO (cG.of (aq _ _ h1)) (by rw[aa];exact l1) (nI (by rw[aa];omega)) (fun _=>rfl)
  (fun i x p H' D' Qe hi ho s o sd kk=>?_) fun H' acc s h6 h7=>k _ _ s ⟨L,acc,rfl,iY h6 (hO.fresh hL),h7⟩
 obtain⟨z,ez,rfl⟩:=mT ho
 obtain⟨d1,e1,x1⟩:=h2.get hi
 rw[aT,ez]at e1
 cases e1
 refine⟨_,rfl,_,rfl,bE _,fun q hq=>?_⟩
 intro x0 GD nx nd ne
 obtain⟨t1,t2⟩:=RG (K:=K) (C:=C) (p:=Fg ft z) (o.mono (aQ.new hq)) nx nd ne ((aU (aQ.new hq)).dp (sd.dp x1)) (k_ hq o .nil)
 exact⟨x0,GD,_,_,_,rfl,aE,rfl,kk _ _ ((aQ.new hq).trans t1) t2⟩
end
def pJ(l:List bZ):bZ:=l.getLast?.getD (cO 10)
def xN(steps:List pU)(o n:bZ):List Pc:=steps.flatMap pH++[uy (o,n)]
theorem RH(us:List V)(u:V):Cf (us++[u]) (some (-1)) none=[u]:=by
 unfold Cf
 have e1:HT.tZ (us++[u]).length 0 (some (-1))=us.length:=by
  show(if(-1:Int)<0 then((-1:Int)+((us++[u]).length:Int)).toNat else min (-1:Int).toNat (us++[u]).length)=us.length
  rw[aG (by decide),au]
  simp
  omega
 rw[e1,HT.F8,List.drop_left]
 simp
def adi(K:ah)(CS C:ak):Sp:=fun vs H Q _=>∃D v1 v2 a lo ln as bs e,vs=[v1,v2,.ref a]/\Od H D/\Dx K (hd H D) v1 (l6 lo)/\Dx K (hd H D) v2 (l6 ln)/\Bb lo/\Bb ln/\1<=lo.length/\1<=ln.length/\B5 K CS (hd H D) a as bs e/\C6 as/\C6 bs/\as.length<=2000/\bs.length<=2000/\
 ∀v H',aQ H H'->pI K C (hd H' D) v (xN (W as bs 0 0).steps (pJ lo) (pJ ln))->Q v H'
section
variable{P:bD}{w:cC}{K:ah}{mg:cM->Option ao}{base:cY}
theorem GF{G:Hp}{v:V}{l:List bZ}(h:Dx K G v (l6 l))(n:1<=l.length):∃a us u,v=.ref a/\G a=some (.lst (us++[u]))/\Dx K G u (gS (pJ l))/\pJ l∈l:=by
 obtain⟨a,xs,rfl,h1,h2⟩:=h.bV
 have qI:l≠[]:=fun e=>by rw[e]at n;simp at n
 obtain⟨qs,p,rfl⟩:∃qs p,l=qs++[p]:=⟨l.dropLast,l.getLast qI,(fJ qI).symm⟩
 rw[bu]at h2
 obtain⟨us,u,rfl,w1,w2⟩:=bN.snoc_inv h2
 have e:pJ (qs++[p])=p:=by unfold pJ;simp
 refine⟨a,us,u,rfl,h1,?_,?_⟩
 ·rw[e];exact w2
 ·rw[e];simp
theorem Lo{as bs:List cE}{m:Mv}(ka:C6 as)(kb:C6 bs)(h:WZ as bs m):(pH (lM as bs m)).length<=2000:=by
 have ga:∀{ts:List cE}{i:Nat},C6 ts->i<ts.length->(ts.getD i []).length<=2000:=fun{ts i}kt hi=>by
  rw[rm (aB hi)]
  exact(kt _ (kN hi)).2
 unfold lM
 rcases h with⟨e,h1,h2,_⟩|⟨e,h1⟩|⟨e,h1⟩
 ·rw[aG e]
  unfold pH
  rw[aa,eS]
  have:=ga ka h1
  omega
 ·rw[aD (by omega),aG e]
  unfold pH
  rw[aa]
  exact ga ka h1
 ·rw[aD (by omega),aD (by omega)]
  unfold pH
  rw[aa]
  exact ga kb h1
theorem Lp{as bs:List cE}(ka:C6 as)(kb:C6 bs):∀{st:List Mv},(∀m∈st,WZ as bs m)->(st.flatMap fun m=>pH (lM as bs m)).length<=st.length*2000
 |[],_=>by simp
 |m::st,h=>by
  rw[dY,au,br]
  have h1:=Lo ka kb (h m (by simp))
  have h2:=Lp ka kb (st:=st) fun m hm=>h m (by simp[hm])
  omega
theorem HS{CS C:ak}(G:fT K mg)(T:iO K CS sR)(Df:jL K mg "row_of_pieces" qV ["old_text","new_text","scripts"])(xO:dG P w K mg base CS "chosen_steps" ["self"] 3 (VP K CS))(u9:bG P w K mg base "kept_pieces" ["old_letters","new_letters"] 3 (ZZ K C))(u_:bG P w K mg base "bare_pieces" ["fate","letters"] 3 (Z0 K C)):bG P w K mg base "row_of_pieces" ["old_text","new_text","scripts"] 4 (adi K CS C):=by
 refine Df.ok mG (fun vs H Q E⟨_,_,_,_,_,_,_,_,_,e,_⟩=>by rw[e];rfl) fun f iB A outer s H vs Q E hr h=>?_
 obtain⟨D,v1,v2,a,lo,ln,as,bs,e,rfl,hO,a1,a2,ko,kn,lo1,ln1,hS,kA,kB,nA,nB,k⟩:=h
 refine⟨_,(aC (cR (i:=3) mG.nd rfl (by first|exact bz rfl|exact bB rfl) (c_ aA))
   (aC (jO cA rfl (fE (gZ xO (pv 2) (hr.mono (by decide)))) (xy rfl (gQ (cJ (i:=4) mG.nd rfl (by first|exact bz rfl|exact bB rfl)) (gQ (cJ (i:=5) mG.nd rfl (by first|exact bz rfl|exact bB rfl)) (gQ (cJ (i:=6) mG.nd rfl (by first|exact bz rfl|exact bB rfl)) su)))) (aJ (eW (dB jM (pv 4) (bW G.ab1) (dZ _)) (aJ (eZ (kQ aZ fO fQ pX (pv 3) (aj (bL u9 (hr.mono (by decide)) (aj (eX (r:=jP K) dm (bC (K:=K) rfl (pv 2) rfl) (pv 5) (fun _ _=>rfl)) (aj (eX (r:=jP K) dm (bC (K:=K) rfl (pv 2) rfl) (pv 6) (fun _ _=>rfl)) aA))) aA)))) (aJ (eW (dB jM (pv 4) (bW G.Rm) (dZ _)) (aJ (eZ (kQ aZ fO fQ pX (pv 3) (aj (bL u_ (hr.mono (by decide)) (aj (bW G.Rm) (aj (eX (r:=jP K) dm (bC (K:=K) rfl (pv 2) rfl) (pv 5) (fun _ _=>rfl)) aA))) aA)))) (aJ (eZ (kQ aZ fO fQ pX (pv 3) (aj (bL u_ (hr.mono (by decide)) (aj (bW G.PUT) (aj (eX (r:=jP K) dm (bC (K:=K) rfl (pv 2) rfl) (pv 6) (fun _ _=>rfl)) aA))) aA)))))))))
   (aJ (bF (jx uh (pv 3) (bL u9 (hr.mono (by decide)) (aj (k9 (r:=Jq K) qP (pv 0) (k8 (Ah ug b9)) sC) (aj (k9 (r:=Jq K) qP (pv 1) (k8 (Ah ug b9)) sC) aA)))))))),?_⟩
 refine⟨bE _,fun L hL=>?_⟩
 have eL:hd (upd H L (.lst [])) (ad D L)=hd H D:=by rw[qk fX,m8 hL]
 have oL:Od (upd H L (.lst [])) (ad D L):=hO.upd.ad aE
 have hS1:B5 K CS (hd (upd H L (.lst [])) (ad D L)) a as bs e:=by rw[eL];exact hS
 obtain⟨dx,v1',v2',v3',v4',v5',v6',z0,z1,z2,z3,z4,z5,z6⟩:=hS1.ex
 refine⟨_,rfl,a,dx,_,rfl,aq _ _ z0,rfl,ad D L,a,as,bs,e,rfl,oL,hS1,nA,nB,fun st v H1 lQ s1 d1=>?_⟩
 obtain⟨sl,sxs,rfl,q1,q2⟩:=d1.bV
 have lq:=q2.length
 rw[aa]at lq
 obtain⟨ajA,aeG,anV⟩:=lQ
 refine⟨sl,rfl,⟨_,cG.of (aq _ _ q1)⟩,kq (K:=K) (a:=sl) (xs:=sxs)
  (fun i σ H'=>∃v4 v5 v6,σ=[some v1,some v2,some (.ref a),some (.ref L),v4,v5,v6]/\(∀b o,H1 b=some o->b≠L->H' b=some o)/\∃acc,H' L=some (.lst acc)/\Al (xM K C (hd H' (ad D L))) acc ((st.take i).flatMap fun m=>pH (lM as bs m)))
  ⟨none,none,none,rfl,fun b o e _=>e,[],s1 _ _ aE,.nil⟩ (fun i σ H' _⟨_,_,_,_,c,_⟩=>cG.of (c _ _ (aq _ _ q1) (fun e=>by rw[e]at q1;have:=(rE q1).2;rw[fX]at this;cases this))) ?_ ?_⟩
 ·rintro i y σ H' hi ⟨v4,v5,v6,rfl,c,acc,r1,r2⟩
  obtain⟨d,e1,hy⟩:=q2.get hi
  obtain⟨m,em,rfl⟩:=mT e1
  have hm:=aeG m (aL em)
  have IB:i<st.length:=(az.mp em).1
  have sd:aQ (hd H1 (ad D L)) (hd H' (ad D L)):=fun b o eb=>by
   obtain⟨p1,p2⟩:=rE eb
   exact iY (c b o p1 (fun e=>by rw[e,fX]at p2;cases p2)) p2
  have sd0:aQ (hd (upd H L (.lst [])) (ad D L)) (hd H' (ad D L)):=(aU s1).trans sd
  have oD:Od H' (ad D L):=fun b hb hn=>by
   by_cases Z1:b=L
   ·rw[Z1,r1]at hn;cases hn
   ·cases q:H1 b with
    |none=>exact(oL.mono s1) b hb q
    |some o=>rw[c b o q Z1]at hn;cases hn
  have lf:=Lp kA kB (st:=st.take i) fun m hm=>aeG m (lX hm)
  rw[a_]at lf
  have la:=r2.length
  have lp:=Lo kA kB hm
  obtain⟨ta,txs,rfl,t1,t2⟩:=hy.DZ
  obtain⟨u1,u2,u3,rfl,w1,w2,w3⟩:=t2.three
  obtain rfl:=w1.int_inv
  obtain rfl:=w2.int_inv
  obtain rfl:=w3.int_inv
  refine⟨ta,_,rfl,aq.EF (sd.EF t1),rfl,_,_,rfl,_,_,rfl,_,_,rfl,rfl,?_⟩
  have fin:∀(v:V)(H2:Hp)(v4 v5 v6:Option V),aQ H' H2->pI K C (hd H2 (ad D L)) v (pH (lM as bs m))->∃l b xs zs,V.ref L=.ref l/\[v]=[.ref b]/\H2 l=some (.lst xs)/\H2 b=some (.lst zs)/\xs.length+zs.length<=aK/\
    ∃v4' v5' v6',[some v1,some v2,some (V.ref a),some (.ref L),v4,v5,v6]=[some v1,some v2,some (V.ref a),some (.ref L),v4',v5',v6']/\(∀b o,H1 b=some o->b≠L->upd H2 l (.lst (xs++zs)) b=some o)/\
     ∃acc,upd H2 l (.lst (xs++zs)) L=some (.lst acc)/\Al (xM K C (hd (upd H2 l (.lst (xs++zs))) (ad D L))) acc ((st.take (i+1)).flatMap fun m=>pH (lM as bs m)):=by
   intro v H2 v4 v5 v6 s2 hv
   obtain⟨b,zs,rfl,p1,p2⟩:=hv.ex
   have lz:=p2.length
   refine⟨L,b,acc,zs,rfl,rfl,s2 _ _ r1,aq _ _ p1,?_,v4,v5,v6,rfl,fun b o e n=>by rw[bY n];exact s2 _ _ (c b o e n),acc++zs,aE,?_⟩
   ·rw[iJ]
    omega
   ·rw[qk fX,gv em,gJ]
    refine(r2.imp fun v b h=>xM.mono _ _ v b (aU s2) h).append ?_
    rw[dY,abj,cQ]
    exact p2
  have hS2:H' a=some (.ins CS dx (scF v1' v2' v3' v4' v5' v6' (vn e))):=aq _ _ (sd0 _ _ z0)
  have agA:∀n,n<as.length->∃ba xa u,v1'=.ref ba/\H' ba=some (.lst xa)/\xa[n]?=some u/\Dx K (hd H' (ad D L)) u (l6 (as.getD n [])):=fun n hn=>by
   obtain⟨ba,xa,e1,e2,e3⟩:=(sd0.dp z1).bV
   obtain⟨u,f1,f2⟩:=e3.MN (i:=n) (d:=l6 (as.getD n [])) (by rw[aT,getD_some (d:=[]) hn];rfl)
   exact⟨ba,xa,u,e1,aq _ _ e2,f1,f2⟩
  have agB:∀n,n<bs.length->∃ba xa u,v2'=.ref ba/\H' ba=some (.lst xa)/\xa[n]?=some u/\Dx K (hd H' (ad D L)) u (l6 (bs.getD n [])):=fun n hn=>by
   obtain⟨ba,xa,e1,e2,e3⟩:=(sd0.dp z2).bV
   obtain⟨u,f1,f2⟩:=e3.MN (i:=n) (d:=l6 (bs.getD n [])) (by rw[aT,getD_some (d:=[]) hn];rfl)
   exact⟨ba,xa,u,e1,aq _ _ e2,f1,f2⟩
  have okA:∀n,n<as.length->Bb (as.getD n [])/\(as.getD n []).length<=2000:=fun n hn=>kA _ (by rw[rm (aB hn)];exact kN hn)
  have okB:∀n,n<bs.length->Bb (bs.getD n [])/\(bs.getD n []).length<=2000:=fun n hn=>kB _ (by rw[rm (aB hn)];exact kN hn)
  refine⟨_,rfl,rfl,_,rfl,?_⟩
  rcases hm with⟨e0,h1,h2,h3⟩|⟨e0,h1⟩|⟨e0,h1⟩
  ·refine kO (by rw[aI];rw[e0];rfl) ?_
   obtain⟨ba,xa,ua,rfl,f1,f2,f3⟩:=agA m.2.1 h1
   obtain⟨bb,xb,ub,rfl,g1,g2,g3⟩:=agB m.2.2 h2
   refine⟨_,rfl,.inl ⟨rfl,_,cG.of r1⟩,_,rfl,a,CS,dx,_,_,rfl,hS2,T.cl,T.no _ (by decide),rfl,_,rfl,ba,_,_,_,rfl,rfl,cG.of f1,rG f2,_,rfl,a,CS,dx,_,_,rfl,hS2,T.cl,T.no _ (by decide),rfl,_,rfl,bb,_,_,_,rfl,rfl,cG.of g1,rG g2,
    ad D L,_,_,as.getD m.2.1 [],bs.getD m.2.2 [],rfl,oD,f3,g3,(okA _ h1).1,(okB _ h2).1,(okA _ h1).2,fun v H2 s2 hv=>fin v H2 _ _ _ s2 ?_⟩
   unfold lM
   rw[aG e0]
   exact hv
  ·refine iL (by rw[aH];rw[e0];intro q;have:=pD (a:=1) (b:=0) q;omega) ?_
   refine⟨_,rfl,rfl,_,rfl,kO (by rw[aI];rw[e0];rfl) ?_⟩
   obtain⟨ba,xa,ua,rfl,f1,f2,f3⟩:=agA m.2.1 h1
   refine⟨_,rfl,.inl ⟨rfl,_,cG.of r1⟩,_,rfl,a,CS,dx,_,_,rfl,hS2,T.cl,T.no _ (by decide),rfl,_,rfl,ba,_,_,_,rfl,rfl,cG.of f1,rG f2,ad D L,1,_,as.getD m.2.1 [],rfl,oD,f3,(okA _ h1).2,fun v H2 s2 hv=>fin v H2 _ _ _ s2 ?_⟩
   unfold lM
   rw[aD (by omega),aG e0]
   exact hv
  ·refine iL (by rw[aH];rw[e0];intro q;have:=pD (a:=2) (b:=0) q;omega) ?_
   refine⟨_,rfl,rfl,_,rfl,iL (by rw[aH];rw[e0];intro q;have:=pD (a:=2) (b:=1) q;omega) ?_⟩
   obtain⟨bb,xb,ub,rfl,g1,g2,g3⟩:=agB m.2.2 h1
   refine⟨_,rfl,.inl ⟨rfl,_,cG.of r1⟩,_,rfl,a,CS,dx,_,_,rfl,hS2,T.cl,T.no _ (by decide),rfl,_,rfl,bb,_,_,_,rfl,rfl,cG.of g1,rG g2,ad D L,2,_,bs.getD m.2.2 [],rfl,oD,g3,(okB _ h1).2,fun v H2 s2 hv=>fin v H2 _ _ _ s2 ?_⟩
   unfold lM
   rw[aD (by omega),aD (by omega)]
   exact hv
 ·rintro σ H' ⟨v4,v5,v6,rfl,c,acc,r1,r2⟩
  rw[lq,cU]at r2
  have sH:aQ H H':=fun b o eb=>by
   have Z1:b≠L:=cW eb hL
   exact c b o (s1 _ _ (by rw[bY Z1];exact eb)) Z1
  have oH:=hO.mono sH
  have eH:hd H (ad D L)=hd H D:=m8 hL
  have sd:aQ (hd H D) (hd H' (ad D L)):=by rw[<-eH];exact aU sH
  have oD:Od H' (ad D L):=oH.ad r1
  obtain⟨p1,us1,u1,rfl,m1,m2,m3⟩:=GF (sd.dp a1) lo1
  obtain⟨p2,us2,u2,rfl,n1,n2,n3⟩:=GF (sd.dp a2) ln1
  refine⟨_,rfl,_,rfl,_,rfl,_,rfl,p1,_,rfl,cG.of (aq _ _ m1),fun x1 GG=>?_⟩
  rw[RH]
  have t1:=aQ.new (o:=.lst [u1]) GG
  refine⟨_,rfl,_,rfl,_,rfl,p2,_,rfl,cG.of (t1 _ _ (aq _ _ n1)),fun x2 Hj=>?_⟩
  rw[RH]
  have t2:=aQ.new (o:=.lst [u2]) Hj
  have SS:=t1.trans t2
  have oD2:=oD.mono SS
  have dx1:Dx K (hd (upd (upd H' x1 (.lst [u1])) x2 (.lst [u2])) (ad D L)) (.ref x1) (l6 [pJ lo]):=(aU t2).dp (k_ GG oD (.cons m2 .nil))
  have dx2:Dx K (hd (upd (upd H' x1 (.lst [u1])) x2 (.lst [u2])) (ad D L)) (.ref x2) (l6 [pJ ln]):=k_ Hj (oD.mono t1) (.cons ((aU t1).dp n2) .nil)
  refine⟨ad D L,_,_,[pJ lo],[pJ ln],rfl,oD2,dx1,dx2,fun z hz=>ko z (by rw[bJ.mp hz];exact m3),fun z hz=>kn z (by rw[bJ.mp hz];exact n3),by show 1<=2000;decide,fun v H3 s3 hv=>?_⟩
  obtain⟨b,zs,rfl,f1,f2⟩:=hv.ex
  have W2:=SS.trans s3
  have lf:=Lp kA kB aeG
  have la:=r2.length
  have lz:=f2.length
  refine⟨L,b,acc,zs,rfl,rfl,W2 _ _ r1,aq _ _ f1,?_,fun q hq=>k _ _ ((sH.trans W2).trans (aQ.new hq)) ?_⟩
  ·simp at lz
   rw[iJ]
   omega
  ·have oH3:Od H3 D:=oH.mono W2
   refine⟨q,acc++zs,rfl,iY aE (oH3.fresh hq),?_⟩
   have up:aQ (hd H3 (ad D L)) (hd (upd H3 q (.lst (acc++zs))) D):=wu.trans (aU (aQ.new hq))
   have g1:=(r2.imp fun v b h=>xM.mono _ _ v b ((aU W2).trans up) h).append (f2.imp fun v b h=>xM.mono _ _ v b up h)
   unfold xN
   rw[<-ajA,vJ]
   exact g1
end
section
open PySem.SeqAt
open PySem.AutoSeq1 (wpAny_loadPart')
open PySem.MeetsSeq PySem.MeetsSeq2 PySem.MeetsSeq3
theorem Z2(l:ak)(items:Array ao)(n:Nat)(x:ao)(e:ao->Bool)(j:Nat)(hj:j<items.size)(yes:e items[j]=true)(hs1:items.size<=aK)(k:Nat):∀i:Nat,j-i=k->i<=j->(∀m(hm:m<items.size),i<=m->m<j->e items[m]=false)->Meets (Nj.«list.remove.loop» ⟨[.ref l,x,rawInt i],[]⟩) (fun A R s=>s.heap.get? l=some {cls:=.type "list",dict:=none,data:=.seq items n,slots:=#[]}/\(∀y,y∈items->EqAt A.in1 s y x (e y))/\R (.ok (.ret .none)) {s with heap:=s.heap.update l (fG fun xs=>xs.eraseIdxIfInBounds j)}):=by
 induction k with
 |zero=>
  intro i hk hij nos prog w A R s ⟨gl,eqs,q⟩
  have e0:i=j:=by omega
  subst e0
  obtain⟨hp,g,d,tk,os⟩:=s
  wp_walk using mQ gl
  rw[show items[((i:Nat):Int).toNat]?=some items[i] by simp[hj]]
  refine aP (eqs _ (Yb hj) prog w _ _ ?_)
  rw[yes]
  have room:(items.eraseIdxIfInBounds i).size<=aK+1:=bQ (size_erased items _) (abk hs1)
  wp_walk using(wpAny_updateSeq gl rfl (hz:=hs1) (_hz':=room)),mQ gl
  simpa using q
 |succ k ih=>
  intro i hk hij nos prog w A R s ⟨gl,eqs,q⟩
  obtain⟨hp,g,d,tk,os⟩:=s
  have lt:i<items.size:=by omega
  wp_walk using mQ gl
  rw[show items[((i:Nat):Int).toNat]?=some items[i] by simp[lt]]
  refine aP (eqs _ (Yb lt) prog w _ _ ?_)
  rw[nos i lt (aV _) (by omega)]
  wp_walk
  rw[show((i:Int)+1)=((i+1:Nat):Int) by omega]
  refine⟨plainId_quiet plain_remove_loop _,SE entry_remove_loop ?_⟩
  rw[S5 plain_remove_loop _]
  exact ih (i+1) (by omega) (by omega) (fun m hm h1 h2=>nos m hm (by omega) h2) prog w A R _ ⟨gl,eqs,q⟩
theorem Z3(l:ak)(items:Array ao)(n:Nat)(x:ao)(e:ao->Bool)(j:Nat)(hj:j<items.size)(yes:e items[j]=true)(nos:∀m(hm:m<items.size),m<j->e items[m]=false)(hs1:items.size<=aK):Meets (Nj.«list.remove» ⟨[.ref l,x],[]⟩) (fun A R s=>s.heap.get? l=some {cls:=.type "list",dict:=none,data:=.seq items n,slots:=#[]}/\(∀y,y∈items->EqAt A.in1 s y x (e y))/\R (.ok (.ret .none)) {s with heap:=s.heap.update l (fG fun xs=>xs.eraseIdxIfInBounds j)}):=by
 intro prog w A R s ⟨gl,eqs,q⟩
 obtain⟨hp,g,d,tk,os⟩:=s
 wp_walk using mQ gl
 refine⟨plainId_quiet plain_remove_loop _,SE entry_remove_loop ?_⟩
 rw[S5 plain_remove_loop _]
 exact Z2 l items n x e j hj yes hs1 _ 0 rfl (bE _) (fun m hm _ h2=>nos m hm h2) prog w A R _ ⟨gl,eqs,q⟩
end
section
variable{X:Cx}
def acd(K:ah):V->List V->Hp->VK->Prop:=fun x vs H Q=>∃(l:ak)(xs:List V)(y:V)(ds:List bf)(d:bf)(j:Nat),x=.ref l/\vs=[y]/\H l=some (.lst xs)/\bN K H xs ds/\Dx K H y d/\(∀z∈ds,z.canLay0=true)/\d.canLay0=true/\d.depth<=8/\
 (∃z,ds[j]?=some z/\fh z d=true)/\(∀m z,m<j->ds[m]?=some z->fh z d=false)/\Q .jX (upd H l (.lst (xs.eraseIdx j)))
open Classical in
theorem W3(hu:X.A.units+64<qD):MtM X "list.remove" (acd X.K):=by
 intro pins s σ H x vs v us Q I rx rv h
 obtain⟨l,xs,y,ds,d,j,rfl,rfl,hH,hx,hy,cl,cd,dd,⟨z,hz1,hz2⟩,nos,q⟩:=h
 cases rx
 obtain⟨u,rfl,ru⟩:=rv.one
 obtain⟨sz,fi,n,r,hl,e⟩:=I.TY hH
 obtain⟨ys,ry⟩:=Dp.reads I d y u hy.dp ru
 have jT:=hx.length
 have Z4:∀(m:Nat)(w:bf)(uv:ao),ds[m]?=some w->fi[m]?=some uv->decide (∃z' as,Ae s.heap uv z' as/\fh z' d=true)=fh w d:=by
  intro m w uv hw huv
  obtain⟨vv,hv1,hv2⟩:=hx.MN hw
  obtain⟨uv',hu1,hu2⟩:=r.get hv1
  rw[huv]at hu1
  cases hu1
  obtain⟨as,ra⟩:=Dp.reads I w vv uv hv2.dp hu2
  cases hq:fh w d with
  |true=>exact aI ⟨w,as,ra,hq⟩
  |false=>
   refine aH fun⟨z',as',ra',Qj⟩=>?_
   rw[<-Qc _ _ _ _ _ (cl w (aL hw)) ra ra',hq]at Qj
   cases Qj
 have jl:j<ds.length:=(az.mp hz1).1
 have jt:j<fi.toArray.size:=by rw[bw];omega
 have agH:∀m(hm:m<fi.toArray.size),fi[m]?=some (fi.toArray[m]):=fun m hm=>by
  rw[bw]at hm
  rw[aB hm]
  rfl
 refine Vg F.slot_list_remove ⟨_,e,rfl⟩ F.entry_list_remove (F.args_list_remove_2 _ _)
  (Z3 l fi.toArray n u (fun uv=>decide (∃z' as,Ae s.heap uv z' as/\fh z' d=true)) j jt ((Z4 j z _ hz1 (agH j jt)).trans hz2) (fun m hm hmj=>?_) (by rw[bw];omega)) ⟨e,fun uv huv=>?_,?_⟩
 ·obtain⟨w,hw⟩:∃w,ds[m]?=some w:=⟨_,aB (by omega)⟩
  exact(Z4 m w _ hw (agH m hm)).trans (nos m w hmj hw)
 ·obtain⟨m,hm⟩:=lU (show uv∈fi by simpa using huv)
  have ml:m<fi.length:=(az.mp hm).1
  obtain⟨w,hw⟩:∃w,ds[m]?=some w:=⟨_,aB (by omega)⟩
  obtain⟨vv,hv1,hv2⟩:=hx.MN hw
  obtain⟨uv',hu1,hu2⟩:=r.get hv1
  rw[hm]at hu1
  cases hu1
  obtain⟨as,ra⟩:=Dp.reads I w vv uv hv2.dp hu2
  show XJ _ s uv u (decide (∃z' as,Ae s.heap uv z' as/\fh z' d=true))
  rw[Z4 m w uv hw hm]
  refine aa1 w d _ s uv u as ys ra ry (cl w (aL hw)) cd ?_
  have:min (gK w) (gK d)<=8:=bQ (acH _ _) dd
  show X.A.units+1+_<qD
  omega
 ·refine⟨.jX,_,I.abF (its':=fi.eraseIdx j) hH e ?_ (r.eraseIdx j) ?_,rfl,q⟩
  ·rw[Array.eraseIdxIfInBounds,dif_pos jt]
   simp
  ·exact bQ (NK xs j) sz
end
section
variable{X:Cx}{pins:List (ak×mC)}{σ:St}{H:Hp}{s:aN}
theorem dO.adopt{p:ak}{ob:HO}(I:dO X pins σ H s)(f:Ga X pins H p)(new:kP X.prog X.w (upd H p ob) s.heap p ob):dO X pins σ (upd H p ob) s:=by
 have hn:=f.1
 refine I.step (h':=s.heap) (g':=s.gens) (t':=s.toks) (d':=s.drawn) (ch:=[p]) (fun b hb=>?_) (fun b o _ _ _ e _=>e) (fun b o _ _ _ e _=>⟨o.slots,e⟩) (fun b o hc e n=>?_) (fun b o _ e=>⟨o,e⟩) (fun b xs e=>?_) (fun b o u e=>?_) (fun b ps e=>⟨#[],?_⟩) (fun m hm=>hm) (fun b u e=>?_) I.bare
 ·rw[bJ.mp hb]
  exact⟨f.2.2.2.1,f.2.1,f.2.2.2.2.1,f.2.2.2.2.2⟩
 ·rw[bY (fun e=>hc (by simp[e]))];exact n
 ·rw[bY (cW e hn)];exact e
 ·rw[bY (cW e hn)];exact e
 ·rw[bY (cW e hn),e];simp
 ·by_cases hb:b=p
  ·subst hb
   rw[aE]at e
   cases e
   exact new
  ·rw[bY hb]at e
   exact(I.dz b u e).nZ (fun c v _ q=>q) (fun c q=>by rw[bY (cW q hn)];exact q) fun c xs q=>by rw[bY (cW q hn)];exact q
theorem Z5{A':eG}{f:ak}{fd:iW}{p:cM}{k:Nat}{sp:Sp}{x:V}{v:ao}{Qk:VK}(F:yr X.prog X.w X.K X.mg X.base Rc k f fd [p] sp)(hb:sA X.K fd [p] [])(hr:lZ k A')(hA:A'.frames=X.A.frames)(I:dO X pins σ H s)(rx:gW x v)(h:sp [x] H Qk E0):b8 (cI X.prog X.w) A' (call (.ref f) [v]) (EP X pins σ Qk) (fun _ _=>False) s:=by
 have e:=I.ad'
 have e0:QS X.prog X.w X.K X.mg X.base A' X.stack s H:=⟨by rw[hA];exact e.frames,e.mod,e.bs,e.bsz,e.Hr,e.frf,e.dz,e.bare⟩
 refine Ve (wg (F.run A' X.stack s H ⟨[v],[]⟩ [v] [x] Qk E0 hr e0 (hb s [v] I.SO rfl) (.cons rx .nil) h) fun r s' hq=>?_)
 cases r with
 |error e=>exact hq
 |ok fl=>
  cases fl with
  |ret u=>exact I.after hq
  |next=>exact gX hq
  |brk=>exact gX hq
  |cont=>exact gX hq
end
def Km(H:Hp)(ts:List ak)(keys:List (Int×Int)):Prop:=ts.length=keys.length/\∀(m:Nat)(t:ak)(p:Int×Int),ts[m]?=some t->keys[m]?=some p->H t=some (.tup [.int p.1,.int p.2])
theorem Km.snoc{H H':Hp}{ts:List ak}{keys:List (Int×Int)}{t:ak}{p:Int×Int}(h:Km H ts keys)(s:aQ H H')(ht:H' t=some (.tup [.int p.1,.int p.2])):Km H' (ts++[t]) (keys++[p]):=by
 refine⟨by simp[h.1],fun m t' p' e1 e2=>?_⟩
 by_cases hm:m<ts.length
 ·rw[dD hm]at e1
  rw[dD (by rw[<-h.1];exact hm)]at e2
  exact s _ _ (h.2 m t' p' e1 e2)
 ·rw[d_ (by omega)]at e1
  rw[d_ (by rw[<-h.1];omega),<-h.1]at e2
  have e0:m-ts.length=0:=by
   have:=(az.mp e1).1
   simp at this
   omega
  rw[e0]at e1 e2
  simp at e1 e2
  subst e1 e2
  exact ht
def Z6(a b:Int×Int):Bool:=decide (a.1<b.1)||(decide (a.1=b.1)&&decide (a.2<b.2))
def C9(keys:List (Int×Int))(xs ys:List V):Prop:=∃ps:List ((Int×Int)×V),ps.Perm (keys.zip xs)/\ys=ps.map (·.2)/\ps.Pairwise fun a b=>Z6 b.1 a.1=false
abbrev RI:Nat->Bool:=fun _=>false
def M3(h:cY)(v:ao):Int×Int:=match Af h RI v with
 |some [.inl a,.inl b]=>(a,b)
 |_=>(0,0)
theorem Lq{X:Cx}{pins:List (ak×mC)}{σ:St}{H:Hp}{s:aN}(I:dO X pins σ H s){t:ak}{p:Int×Int}(h:H t=some (.tup [.int p.1,.int p.2])):Af s.heap RI (.ref t)=some [.inl p.1,.inl p.2]/\∃f,TupOf s.heap RI (.ref t) f:=by
 obtain⟨_,fi,r,o,ho,hc,n,hd⟩:=I.dz t _ h
 obtain⟨u1,u2,rfl,r1,r2⟩:=eU.two r
 obtain⟨t1,rfl⟩:=r1
 obtain⟨t2,rfl⟩:=r2
 refine⟨?_,.int p.1 t1,t,o,_,n,rfl,ho,hc,hd,rfl,fun _=>⟨_,_,rfl⟩,fun e=>by cases e⟩
 unfold Af
 have e1:G.isTupObj s.heap (.ref t)=true:=by
  simp only[G.isTupObj,ho,hc]
  rfl
 rw[aG e1]
 simp only[tupKey,ho,hd]
 rfl
theorem Z7(a b:Int×Int):(listOrd itemOrd).blt [.inl a.1,.inl a.2] [.inl b.1,.inl b.2]=Z6 a b:=by
 show(decide (a.1<b.1)||(!decide (b.1<a.1)&&(decide (a.2<b.2)||(!decide (b.2<a.2)&&false))))=Z6 a b
 unfold Z6
 rw[kT,jK]
 by_cases h1:a.1<b.1
 ·rw[aI h1];rfl
 ·rw[aH h1]
  by_cases h2:b.1<a.1
  ·rw[aI h2,aH (show¬a.1=b.1 by omega)]
   rfl
  ·rw[aH h2,aI (show a.1=b.1 by omega)]
   rfl
theorem W4{h:cY}{keys:List (Int×Int)}{xs:List V}{ts:List ak}{vs:List ao}{Lr:Array Keyed}(hk:∀(m:Nat)(t:ak)(p:Int×Int),ts[m]?=some t->keys[m]?=some p->Af h RI (.ref t)=some [.inl p.1,.inl p.2])(l1:ts.length=keys.length)(l2:keys.length=xs.length)(hv:eU xs vs)(hp:Lr.toList.Perm ((ts.map dI).zip vs))(hs:SortedToK (EE h RI) Lr Lr.size):∃ys,C9 keys xs ys/\eU ys (Lr.map (·.2)).toList:=by
 have lv:=hv.length
 have mem:∀q∈Lr.toList,∃(p:Int×Int)(x:V),Af h RI q.1=some [.inl p.1,.inl p.2]/\gW x q.2:=by
  intro q hq
  have hq2:=hp.mem_iff.mp hq
  obtain⟨m,hm⟩:=lU hq2
  obtain⟨e1,e2⟩:=iy.mp hm
  rw[aT]at e1
  obtain⟨t,et,eq⟩:=jf.mp e1
  have ml:m<ts.length:=(az.mp et).1
  obtain⟨p,ep⟩:∃p,keys[m]?=some p:=⟨_,aB (by omega)⟩
  obtain⟨x,ex⟩:∃x,xs[m]?=some x:=⟨_,aB (by omega)⟩
  obtain⟨u,eu,ru⟩:=hv.get ex
  rw[e2]at eu
  cases eu
  exact⟨p,x,by rw[<-eq];exact hk m t p et ep,ru⟩
 have hφ:((ts.map dI).zip vs).map (fun q:Keyed=>(M3 h q.1,(Yr q.2).getD .jX))=keys.zip xs:=by
  refine ud fun m=>?_
  rw[aT]
  by_cases hm:m<ts.length
  ·obtain⟨t,et⟩:∃t,ts[m]?=some t:=⟨_,aB hm⟩
   obtain⟨p,ep⟩:∃p,keys[m]?=some p:=⟨_,aB (by omega)⟩
   obtain⟨x,ex⟩:∃x,xs[m]?=some x:=⟨_,aB (by omega)⟩
   obtain⟨u,eu,ru⟩:=hv.get ex
   have z1:((ts.map dI).zip vs)[m]?=some (dI t,u):=iy.mpr ⟨by rw[aT,et];rfl,eu⟩
   have z2:(keys.zip xs)[m]?=some (p,x):=iy.mpr ⟨ep,ex⟩
   rw[z1,z2]
   show some (M3 h (.ref t),(Yr u).getD .jX)=some (p,x)
   rw[ru.abs]
   unfold M3
   rw[hk m t p et ep]
   rfl
  ·rw[fu (by rw[eS,aa];omega),fu (by rw[eS];omega)]
   rfl
 refine⟨(Lr.toList.map (fun q:Keyed=>(M3 h q.1,(Yr q.2).getD .jX))).map (·.2),⟨_,by rw[<-hφ];exact hp.map _,rfl,?_⟩,?_⟩
 ·rw[lY,qO]
  intro i j hi hj hij
  have hi':i<Lr.size:=by simpa using hi
  have hj':j<Lr.size:=by simpa using hj
  have q:=hs i j (qM hij) hj'
  obtain⟨pi,xi,ki,_⟩:=mem Lr.toList[i] (kN hi)
  obtain⟨pj,xj,kj,_⟩:=mem Lr.toList[j] (kN hj)
  have ei:KK (EE h RI) Lr i=[.inl pi.1,.inl pi.2]:=by
   unfold KK
   rw[show Lr[i]?=some Lr.toList[i] by simp[hi']]
   show(Af h RI Lr.toList[i].1).getD []=_
   rw[ki]
   rfl
  have ej:KK (EE h RI) Lr j=[.inl pj.1,.inl pj.2]:=by
   unfold KK
   rw[show Lr[j]?=some Lr.toList[j] by simp[hj']]
   show(Af h RI Lr.toList[j].1).getD []=_
   rw[kj]
   rfl
  rw[ei,ej]at q
  have q':(listOrd itemOrd).blt [.inl pj.1,.inl pj.2] [.inl pi.1,.inl pi.2]=false:=q
  rw[Z7]at q'
  have di:M3 h Lr.toList[i].1=pi:=by unfold M3;rw[ki]
  have dj:M3 h Lr.toList[j].1=pj:=by unfold M3;rw[kj]
  show Z6 (M3 h Lr.toList[j].1) (M3 h Lr.toList[i].1)=false
  rw[di,dj]
  exact q'
 ·rw[Array.toList_map,aR]
  clear hp hs hφ
  generalize Lr.toList=L at mem⊢
  induction L with
  |nil=>exact .nil
  |cons q l ih=>
   refine .cons ?_ (ih fun q' h'=>mem q' (bO _ h'))
   obtain⟨p,x,_,rx⟩:=mem q (cV ..)
   show gW ((Yr q.2).getD .jX) q.2
   rw[rx.abs]
   exact rx
section
variable{X:Cx}{pins:List (ak×mC)}{σ:St}{H:Hp}{s:aN}
def FpS(X:Cx)(pins:List (ak×mC))(b:ak):Prop:=b≠X.env.locals/\b∉X.fs/\(b∈X.ex\/X.MI.heap.objs.size<=b)/\(∀x c,X.env.cells.lookup x=some c->c≠b)/\∀p∈X.pn++pins,p.1≠b
theorem FpS.ok{H:Hp}{b:ak}(f:FpS X pins b)(h:H b=none):Ga X pins H b:=⟨h,f⟩
structure agK(X:Cx)(pins:List (ak×mC))(σ:St)(H:Hp)(a kS:ak)(e1:Nat)(keys:List (Int×Int))(s:aN):Prop where
 ex:∃(H':Hp)(ts:List ak)(kA:Array ao)(e:Nat),dO X pins σ H' s/\aQ H H'/\H' a=none/\H' kS=none/\s.heap.get? a=some (seqObj "list" #[] e1)/\s.heap.get? kS=some (seqObj "list" kA e)/\kA.toList=ts.map dI/\Km H' ts keys
theorem ace{A':eG}{f:ak}{fd:iW}{p:cM}{k:Nat}{sp:Sp}{xs:List V}{vs:List ao}{keys:List (Int×Int)}{a kS:ak}{e1:Nat}{E:ao->aN->Prop}{P:PySem.Fin->aN->Prop}(F:yr X.prog X.w X.K X.mg X.base Rc k f fd [p] sp)(hb:sA X.K fd [p] [])(hr:lZ k A')(hA:A'.frames=X.A.frames)(jT:keys.length=xs.length)(rv:eU xs vs)(hz:xs.length<=aK)(YF:∀(i:Nat)(x:V)(p:Int×Int)(H':Hp)(Qk:VK),xs[i]?=some x->keys[i]?=some p->aQ H H'->(∀t M4,aQ H' M4->M4 t=some (.tup [.int p.1,.int p.2])->Qk (.ref t) M4)->sp [x] H' Qk E0)(fa:FpS X pins a)(fk:FpS X pins kS)(hka:kS≠a)(h0:agK X pins σ H a kS e1 [] s)(hP:∀s' H' ys out c,dO X pins σ H' s'->aQ H H'->H' a=none->s'.heap.get? a=some (seqObj "list" out c)->C9 keys xs ys->eU ys out.toList->P (.done (.ret .none)) s'):b8 (cI X.prog X.w) A' (ksk_rest a (.ref f) false vs.toArray e1 (.ref kS)) P E s:=by
 have hz2:=hz
 rw[iJ]at hz2
 have lv:=rv.length
 unfold ksk_rest
 refine aP (wpAny_rule ?_)
 rw[<-Hi,List.toList_toArray]
 refine aP (ksk_fold (fun i s'=>agK X pins σ H a kS e1 (keys.take i) s') vs 0 s h0 ?step ?done)
 case step=>
  rintro j u s' hu h
  rw[Nat.zero_add]at h⊢
  obtain⟨H',ts,kA,e,I',sm,na,nk,ga,gk,ek,kt⟩:=h.ex
  have hj:j<vs.length:=(az.mp hu).1
  obtain⟨x,ex⟩:∃x,xs[j]?=some x:=⟨_,aB (by omega)⟩
  obtain⟨q,eq⟩:∃q,keys[j]?=some q:=⟨_,aB (by omega)⟩
  obtain⟨u',hu',ru⟩:=rv.get ex
  rw[hu]at hu'
  cases hu'
  have I1:=I'.pinned (fp:=[kS,a]) (fun b Jr=>by
   rcases aW.mp Jr with rfl|Jr
   ·exact fk.ok nk
   ·rw[bJ.mp Jr];exact fa.ok na) (fun b Jr=>by
   rcases aW.mp Jr with rfl|Jr
   ·exact⟨_,gk,fun v z=>nomatch z⟩
   ·rw[bJ.mp Jr];exact⟨_,ga,fun v z=>nomatch z⟩)
  refine aP (wpAny_attempt (i9 (Z5 (Qk:=fun v M4=>∃t,v=.ref t/\aQ H' M4/\M4 t=some (.tup [.int q.1,.int q.2])) F hb hr hA I1 ru (YF j x q H' _ ex eq sm fun t M4 s'' ht=>⟨t,rfl,s'',ht⟩)) (fun v s'' he=>?_) fun _ _ z=>z.elim))
  obtain⟨v',M4,I2,rt,t,rfl,s2,ht⟩:=he
  cases rt
  try dsimp only
  have pk:=I2.pin (kS,seqObj "list" kA e) (eO _ (eO _ (xA (by simp) gk)))
  have pa:=I2.pin (a,seqObj "list" #[] e1) (eO _ (eO _ (xA (by simp) ga)))
  have I3:=I2.CJ
  have kz:kA.size<=vs.length:=by
   have l1:=congrArg AD ek
   rw[ji,aa]at l1
   have l2:=kt.1
   rw[a_]at l2
   omega
  have sb:=uR s''.heap kS (fG (·.push (dI t)))
  obtain⟨c2,hc2⟩:∃c2,(s''.heap.update kS (fG (·.push (dI t)))).get? kS=some (seqObj "list" (kA.push (.ref t)) c2):=⟨_,SK pk.1 (·.push (.ref t))⟩
  refine aP (Kw pk.1 rfl (bR ⟨rfl,?_⟩) (by rw[iJ];omega) (bQ (uP (Array.size_push ..)) (by rw[iJ];omega)))
  refine⟨M4,ts++[t],kA.push (.ref t),c2,I3.turned (t':=s''.toks) (fun b o Jr e'=>(sb.2 b Jr).trans e') pk.2.1 fk.1 fk.2.2.1 fk.2.2.2.1 fk.2.2.2.2,sm.trans s2,pa.2.1,pk.2.1,(sb.2 a (iG hka)).trans pa.1,hc2,?_,?_⟩
  ·rw[Array.toList_push,ek,bu]
   rfl
  ·rw[jj,eq]
   exact kt.snoc s2 ht
 case done=>
  intro s' h
  rw[Nat.zero_add,kg (by omega)]at h
  obtain⟨H',ts,kA,e,I',sm,na,nk,ga,gk,ek,kt⟩:=h.ex
  try dsimp only
  refine aP (listItems_at gk rfl ?_)
  have hk:∀(m:Nat)(t:ak)(p:Int×Int),ts[m]?=some t->keys[m]?=some p->Af s'.heap RI (.ref t)=some [.inl p.1,.inl p.2]:=fun m t p e1 e2=>(Lq I' (kt.2 m t p e1 e2)).1
  have ksz:kA.size=vs.length:=by
   have l1:=congrArg AD ek
   rw[ji,aa]at l1
   have l2:=kt.1
   omega
  have zl:(kA.zip vs.toArray).toList=(ts.map dI).zip vs:=by rw[ksk_zip,ek]
  have tail:∀st:SortSt,(Vj st).toList.Perm ((ts.map dI).zip vs)->SortedToK (EE s'.heap RI) (Vj st) (Vj st).size->failedOf st=none->b8 (cI X.prog X.w) A' (ksk_tail a false e1 (.ref kS) st) P E s':=by
   intro st hp hs hf
   obtain⟨ys,hys,hvo⟩:=W4 hk kt.1 jT rv hp hs
   have sz2:(Vj st).size=vs.length:=by
    have:=hp.length_eq
    rw[ji,eS,aa]at this
    have l2:=kt.1
    omega
   unfold ksk_tail
   try dsimp only
   have sb1:=uR s'.heap kS (fG fun _=>(#[]:Array ao))
   have ga1:=(sb1.2 a (iG hka)).trans ga
   refine aP (Kw gk rfl (aP (wpAny_letGo (aP (seqEpoch_at ga1 rfl (aP (Kw ga1 rfl ?_ (bE _) ?_)))))) (by rw[ksz,iJ];omega) (bE _))
   ·rw[hf]
    simp only[bne_self_eq_false,kU,if_false]
    have sb2:=uR (s'.heap.update kS (fG fun _=>(#[]:Array ao))) a (fG fun _=>(Vj st).map (·.2))
    have ga2:=SK ga1 (fun _=>(Vj st).map (·.2))
    have I4:dO X pins σ H' {s' with heap:=(s'.heap.update kS (fG fun _=>(#[]:Array ao))).update a (fG fun _=>(Vj st).map (·.2))}:=I'.VG (t':=s'.toks) (ch:=[kS,a]) (fun b o Jr e'=>by
     rw[sb2.2 b (fun z=>Jr (by simp[z])),sb1.2 b (fun z=>Jr (by simp[z]))]
     exact e') (fun b Jr=>by
     rcases aW.mp Jr with rfl|Jr
     ·exact fk.ok nk
     ·rw[bJ.mp Jr];exact fa.ok na)
    exact bR (hP _ H' ys _ _ I4 sm na ga2 hys hvo)
   ·simp only[kU,if_false,Array.size_map]
    rw[sz2,iJ]
    omega
  unfold ksk_end
  try dsimp only
  rw[aD aF]
  by_cases h2:vs.toArray.size<2
  ·rw[aG h2,aG h2]
   refine aP (bR ?_)
   rw[StateT.run_pure]
   refine aP (bR ?_)
   try dsimp only
   refine tail (SortSt.mk' general' (if false=true then(kA.zip vs.toArray).reverse else kA.zip vs.toArray) #[] 7 none) ?_ ?_ rfl
   ·show(if false=true then(kA.zip vs.toArray).reverse else kA.zip vs.toArray).toList.Perm _
    rw[aD aF,zl]
   ·intro i j hij hj
    have hj2:j<(kA.zip vs.toArray).size:=hj
    rw[acP,ksz,bw,Nat.min_self]at hj2
    rw[bw]at h2
    have e0:i=j:=by omega
    subst e0
    exact KeyOrd.kle_refl _
  ·rw[aD h2,aD h2]
   rw[bw]at h2
   have ekA:kA=(ts.map dI).toArray:=by rw[<-ek,Array.toArray_toList]
   have MH:∀(ts':List ak),(∀t∈ts',∃f,TupOf s'.heap RI (.ref t) f)->∃fs,TupsOf s'.heap RI (ts'.map dI) fs/\fs.length=ts'.length:=by
    intro ts'
    induction ts' with
    |nil=>intro _;exact⟨[],.nil,rfl⟩
    |cons t r ih=>
     intro h
     obtain⟨fs,q1,q2⟩:=ih fun t' ht'=>h t' (bO _ ht')
     obtain⟨f,q3⟩:=h t (cV ..)
     exact⟨f::fs,.cons q3 q1,by simp[q2]⟩
   obtain⟨fs,q1,q2⟩:=MH ts fun t ht=>by
    obtain⟨m,hm⟩:=lU ht
    have ml:m<ts.length:=(az.mp hm).1
    obtain⟨p,ep⟩:∃p,keys[m]?=some p:=⟨_,aB (by have:=kt.1;omega)⟩
    exact(Lq I' (kt.2 m t p hm ep)).2
   have l2:=kt.1
   refine aP ?_
   rw[ekA]
   refine tup_kind (shape:=RI) (by rw[q2];omega) q1 ?_
   rw[<-ekA]
   refine aP (i9 (G.wpS_sortRunsSt (κ:=EE s'.heap RI) (kd:=tuples' true) (a₀:=kA.zip vs.toArray) (st:=SortSt.mk' (tuples' true) (if false=true then(kA.zip vs.toArray).reverse else kA.zip vs.toArray) #[] 7 none)
    (Q:=fun _ J8=>(Vj J8).Perm (kA.zip vs.toArray)/\failedOf J8=none/\SortedToK (EE s'.heap RI) (Vj J8) (kA.zip vs.toArray).size)
    (G.tupC_ltAt true (G.KeepsTups.refl _)) ?_ ⟨Array.Perm.refl _,rfl,rfl⟩ rfl (Stable.refl _) ?_ fun J8 a1 a2 a3 _=>⟨a1,a2,a3⟩) ?_ fun _ _ e=>e)
   ·intro q hq
    rw[zl]at hq
    obtain⟨m,hm⟩:=lU hq
    obtain⟨z1,z2⟩:=iy.mp hm
    rw[aT]at z1
    obtain⟨t,et,eq⟩:=jf.mp z1
    have ml:m<ts.length:=(az.mp et).1
    obtain⟨p,ep⟩:∃p,keys[m]?=some p:=⟨_,aB (by omega)⟩
    exact⟨_,by rw[<-eq];exact hk m t p et ep⟩
   ·rw[acP,ksz,bw,Nat.min_self]
    omega
   ·rintro⟨⟨⟩,J8⟩ s2 ⟨rfl,hp,hf,hs⟩
    try dsimp only
    refine tail J8 (by rw[<-zl];exact Array.perm_iff_toList_perm.mp hp) (by rw[hp.size_eq];exact hs) hf
theorem Um{f:ak}{fd:iW}{p:cM}{k:Nat}{sp:Sp}{l:ak}{xs:List V}{keys:List (Int×Int)}{Q:VK}(F:yr X.prog X.w X.K X.mg X.base Rc k f fd [p] sp)(hb:sA X.K fd [p] [])(hr:lZ (k+2) X.A)(I:dO X pins σ H s)(hl:cG X.K H l xs)(jT:keys.length=xs.length)(YF:∀(i:Nat)(x:V)(p:Int×Int)(H':Hp)(Qk:VK),xs[i]?=some x->keys[i]?=some p->aQ H H'->(∀t M4,aQ H' M4->M4 t=some (.tup [.int p.1,.int p.2])->Qk (.ref t) M4)->sp [x] H' Qk E0)(hQ:∀H' q ys,aQ H H'->H' q=none->C9 keys xs ys->Q (.ref q) (upd H' q (.lst ys))):b8 (cI X.prog X.w) X.A (call (.builtin "sorted") [.ref l] [(Vd "key",.ref f)]) (EP X pins σ Q) X.xe s:=by
 obtain⟨vs,rv,pl,hz⟩:=I.list hl
 have lv:=rv.length
 have hz2:=hz
 rw[iJ]at hz2
 have fp0:∀b,s.heap.objs.size<=b->FpS X pins b:=fun b Jr=>(I.QO (H':=H) Jr (I.dz.fresh Jr)).2
 refine call_function_entry_kw kind_sorted plain_sorted entry_sorted (ksk_s1 _ _) ?_
 unfold Nj.«sorted»
 refine aP (m:=checkCount "sorted" 1 1 _) (bR (aP (collect_list pl.isList (aP (wpAny_newList ?_ (by rw[iJ];omega))) (by rw[iJ];omega))))
 have hs1:((s.heap.push (seqObj "list" #[] 0)).update s.heap.objs.size (fG (·++vs.toArray))).objs.size=s.heap.objs.size+1:=by rw[abl,Ml]
 have agM:∀b o,s.heap.get? b=some o->((s.heap.push (seqObj "list" #[] 0)).update s.heap.objs.size (fG (·++vs.toArray))).get? b=some o:=fun b o e=>by
  rw[Heap.get?_update_ne _ _ _ _ (d8 (bU e))]
  exact bh _ e
 have hD:(((s.heap.push (seqObj "list" #[] 0)).update s.heap.objs.size (fG (·++vs.toArray))).push (seqObj "list" vs.toArray 0)).get? (s.heap.objs.size+1)=some (seqObj "list" vs.toArray 0):=by
  rw[<-hs1];exact cF _ rfl
 show b8 _ _ _ _ _ {s with heap:=((s.heap.push (seqObj "list" #[] 0)).update s.heap.objs.size (fG (·++vs.toArray))).push (seqObj "list" vs.toArray 0)}
 rw[hs1]
 have adl:∀b o,s.heap.get? b=some o->(((s.heap.push (seqObj "list" #[] 0)).update s.heap.objs.size (fG (·++vs.toArray))).push (seqObj "list" vs.toArray 0)).get? b=some o:=fun b o e=>bh _ (agM b o e)
 have hs2:(((s.heap.push (seqObj "list" #[] 0)).update s.heap.objs.size (fG (·++vs.toArray))).push (seqObj "list" vs.toArray 0)).objs.size=s.heap.objs.size+2:=by rw[Ml,hs1]
 generalize ((s.heap.push (seqObj "list" #[] 0)).update s.heap.objs.size (fG (·++vs.toArray))).push (seqObj "list" vs.toArray 0)=h2 at hD adl hs2⊢
 refine aP (qo (wpAny_call_entry_kw slot_list_sort ⟨_,hD,rfl⟩ entry_list_sort ?_ (ksk_l1 _ _)))
 rw[ksk_t1]
 have sbD:=uR h2 (s.heap.objs.size+1) (fG fun _=>(#[]:Array ao))
 have gD:=SK hD (fun _=>(#[]:Array ao))
 have hs3:(h2.update (s.heap.objs.size+1) (fG fun _=>(#[]:Array ao))).objs.size=s.heap.objs.size+2:=by rw[abl,hs2]
 have agN:∀b o,s.heap.get? b=some o->(h2.update (s.heap.objs.size+1) (fG fun _=>(#[]:Array ao))).get? b=some o:=fun b o e=>(sbD.2 b (d8 (AN (bU e)))).trans (adl b o e)
 unfold ksk_tree
 refine aP (listItems_at hD rfl (aP (Kw hD rfl (aP (seqEpoch_at gD rfl (aP (wpAny_newTuple (aP (wpAny_newList (qo ?_) (bE _))) (by rw[iJ];show vs.length<=_;omega))))) (by rw[bw,iJ];omega) (bE _))))
 have hr2:lZ k X.A.in1.in1:=(hr.in1).in1
 refine ace (X:=X) (pins:=pins) (σ:=σ) (H:=H) (xs:=xs) (keys:=keys) F hb hr2 rfl jT rv hz YF (fp0 _ (by omega)) (fp0 _ ?_) ?_ ⟨H,[],#[],0,?_,aQ.refl H,I.dz.fresh (by omega),I.dz.fresh ?_,?_,cF _ rfl,rfl,rfl,fun m t p e=>by simp at e⟩ fun s' H' ys out c I' sm na ga hys hv=>⟨_,rfl,bR ⟨_,rfl,.ref (s.heap.objs.size+1),upd H' (s.heap.objs.size+1) (.lst ys),?_,rfl,hQ H' _ ys sm na hys⟩⟩
 ·show s.heap.objs.size<=((h2.update _ _).push _).objs.size
  rw[Ml,hs3]
  omega
 ·show((h2.update _ _).push _).objs.size≠s.heap.objs.size+1
  rw[Ml,hs3]
  omega
 ·exact I.kept (t':=s.toks) fun b u e=>bh _ (bh _ (agN b u e))
 ·show s.heap.objs.size<=((h2.update _ _).push _).objs.size
  rw[Ml,hs3]
  omega
 ·exact bh _ (bh _ gD)
 ·refine I'.adopt ((fp0 _ (by omega)).ok na) ⟨?_,out.toList,c,hv,?_⟩
  ·obtain⟨ps,h1,h2,_⟩:=hys
   rw[h2,aa,h1.length_eq,eS]
   omega
  ·rw[ga]
end
def aeI(K:ah)(sp:Sp)(te:TE):TE:=fun σ H Q=>te σ H fun x H1=>∃(l:ak)(xs:List V)(keys:List (Int×Int)),x=.ref l/\cG K H1 l xs/\keys.length=xs.length/\
 (∀(i:Nat)(x:V)(p:Int×Int)(H':Hp)(Qk:VK),xs[i]?=some x->keys[i]?=some p->aQ H1 H'->(∀t M4,aQ H' M4->M4 t=some (.tup [.int p.1,.int p.2])->Qk (.ref t) M4)->sp [x] H' Qk E0)/\
 ∀H' q ys,aQ H1 H'->H' q=none->C9 keys xs ys->Q (.ref q) (upd H' q (.lst ys))
theorem Pj:r8 "sorted"=some (.builtin "sorted"):=by decide+kernel
theorem Uo{X:Cx}{f p:cM}{k:Nat}{sp:Sp}{e:fK}{te:TE}{p1 p2 kpos pos:AB}(C:bG X.prog X.w X.K X.mg X.base f [p] k sp)(hr:lZ (k+2) X.A)(hm:X.mg "sorted"=none)(he:PE X e te)(hg:Gl X "sorted":=by rfl)(hgf:Gl X f:=by rfl)(hd:(f==("__debug__":cM))=false:=by decide)
  (h1:b_ [e] X.env=(false,eval e X.env)::b_ [] X.env:=by rfl)(h2:jI pos (b_ [e] X.env)=(false,eval e X.env)::jI pos (b_ [] X.env):=by rfl)(h3:(jI pos (b_ [e] X.env)).any (·.1)=false:=by rfl):
  PE X (.Call (.Name "sorted" p1) [e] [⟨some "key",.Name f p2,kpos⟩] pos) (aeI X.K sp te):=by
 obtain⟨fa,fd,hmf,hk,hb,F⟩:=C
 intro pins s σ H Q I h
 refine lO (AU I hg hm Pj ?_)
 have ha:=aj he (aA (X:=X)) h1 pos pins s σ H (fun vs H1=>match vs with
  |[x]=>∃(l:ak)(xs:List V)(keys:List (Int×Int)),x=.ref l/\cG X.K H1 l xs/\keys.length=xs.length/\
    (∀(i:Nat)(x:V)(p:Int×Int)(H':Hp)(Qk:VK),xs[i]?=some x->keys[i]?=some p->aQ H1 H'->(∀t M4,aQ H' M4->M4 t=some (.tup [.int p.1,.int p.2])->Qk (.ref t) M4)->sp [x] H' Qk E0)/\
    ∀H' q ys,aQ H1 H'->H' q=none->C9 keys xs ys->Q (.ref q) (upd H' q (.lst ys))
  |_=>False) I h
 refine callWith_kw (jw ha fun us s1⟨vs,H1,I1,r,q⟩=>?_) h2 h3
 have ZQ:=Vy (nm:=some "key") (kpos:=kpos) (OC (pos:=p2) (v:=.ref fa) hgf hmf rfl hd) (YM (X:=X)) pos pins s1 σ H1 (fun zs H2=>zs=[.ref fa]/\H2=H1) I1 ⟨rfl,rfl⟩
 refine jw ZQ fun ws s2⟨zs,H2,I2,rz,e1,e2⟩=>?_
 subst e1 e2
 match vs,r,q with
 |[x],r,⟨l,xs,keys,ex,h1,h2,h3,h4⟩=>
  subst ex
  have e1:=eU.YX r
  have e2:=eU.YX rz
  subst e1 e2
  exact Um F hb hr I2 h1 h2 h3 h4
def Ao(ts:List (List Nat))(i:Nat):List (List Nat):=ts.dropLast++[(ts.getLast?.getD [])++[i]]
def uz(st:List (List Nat)×Option Nat)(p:Option Nat×Nat):List (List Nat)×Option Nat:=
 (match p.1 with
  |none=>st.1
  |some n=>if st.2=some n then Ao st.1 p.2 else st.1++[[p.2]],p.1)
def fF(ms:List (Option Nat)):List (List Nat)×Option Nat:=ms.zipIdx.foldl uz ([],none)
def gT(ms:List (Option Nat)):List (List Nat):=(fF ms).1
theorem vC(ms:List (Option Nat))(m:Option Nat):fF (ms++[m])=uz (fF ms) (m,ms.length):=by
 unfold fF
 rw[List.zipIdx_append,lV]
 simp
theorem vd(ts:List (List Nat))(t:List Nat)(i:Nat):Ao (ts++[t]) i=ts++[t++[i]]:=by
 unfold Ao
 simp
theorem C_{α:Type}{P:List α->Prop}(h0:P [])(hs:∀l x,P l->P (l++[x]))(l:List α):P l:=by
 have Ql:∀n(l:List α),l.length=n->P l:=by
  intro n
  induction n with
  |zero=>intro l hl;rw[mY.mp hl];exact h0
  |succ n ih=>
   intro l hl
   rcases Ek l with rfl|⟨r,x,e⟩
   ·simp at hl
   ·rw[El]at e
    subst e
    exact hs r x (ih r (by simpa using hl))
 exact Ql _ l rfl
theorem Bl(ms:List (Option Nat)):(∀n,(fF ms).2=some n->(fF ms).1≠[])/\(fF ms).1.length<=ms.length/\∀t∈(fF ms).1,t.length<=ms.length:=by
 refine C_ (P:=fun ms=>(∀n,(fF ms).2=some n->(fF ms).1≠[])/\(fF ms).1.length<=ms.length/\∀t∈(fF ms).1,t.length<=ms.length) ⟨fun n h=>(by cases h),aV _,fun t h=>(by simp[fF]at h)⟩ (fun l m⟨h1,h2,h3⟩=>?_) ms
 rw[vC,au]
 unfold uz
 simp only[cZ]
 cases m with
 |none=>exact⟨fun n h=>(by cases h),(by show(fF l).1.length<=l.length+1;omega),fun t ht=>(by have:=h3 t ht;omega)⟩
 |some n=>
  simp only
  split
  ·rename_i hq
   have qI:=h1 n hq
   have hl:(fF l).1.length≠0:=fun e=>qI (mY.mp e)
   obtain⟨qs,p,ep⟩:∃qs p,(fF l).1=qs++[p]:=⟨_,_,(fJ qI).symm⟩
   rw[ep,vd]
   rw[ep]at h2 h3
   refine⟨fun _ _=>by simp,by simp at h2⊢;omega,fun t ht=>?_⟩
   rcases aX.mp ht with ht|ht
   ·have:=h3 t (by simp[ht]);omega
   ·rw[bJ.mp ht,au]
    have:=h3 p (by simp)
    simp
    omega
  ·refine⟨fun _ _=>by simp,by simp;omega,fun t ht=>?_⟩
   rcases aX.mp ht with ht|ht
   ·have:=h3 t ht;omega
   ·rw[bJ.mp ht]
    simp
def mkD(b:Bool):Option Nat->bf
 |none=>.none
 |some n=>if b=true then .bool true else dn n
def W5(b:Bool):Option Nat->V
 |none=>.jX
 |some n=>if b=true then .bl true else vn n
def Dc(ds:List bf)(d:bf):Prop:=∃(b:Bool)(ms:List (Option Nat)),ds=[.list (ms.map (mkD b))]/\(b=true->∀n,some n∈ms->n=1)/\ms.length<=5000/\d=.list ((gT ms).map dH)
def acf(K:ah)(R:List bf->bf->Prop):Sp:=fun vs H Q _=>∃D ds d,Od H D/\bN K (hd H D) vs ds/\R ds d/\∀a H',aQ H H'->H a=none->Dx K (hd H' D) (.ref a) d->Q (.ref a) H'
theorem Z8{K:ah}{R:List bf->bf->Prop}{n:Nat}(h:∀ds d,R ds d->ds.length=n):∀(vs:List V)(H:Hp)(Q:VK)(E:XK),acf K R vs H Q E->vs.length=n:=by
 rintro vs H Q E ⟨D,ds,d,o,a,r,_⟩
 rw[a.length]
 exact h ds d r
section
variable{P:bD}{w:cC}{K:ah}{mg:cM->Option ao}{base:cY}
theorem Ls{K:ah}{H:Hp}{b:Bool}:∀{ms:List (Option Nat)}{vs:List V},bN K H vs (ms.map (mkD b))->vs=ms.map (W5 b)
 |[],_,.nil=>rfl
 |none::ms,_,.cons a r=>by rw[bg,<-Ls r,a.Kh];rfl
 |some n::ms,_,.cons a r=>by
  rw[bg,<-Ls r]
  cases b with
  |true=>rw[(show Dx K H _ (.bool true)from a).zg];rfl
  |false=>rw[(show Dx K H _ (.int n)from a).int_inv];rfl
theorem agP{b:Bool}{n:Nat}{q:Option Nat}(h:b=true->n=1/\∀k,q=some k->k=1):ad9 (W5 b (some n)) (W5 b q)=true/\decide (W5 b (some n)=W5 b q)=decide (q=some n):=by
 cases b with
 |true=>
  obtain⟨h1,h2⟩:=h rfl
  cases q with
  |none=>exact⟨rfl,by rw[aH (fun e=>nomatch e)];rfl⟩
  |some k=>rw[h1,h2 k rfl];exact⟨rfl,by rw[aI rfl];exact(aI rfl).symm⟩
 |false=>
  cases q with
  |none=>exact⟨rfl,by rw[aH (fun e=>nomatch e)];rfl⟩
  |some k=>exact⟨rfl,fH.mpr ⟨fun e=>by rw[pD e],fun e=>by cases e;rfl⟩⟩
theorem Pk(ts:List (List Nat))(i:Nat)(h:ts≠[]):∃pre t,ts.map (fun t:List Nat=>t.map dn)=pre++[t]/\(Ao ts i).map (fun t:List Nat=>t.map dn)=pre++[t++[dn i]]:=by
 obtain⟨qs,p,rfl⟩:∃qs p,ts=qs++[p]:=⟨ts.dropLast,ts.getLast h,(fJ h).symm⟩
 rw[vd]
 exact⟨qs.map (fun t:List Nat=>t.map dn),p.map dn,by simp,by simp⟩
theorem Pn(G:fT K mg)(Df:jL K mg "stretches" yK ["marks"]):bG P w K mg base "stretches" ["marks"] 1 (acf K Dc):=by
 refine Df.ok p5 (Z8 fun ds d⟨b,x,e,_⟩=>by rw[e];rfl) fun f iB A outer s H vs Q E hr h=>?_
 obtain⟨D,ds,d,hO,ha,⟨b,ms,rfl,h1m,hn,rfl⟩,k⟩:=h
 obtain⟨v,rfl,g1⟩:=ha.one
 obtain⟨a,xs,rfl,h1,h2⟩:=g1.bV
 obtain rfl:=Ls h2
 have lx:(ms.map (W5 b)).length=ms.length:=aa _
 refine⟨_,(aC (cR (i:=1) p5.nd rfl (by first|exact bz rfl|exact bB rfl) (c_ aA))
   (aC (cR (i:=2) p5.nd rfl (by first|exact bz rfl|exact bB rfl) xx)
   (aC (jO cA rfl (Ke rfl G.rP (aj (pv 0) aA)) (xy rfl (gQ (cJ (i:=3) p5.nd rfl (by first|exact bz rfl|exact bB rfl)) (gQ (cJ (i:=4) p5.nd rfl (by first|exact bz rfl|exact bB rfl)) su))) (aC (eW (PW.pt (To (ue (J' (pv 4))) (OD (dB jM (pv 4) (pv 2) (dZ _))))) (aJ (eZ (kQ aZ cg cu iK (eX (r:=jP K) dm (pv 1) (Ah ug b9) (fun _ _=>rfl)) (aj (pv 3) aA)))) (aJ (eW (ue (J' (pv 4))) (aJ (eZ (kQ aZ cg cu iK (pv 1) (aj (c_ (aj (pv 3) aA)) aA)))) cN)))
   (aJ (cR (i:=2) p5.nd rfl (by first|exact bz rfl|exact bB rfl) (pv 4)))))
   (aJ (bF (pv 1)))))),?_⟩
 refine⟨bE _,fun tk htk=>?_⟩
 refine⟨_,rfl,a,_,rfl,cG.of ((aQ.new htk) _ _ (aq _ _ h1)),Gp (K:=K) (a:=a) (xs:=ms.map (W5 b))
  (fun i σ H'=>∃v3 v4,σ=[some (.ref a),some (.ref tk),some (W5 b (fF (ms.take i)).2),v3,v4]/\LL K D H H' tk ((fF (ms.take i)).1.map (fun t:List Nat=>t.map dn)))
  ⟨none,none,rfl,LL.start htk⟩ (fun i σ H' _⟨_,_,_,c⟩=>cG.of (c.same _ _ (aq _ _ h1))) ?_ ?_⟩
 ·rintro i y σ H' T0 hi ⟨v3,v4,rfl,c⟩ hT
  obtain⟨m,em,rfl⟩:=mT hi
  have IB:i<ms.length:=(az.mp em).1
  obtain⟨j1,j2,j3⟩:=Bl (ms.take i)
  rw[a_]at j2 j3
  have lt:(ms.take i).length=i:=by rw[a_];omega
  rw[gv em,vC,lt]
  have c5:=c.skip (aQ.new (o:=.tup [.int (i:Nat),W5 b m]) hT)
  refine⟨T0,_,rfl,rN.of aE,rfl,_,_,rfl,_,_,rfl,rfl,?_⟩
  have hv:Dx K (hd H D) (V.int ((i:Nat):Int)) (dn i):=.int _
  have fin:∀(H6:Hp),LL K D H H6 tk ((uz (fF (ms.take i)) (m,i)).1.map (fun t:List Nat=>t.map dn))->∃v3 v4,[some (V.ref a),some (.ref tk),some (W5 b m),some (.int (i:Nat)),some (W5 b m)]=[some (V.ref a),some (.ref tk),some (W5 b (uz (fF (ms.take i)) (m,i)).2),v3,v4]/\LL K D H H6 tk ((uz (fF (ms.take i)) (m,i)).1.map (fun t:List Nat=>t.map dn)):=
   fun H6 c6=>⟨_,_,rfl,c6⟩
  refine⟨_,rfl,_,rfl,?_⟩
  cases m with
  |none=>
   refine iL rfl (iL rfl ?_)
   refine⟨_,rfl,_,rfl,iL rfl ?_⟩
   exact⟨_,rfl,fin _ c5⟩
  |some n=>
   have QY:some n∈ms:=aL em
   obtain⟨sc,eq⟩:=agP (b:=b) (n:=n) (q:=(fF (ms.take i)).2) fun hb=>⟨h1m hb n QY,fun k' Wz=>by
    rcases oG i with rfl|an8
    ·rw[qu]at Wz
     cases Wz
    ·obtain⟨i',rfl⟩:∃i',i=i'+1:=⟨i-1,by omega⟩
     obtain⟨m',em'⟩:∃m',ms[i']?=some m':=⟨_,aB (by omega)⟩
     rw[gv em',vC]at Wz
     have e9:m'=some k':=Wz
     rw[e9]at em'
     exact h1m hb k' (aL em')⟩
   have nn:(!decide (W5 b (some n)=V.jX))=true:=by cases b<;>rfl
   refine kO nn ?_
   refine⟨_,rfl,_,rfl,sc,_,rfl,?_⟩
   rw[eq]
   by_cases hq:(fF (ms.take i)).2=some n
   ·refine kO (aI hq) ?_
    have es:(uz (fF (ms.take i)) (some n,i)).1=Ao (fF (ms.take i)).1 i:=by
     unfold uz
     simp only
     rw[aG hq]
    obtain⟨pre,t,p1,p2⟩:=Pk (fF (ms.take i)).1 i (j1 n hq)
    have tl:t.length<=5000:=by
     have hm:t∈(fF (ms.take i)).1.map (fun t:List Nat=>t.map dn):=by rw[p1];simp
     obtain⟨t',ht',rfl⟩:=bI.mp hm
     rw[aa]
     have:=j3 t' ht'
     omega
    rw[p1]at c5
    obtain⟨Ug,p,acc,q1,q2,q3,q4,q5⟩:=c5.Rh hv
    refine⟨_,rfl,_,rfl,tk,_,_,_,rfl,rfl,cG.of q1,q2,.inl ⟨rfl,_,cG.of q3⟩,_,rfl,p,_,_,rfl,rfl,q3,big (by omega),?_⟩
    exact⟨_,rfl,fin _ (by rw[es,p2];exact q5)⟩
   ·refine iL (aH hq) ?_
    have es:(uz (fF (ms.take i)) (some n,i)).1=(fF (ms.take i)).1++[[i]]:=by
     unfold uz
     simp only
     rw[aD hq]
    refine⟨_,rfl,_,rfl,kO nn ?_⟩
    obtain⟨ys,y1,y2⟩:=c5.len
    refine⟨_,rfl,.inl ⟨rfl,_,cG.of y1⟩,_,rfl,by show 1<=aK;decide,fun q Qj=>?_⟩
    obtain⟨Ug,q1,q2,q3⟩:=c5.VJ Qj hv
    refine⟨tk,_,_,rfl,rfl,q1,by rw[q2,aa];exact big (by omega),?_⟩
    exact⟨_,rfl,fin _ (by rw[es,bu];exact q3)⟩
 ·rintro σ H' ⟨v3,v4,rfl,c⟩
  refine⟨_,rfl,k _ _ c.same htk ?_⟩
  have q:=c.done hO
  rw[lx,cU,aR]at q
  exact q
structure Ch where
 kind:Nat
 ie:List Nat
 drops:List Nat
 iC:List Nat
 prop:Nat
def chF(v1 v2 v3 v4 v5:V):List (cM×V):=[("kind",v1),("put_places",v2),("dropped_places",v3),("painted_places",v4),("painted_property",v5)]
def xP:List cM:=["kind","put_places","dropped_places","painted_places","painted_property"]
structure Bm(K:ah)(C:ak)(G:Hp)(v:V)(c:Ch):Prop where
 ex:∃a dx v2 v3 v4,v=.ref a/\G a=some (.ins C dx (chF (vn c.kind) v2 v3 v4 (vn c.prop)))/\Dx K G v2 (dH c.ie)/\Dx K G v3 (dH c.drops)/\Dx K G v4 (dH c.iC)
theorem Bm.mono{K:ah}{C:ak}:∀(G G':Hp)(v:V)(p:Ch),aQ G G'->Bm K C G v p->Bm K C G' v p:=fun G G' v p s h=>by
 obtain⟨a,dx,v2,v3,v4,e,h1,h2,h3,h4⟩:=h.ex
 exact⟨a,dx,v2,v3,v4,e,s _ _ h1,s.dp h2,s.dp h3,s.dp h4⟩
structure Dd(K:ah)(C:ak)(G:Hp)(v:V)(cs:List Ch):Prop where
 ex:∃a acc,v=.ref a/\G a=some (.lst acc)/\Al (Bm K C G) acc cs
theorem Dd.mono{K:ah}{C:ak}{G G':Hp}{v:V}{cs:List Ch}(s:aQ G G')(h:Dd K C G v cs):Dd K C G' v cs:=by
 obtain⟨a,acc,e,h1,h2⟩:=h.ex
 exact⟨a,acc,e,s _ _ h1,h2.imp fun v b h=>Bm.mono _ _ v b s h⟩
def Lu(C:ak):Sp:=fun vs H Q _=>∃x dx v1 v2 v3 v4 v5,vs=[.ref x,v1,v2,v3,v4,v5]/\H x=some (.ins C dx [])/\Q .jX (upd H x (.ins C dx (chF v1 v2 v3 v4 v5)))
theorem Lv{C:ak}(T:iO K C xP)(Df:E1 K mg C "Change" "Change.__init__" oN ["self","kind","put_places","dropped_places","painted_places","painted_property"]):t8 P w K mg base C "Change" ["self","kind","put_places","dropped_places","painted_places","painted_property"] 1 (Lu C):=by
 refine Df.ok E4 (fun vs H Q E⟨_,_,_,_,_,_,_,e,_⟩=>by rw[e];rfl) fun f iB A outer s H vs Q E hr h=>?_
 obtain⟨x,dx,v1,v2,v3,v4,v5,rfl,hx,k⟩:=h
 refine⟨_,(aC (iV (pv 0) (pv 1) rfl)
   (aC (iV (pv 0) (pv 2) rfl)
   (aC (iV (pv 0) (pv 3) rfl)
   (aC (iV (pv 0) (pv 4) rfl)
   (aJ (iV (pv 0) (pv 5) rfl)))))),?_⟩
 refine⟨_,rfl,_,rfl,x,C,dx,_,rfl,hx,T.cl,T.no _ (by decide),by simp,?_⟩
 refine⟨_,rfl,_,rfl,x,C,dx,_,rfl,aE,T.cl,T.no _ (by decide),by show 1<1000;decide,?_⟩
 refine⟨_,rfl,_,rfl,x,C,dx,_,rfl,aE,T.cl,T.no _ (by decide),by show 2<1000;decide,?_⟩
 refine⟨_,rfl,_,rfl,x,C,dx,_,rfl,aE,T.cl,T.no _ (by decide),by show 3<1000;decide,?_⟩
 refine⟨_,rfl,_,rfl,x,C,dx,_,rfl,aE,T.cl,T.no _ (by decide),by show 4<1000;decide,?_⟩
 rw[l8,l8,l8,l8]
 exact k
theorem D9{C x dx:ak}{H1:Hp}{D:ak->Bool}{c:Ch}{v2 v3 v4:V}(o:Od H1 D)(nx:H1 x=none)(nd:H1 dx=none)(ne:dx≠x)(h2:Dx K (hd H1 D) v2 (dH c.ie))(h3:Dx K (hd H1 D) v3 (dH c.drops))(h4:Dx K (hd H1 D) v4 (dH c.iC)):aQ H1 (upd (upd (upd H1 dx (.own x)) x (.ins C dx [])) x (.ins C dx (chF (vn c.kind) v2 v3 v4 (vn c.prop))))/\Bm K C (hd (upd (upd (upd H1 dx (.own x)) x (.ins C dx [])) x (.ins C dx (chF (vn c.kind) v2 v3 v4 (vn c.prop)))) D) (.ref x) c:=by
 rw[l8]
 have s:=aQ.inst (C:=C) (fs:=chF (vn c.kind) v2 v3 v4 (vn c.prop)) nx nd ne
 exact⟨s,x,dx,v2,v3,v4,rfl,iY aE (o.fresh nx),(aU s).dp h2,(aU s).dp h3,(aU s).dp h4⟩
theorem wR{H H':Hp}{a:ak}(s:aQ H H')(h:H' a=none):H a=none:=by
 cases e:H a with
 |none=>rfl
 |some o=>rw[s _ _ e]at h;cases h
def fj(ps:List Pc)(f:Nat):List (Option Nat):=ps.map fun p=>if p.eF=f then some 1 else none
def Z9(K:ah)(C:ak):Sp:=fun vs H Q _=>∃D v1 ps f,vs=[v1,vn f]/\Od H D/\pI K C (hd H D) v1 ps/\ps.length<=5000/\∀b H',aQ H H'->H b=none->Dx K (hd H' D) (.ref b) (.list ((gT (fj ps f)).map dH))->Q (.ref b) H'
theorem GH{C:ak}(G:fT K mg)(T:iO K C n9)(Df:jL K mg "fate_stretches" p6 ["row","fate"])(rQ:bG P w K mg base "stretches" ["marks"] 1 (acf K Dc)):bG P w K mg base "fate_stretches" ["row","fate"] 2 (Z9 K C):=by
 refine Df.ok sJ (fun vs H Q E⟨_,_,_,_,e,_⟩=>by rw[e];rfl) fun f iB A outer s H vs Q E hr h=>?_
 obtain⟨D,v1,ps,ft,rfl,hO,hR,np,k⟩:=h
 obtain⟨a,acc,rfl,h1,h2⟩:=hR.ex
 have l1:=h2.length
 refine⟨_,(aJ (bF (bL rQ (hr.mono (by decide)) (aj (vm (own:=[("piece",2)]) rfl sJ.nd (fE (pv 0)) (gR (by rfl)) (fun _ _ _ _ _=>(cJ (i:=2) sJ.nd rfl (by first|exact bz rfl|exact bB rfl))) (fun _ _ _ _ _=>jA) (fun _ _ _ _ _=>(CG (dB jM (bC (K:=K) rfl (pv 2) rfl) (pv 1) (dZ _)) QK xx))) aA)))),?_⟩
 refine⟨_,rfl,a,rfl,⟨_,cG.of (aq _ _ h1)⟩,fun L hL=>?_⟩
 refine sU (R:=fun G v(m:Option Nat)=>Dx K G v (mkD true m)) (fun G G' v m s h=>s.dp h) (K:=K) (D:=D) (out:=fj ps ft) hL hO (cG.of (aq _ _ h1)) (by unfold fj;rw[aa];exact l1) (nI (by unfold fj;rw[aa];omega)) (fun _=>rfl)
  (fun i x m H' D' Qe hi ho s o sd kk=>?_) fun H1 ac s1 h6 h7=>?_
 ·obtain⟨p,ep,rfl⟩:=mT ho
  obtain⟨p',Tj,hp⟩:=h2.get hi
  rw[ep]at Tj
  cases Tj
  obtain⟨b,dx,w2,w3,rfl,r1,_,_⟩:=hp.ex
  refine⟨_,rfl,b,C,dx,_,_,rfl,aq _ _ (sd _ _ r1),T.cl,T.no _ (by decide),rfl,_,rfl,rfl,_,rfl,?_⟩
  by_cases hf:p.eF=ft
  ·refine kO (aI (by rw[hf])) (kk _ _ (aQ.refl _) ?_)
   rw[aG hf]
   exact .bl true
  ·refine iL (aH fun e=>hf (pD e)) (kk _ _ (aQ.refl _) ?_)
   rw[aD hf]
   exact .jX
 ·refine⟨D,_,_,hO.mono s1,.cons (um h6 (hO.fresh hL) h7.dx) .nil,⟨true,fj ps ft,rfl,fun _ n hn=>?_,by unfold fj;rw[aa];exact np,rfl⟩,fun b H2 s2 n2 d2=>k _ _ (s1.trans s2) (wR s1 n2) d2⟩
  obtain⟨p,_,e⟩:=bI.mp hn
  split at e
  ·cases e;rfl
  ·cases e
def dR(p:Pc)(k:Nat):Option Nat:=(p.entries.find? fun e=>e.1==k).map (·.2)
def VR(K:ah)(C:ak):Sp:=fun vs H Q _=>∃D v1 p k,vs=[v1,vn k]/\xM K C (hd H D) v1 p/\Q (vo (dR p k)) H
theorem Lw{C:ak}(G:fT K mg)(T:iO K C n9)(Df:jL K mg "entry_value" uT ["piece","prop"]):bG P w K mg base "entry_value" ["piece","prop"] 1 (VR K C):=by
 refine Df.ok CZ (fun vs H Q E⟨_,_,_,_,e,_⟩=>by rw[e];rfl) fun f iB A outer s H vs Q E hr h=>?_
 obtain⟨D,v1,p,kp,rfl,hp,k⟩:=h
 obtain⟨b,dx,w2,w3,rfl,r1,r2,r3⟩:=hp.ex
 obtain⟨a,xs,rfl,h1,h2⟩:=r3.bV
 have l1:=h2.length
 rw[aa]at l1
 refine⟨_,(aC (jO cA rfl (fE (bC (K:=K) rfl (pv 0) rfl)) (cJ (i:=2) CZ.nd rfl (by first|exact bz rfl|exact bB rfl)) (aJ (eW (dB jM (eX (r:=Gi K) rD (pv 2) b9 (fun _ _=>rfl)) (pv 1) (dZ _)) (aJ (bF (eX (r:=Gi K) rD (pv 2) b9 (fun _ _=>rfl)))) cN)))
   (aJ (bF xx))),?_⟩
 refine⟨_,rfl,b,C,dx,_,_,rfl,aq _ _ r1,T.cl,T.no _ (by decide),rfl,a,rfl,⟨_,cG.of (aq _ _ h1)⟩,kq (K:=K) (a:=a) (xs:=xs)
  (fun i σ H'=>∃v2,σ=[some (.ref b),some (vn kp),v2]/\H'=H/\∀e∈p.entries.take i,e.1≠kp)
  ⟨none,rfl,rfl,fun e he=>by simp at he⟩ (fun i σ H' _⟨_,_,c,_⟩=>by rw[c];exact cG.of (aq _ _ h1)) ?_ ?_⟩
 ·rintro i y σ H' hi ⟨v2,rfl,rfl,q⟩
  obtain⟨d,e1,hy⟩:=h2.get hi
  obtain⟨e,ee,rfl⟩:=mT e1
  obtain⟨ta,txs,rfl,t1,t2⟩:=hy.DZ
  obtain⟨u1,u2,rfl,w1,w2⟩:=t2.two
  obtain rfl:=w1.int_inv
  obtain rfl:=w2.int_inv
  refine⟨_,rfl,ta,_,0,_,rfl,rfl,aq.EF t1,rfl,_,rfl,rfl,_,rfl,?_⟩
  by_cases hk:e.1=kp
  ·refine kO (aI (by rw[hk];rfl)) ?_
   have IB:i<p.entries.length:=(az.mp ee).1
   have ev:dR p kp=some e.2:=by
    unfold dR
    have sp:p.entries=p.entries.take i++e::p.entries.drop (i+1):=by rw[<-mJ ee,Em]
    rw[sp,Ji]
    have:(p.entries.take i).find? (fun e=>e.1==kp)=none:=gY.mpr fun x hx=>by
     have:=q x hx
     simpa using this
    rw[this]
    simp[hk]
   rw[ev]at k
   exact⟨_,rfl,ta,_,1,_,rfl,rfl,aq.EF t1,rfl,k⟩
  ·refine iL (aH fun q=>hk (pD q)) ?_
   refine⟨_,rfl,rfl,fun e' he'=>?_⟩
   rw[gv ee]at he'
   rcases aX.mp he' with h|h
   ·exact q e' h
   ·rw[bJ.mp h];exact hk
 ·rintro σ H' ⟨v2,rfl,rfl,q⟩
  rw[l1,cU]at q
  have ev:dR p kp=none:=by
   unfold dR
   rw[gY.mpr fun x hx=>by have:=q x hx;simpa using this]
   rfl
  rw[ev]at k
  exact k
end
def vf(k:Nat)(pl:List Nat):Ch:=⟨3,[],[],pl,k⟩
def ku(ps:List Pc)(k:Nat):List Ch:=(gT (ps.map fun p=>dR p k)).map (vf k)
def qK(ps:List Pc):List Ch:=(bK 4).flatMap (ku ps)
theorem nL(ms:List (Option Nat)):(gT ms).length<=ms.length:=(Bl ms).2.1
section
variable{P:bD}{w:cC}{K:ah}{mg:cM->Option ao}{base:cY}
structure Ez(K:ah)(C:ak)(D:ak->Bool)(H0 H:Hp)(L:ak)(cs:List Ch):Prop where
 same:j7 L H0 H
 ex:∃acc,H L=some (.lst acc)/\Al (Bm K C (hd H (ad D L))) acc cs
theorem Ez.sd{C:ak}{D:ak->Bool}{H0 H:Hp}{L:ak}{cs:List Ch}(c:Ez K C D H0 H L cs):aQ (hd H0 (ad D L)) (hd H (ad D L)):=fun b o eb=>by
 obtain⟨p1,p2⟩:=rE eb
 exact iY (c.same b o p1 (fun e=>by rw[e,fX]at p2;cases p2)) p2
theorem Ez.od{C:ak}{D:ak->Bool}{H0 H:Hp}{L:ak}{cs:List Ch}(c:Ez K C D H0 H L cs)(o:Od H0 (ad D L)):Od H (ad D L):=fun b hb hn=>by
 obtain⟨acc,h1,_⟩:=c.ex
 by_cases Z1:b=L
 ·rw[Z1,h1]at hn;cases hn
 ·cases q:H0 b with
  |none=>exact o b hb q
  |some o'=>rw[c.same b o' q Z1]at hn;cases hn
theorem Ez.skip{C:ak}{D:ak->Bool}{H0 H H':Hp}{L:ak}{cs:List Ch}(c:Ez K C D H0 H L cs)(s:aQ H H'):Ez K C D H0 H' L cs:=by
 obtain⟨acc,h1,h2⟩:=c.ex
 exact⟨c.same.trans (sx s),acc,s _ _ h1,h2.imp fun v b h=>Bm.mono _ _ v b (aU s) h⟩
theorem Ez.push{C:ak}{D:ak->Bool}{H0 H:Hp}{L:ak}{cs:List Ch}{v:V}{ch:Ch}(c:Ez K C D H0 H L cs)(hv:Bm K C (hd H (ad D L)) v ch):∃acc,H L=some (.lst acc)/\acc.length=cs.length/\Ez K C D H0 (upd H L (.lst (acc++[v]))) L (cs++[ch]):=by
 obtain⟨acc,h1,h2⟩:=c.ex
 refine⟨acc,h1,h2.length,c.same.put,acc++[v],aE,?_⟩
 rw[qk fX]
 exact h2.snoc hv
theorem Ez.len{C:ak}{D:ak->Bool}{H0 H:Hp}{L:ak}{cs:List Ch}(c:Ez K C D H0 H L cs):∃acc,H L=some (.lst acc)/\acc.length=cs.length:=by
 obtain⟨acc,h1,h2⟩:=c.ex
 exact⟨acc,h1,h2.length⟩
theorem Ez.agQ{C:ak}{D:ak->Bool}{H0 H Hh:Hp}{L:ak}{cs:List Ch}(c:Ez K C D H0 H L cs)(s:aQ Hh H0)(hL:Hh L=none):aQ Hh H:=fun b o e=>c.same b o (s b o e) (cW e hL)
def RJ(K:ah)(CP C:ak):Sp:=fun vs H Q _=>∃D v1 ps,vs=[v1]/\Od H D/\pI K CP (hd H D) v1 ps/\ps.length<=5000/\∀v H',aQ H H'->Dd K C (hd H' D) v (qK ps)->Q v H'
theorem W6{CP C:ak}(G:fT K mg)(T:iO K CP n9)(Df:jL K mg "paints" Gs ["row"])(rQ:bG P w K mg base "stretches" ["marks"] 1 (acf K Dc))(zx:bG P w K mg base "entry_value" ["piece","prop"] 1 (VR K CP))(vD:t8 P w K mg base C "Change" ["self","kind","put_places","dropped_places","painted_places","painted_property"] 1 (Lu C)):bG P w K mg base "paints" ["row"] 3 (RJ K CP C):=by
 refine Df.ok wY (fun vs H Q E⟨_,_,_,e,_⟩=>by rw[e];rfl) fun f iB A outer s H vs Q E hr h=>?_
 obtain⟨D,v1,ps,rfl,hO,hR,np,k⟩:=h
 refine⟨_,(aC (cR (i:=1) wY.nd rfl (by first|exact bz rfl|exact bB rfl) (c_ aA))
   (aC (jO cA rfl (ND rfl G.Kl (aj (bW G.E7) aA)) (cJ (i:=2) wY.nd rfl (by first|exact bz rfl|exact bB rfl)) (aJ (jO cA rfl (fE (bL rQ (hr.mono (by decide)) (aj (vm (own:=[("piece",4)]) rfl wY.nd (fE (pv 0)) (gR (by rfl)) (fun _ _ _ _ _=>(cJ (i:=4) wY.nd rfl (by first|exact bz rfl|exact bB rfl))) (fun _ _ _ _ _=>jA) (fun _ _ _ _ _=>(bL zx (hr.mono (by decide)) (aj (pv 4) (aj (pv 2) aA))))) aA))) (cJ (i:=3) wY.nd rfl (by first|exact bz rfl|exact bB rfl)) (aJ (eZ (kQ aZ cg cu iK (pv 1) (aj (qJ vD (hr.mono (by decide)) (aj (bW G.T_) (aj (c_ aA) (aj (c_ aA) (aj (pv 3) (aj (pv 2) aA)))))) aA)))))))
   (aJ (bF (pv 1))))),?_⟩
 refine⟨bE _,fun L hL=>?_⟩
 have eL:hd (upd H L (.lst [])) (ad D L)=hd H D:=by rw[qk fX,m8 hL]
 have oL:Od (upd H L (.lst [])) (ad D L):=hO.upd.ad aE
 have bound:∀n,n<=4->((bK n).flatMap (ku ps)).length<=n*5000:=by
  intro n
  induction n with
  |zero=>intro _;simp
  |succ n ih=>
   intro hn
   rw[gB,gJ,au]
   have h1:=ih (by omega)
   have h2:(ku ps n).length<=5000:=by
    unfold ku
    rw[aa]
    exact bQ (nL _) (by rw[aa];exact np)
   rw[dY,abj,cQ]
   omega
 refine⟨4,rfl,by decide,by decide,Wv (lo:=0) (n:=4) (fun i σ H'=>∃v2 v3,σ=[some v1,some (.ref L),v2,v3,none]/\Ez K C D (upd H L (.lst [])) H' L ((bK i).flatMap (ku ps)))
  ⟨none,none,rfl,fun b o e _=>e,[],aE,.nil⟩ ?_ ?_⟩
 ·rintro i σ H' hi ⟨v2,v3,rfl,c⟩
  have e0:(0:Int)+((i:Nat):Int)=((i:Nat):Int):=by omega
  rw[e0]
  have hR':pI K CP (hd H' (ad D L)) v1 ps:=pI.mono c.sd (by rw[eL];exact hR)
  obtain⟨a,acc,rfl,h1,h2⟩:=hR'.ex
  have l1:=h2.length
  have oD:=c.od oL
  have bn:=bound i (by omega)
  refine⟨_,rfl,a,rfl,⟨_,cG.of (aq _ _ h1)⟩,fun M hM=>?_⟩
  refine sU (R:=fun G v(m:Option Nat)=>Dx K G v (Cj m)) (fun G G' v m s h=>s.dp h) (K:=K) (D:=ad D L) (out:=ps.map fun p=>dR p i) hM oD (cG.of (aq _ _ h1)) (by rw[aa];exact l1) (nI (by rw[aa];omega)) (fun _=>rfl)
   (fun j x m H2 D2 Qe hj ho s o sd kk=>?_) fun H1 ac s1 h6 h7=>?_
  ·obtain⟨p,ep,rfl⟩:=mT ho
   obtain⟨p',Tj,hp⟩:=h2.get hj
   rw[ep]at Tj
   cases Tj
   refine⟨_,rfl,_,rfl,D2,x,p,i,rfl,xM.mono _ _ _ _ sd hp,kk _ _ (aQ.refl _) ?_⟩
   cases dR p i with
   |none=>exact .jX
   |some n=>exact .int _
  ·have c1:=c.skip s1
   have oD1:=oD.mono s1
   have dM:Dx K (hd H1 (ad D L)) (.ref M) (.list ((ps.map fun p=>dR p i).map (mkD false))):=(by
    have em:mkD false=Cj:=by
     funext m
     cases m<;>rfl
    rw[em]
    exact um h6 (oD.fresh hM) h7.dx)
   refine⟨ad D L,_,_,oD1,.cons dM .nil,⟨false,ps.map fun p=>dR p i,rfl,(fun e=>by cases e),(by rw[aa];exact np),rfl⟩,fun sl H2 s2 _ d2=>?_⟩
   have c2:=c1.skip s2
   obtain⟨sl',sxs,esl,q1,q2⟩:=d2.bV
   cases esl
   have lq:=q2.length
   rw[aa]at lq
   have sle:(gT (ps.map fun p=>dR p i)).length<=5000:=bQ (nL _) (by rw[aa];exact np)
   have oD2:=oD1.mono s2
   have nsl:sl≠L:=fun e=>by rw[e]at q1;have:=(rE q1).2;rw[fX]at this;cases this
   refine⟨sl,rfl,⟨_,cG.of (aq _ _ q1)⟩,kq (K:=K) (a:=sl) (xs:=sxs)
    (fun j σ H3=>∃v3,σ=[some (.ref a),some (.ref L),some (vn i),v3,none]/\Ez K C D H2 H3 L ((bK i).flatMap (ku ps)++(ku ps i).take j))
    ⟨v3,rfl,fun b o e _=>e,by rw[qu,cQ];exact c2.ex⟩ (fun j σ H3 _⟨_,_,c3⟩=>cG.of (c3.same _ _ (aq _ _ q1) nsl)) ?_ ?_⟩
   ·rintro j y σ H3 hj ⟨v3,rfl,c3⟩
    obtain⟨d,e1,hy⟩:=q2.get hj
    obtain⟨pl,Z_,rfl⟩:=mT e1
    have hj2:j<(gT (ps.map fun p=>dR p i)).length:=(az.mp Z_).1
    have hy3:=c3.sd.dp hy
    have oD3:=c3.od oD2
    obtain⟨aoc,b1,b2⟩:=c3.len
    have epc:(ku ps i)[j]?=some (vf i pl):=by unfold ku;rw[aT,Z_];rfl
    refine⟨_,rfl,.inl ⟨rfl,_,cG.of b1⟩,?_⟩
    refine⟨bE _,fun x1 GG=>⟨bE _,fun x2 Hj=>?_⟩⟩
    refine⟨_,rfl,_,rfl,?_⟩
    intro x0 GD nx nd ne
    have t1:=aQ.new (o:=.lst []) GG
    have t2:=aQ.new (o:=.lst []) Hj
    have SS:=t1.trans t2
    obtain⟨t3,t4⟩:=D9 (K:=K) (C:=C) (c:=vf i pl) (oD3.mono SS) nx nd ne ((aU t2).dp (k_ GG oD3 .nil)) (k_ Hj (oD3.mono t1) .nil) ((aU SS).dp hy3)
    obtain⟨Up,b3,b4,c4⟩:=(c3.skip (SS.trans t3)).push t4
    refine⟨x0,GD,_,_,_,_,_,rfl,aE,rfl,L,Up,_,rfl,rfl,b3,?_,?_⟩
    ·rw[b4,au,a_]
     exact big (by omega)
    ·refine⟨_,rfl,?_⟩
     rw[gv epc,<-gO]
     exact c4
   ·rintro σ H3 ⟨v3,rfl,c3⟩
    refine⟨_,_,rfl,c2.same.trans c3.same,?_⟩
    have lp:(ku ps i).length=sxs.length:=by unfold ku;rw[aa,lq]
    have q:=c3.ex
    rw[<-lp,cU]at q
    rw[gB,gJ]
    simpa using q
 ·rintro σ H' ⟨v2,v3,rfl,c⟩
  have sH:=c.agQ (aQ.new (o:=.lst []) hL) hL
  obtain⟨acc,h1,h2⟩:=c.ex
  exact⟨_,rfl,k _ _ sH ⟨L,acc,rfl,iY h1 (hO.fresh hL),h2.imp fun v b h=>Bm.mono _ _ v b wu h⟩⟩
end
def fZ:Pc:=⟨0,cO 10,[]⟩
def Jz(ps:List Pc)(i:Nat):bZ:=(ps.getD i fZ).fV
def xQ(ps:List Pc)(pl:List Nat):List bZ:=pl.map (Jz ps)
def Po(ps:List Pc):Prop:=∀p∈ps,MU p.fV
section
variable{P:bD}{w:cC}{K:ah}{mg:cM->Option ao}{base:cY}
def NZ(K:ah)(CP:ak):Sp:=fun vs H Q _=>∃D v1 v2 ps pl,vs=[v1,v2]/\Od H D/\pI K CP (hd H D) v1 ps/\Dx K (hd H D) v2 (dH pl)/\(∀i∈pl,i<ps.length)/\pl.length<=5000/\∀v H',aQ H H'->Dx K (hd H' D) v (l6 (xQ ps pl))->Q v H'
theorem M5{CP:ak}(G:fT K mg)(T:iO K CP n9)(Df:jL K mg "letters_at" wL ["row","places"]):bG P w K mg base "letters_at" ["row","places"] 1 (NZ K CP):=by
 refine Df.ok zm (fun vs H Q E⟨_,_,_,_,_,e,_⟩=>by rw[e];rfl) fun f iB A outer s H vs Q E hr h=>?_
 obtain⟨D,v1,v2,ps,pl,rfl,hO,hR,dp,wD,npl,k⟩:=h
 obtain⟨a,acc,rfl,h1,h2⟩:=hR.ex
 obtain⟨b,rfl,h3⟩:=i7 dp
 refine⟨_,(aJ (bF (vm (own:=[("place",2)]) rfl zm.nd (fE (pv 1)) (gR (by rfl)) (fun _ _ _ _ _=>(cJ (i:=2) zm.nd rfl (by first|exact bz rfl|exact bB rfl))) (fun _ _ _ _ _=>jA) (fun _ _ _ _ _=>(bC (K:=K) rfl (eX (r:=jP K) dm (pv 0) (pv 2) (fun _ _=>rfl)) rfl))))),?_⟩
 refine⟨_,rfl,b,rfl,⟨_,cG.of (aq _ _ h3)⟩,fun L hL=>?_⟩
 refine sU (R:=fun G v(m:bZ)=>Dx K G v (gS m)) (fun G G' v m s h=>s.dp h) (K:=K) (D:=D) (out:=xQ ps pl) hL hO (cG.of (aq _ _ h3)) (by unfold xQ;rw[aa,aa]) (nI (by unfold xQ;rw[aa];omega)) (fun _=>rfl)
  (fun i x m H' D' Qe hi ho s o sd kk=>?_) fun H1 ac s1 h6 h7=>k _ _ s1 (um h6 (hO.fresh hL) h7.dx)
 obtain⟨n,en,rfl⟩:=mT hi
 obtain⟨n',en',rfl⟩:=mT ho
 rw[en]at en'
 cases en'
 have hn:=wD n (aL en)
 obtain⟨u,eu,hu⟩:=h2.agy (getD_some (d:=fZ) hn)
 obtain⟨q,dx,w2,w3,rfl,r1,r2,r3⟩:=hu.ex
 exact⟨_,rfl,_,rfl,a,_,_,_,rfl,rfl,cG.of (aq _ _ (sd _ _ h1)),rG eu,q,CP,dx,_,_,rfl,aq _ _ (sd _ _ r1),T.cl,T.no _ (by decide),rfl,kk _ _ (aQ.refl _) (sd.dp r2)⟩
def IQ(ps:List Pc)(c p:List Nat):Bool:=decide (xQ ps p=xQ ps c)
def aaa(K:ah)(CP:ak):Sp:=fun vs H Q _=>∃(D:ak->Bool)(v1 v2 v3:V)(ps:List Pc)(c:List Nat)(Fi:List (List Nat)),vs=[v1,v2,v3]/\Od H D/\pI K CP (hd H D) v1 ps/\Po ps/\Dx K (hd H D) v2 (dH c)/\Dx K (hd H D) v3 (.list (Fi.map dH))/\(∀i∈c,i<ps.length)/\c.length<=5000/\(∀p∈Fi,(∀i∈p,i<ps.length)/\p.length<=5000)/\
 ∀v H',aQ H H'->(match Fi.find? (IQ ps c)with|none=>v=.jX|some p=>Dx K (hd H' D) v (dH p))->Q v H'
theorem VS{ps:List Pc}{pl:List Nat}(h:Po ps)(hl:∀i∈pl,i<ps.length):Bb (xQ ps pl):=fun x hx=>by
 obtain⟨i,hi,rfl⟩:=bI.mp hx
 unfold Jz
 rw[rm (aB (hl i hi))]
 exact h _ (kN _)
theorem M6{CP:ak}(G:fT K mg)(Df:jL K mg "first_like" wM ["row","cut_places","puts"])(wU:bG P w K mg base "letters_at" ["row","places"] 1 (NZ K CP)):bG P w K mg base "first_like" ["row","cut_places","puts"] 2 (aaa K CP):=by
 refine Df.ok zo (fun vs H Q E⟨_,_,_,_,_,_,_,e,_⟩=>by rw[e];rfl) fun f iB A outer s H vs Q E hr h=>?_
 obtain⟨D,v1,v2,v3,ps,c,Fi,rfl,hO,hR,kR,dc,dp,hc,nc,hp,k⟩:=h
 obtain⟨b,xs,rfl,h1,h2⟩:=dp.bV
 have l1:=h2.length
 rw[aa]at l1
 refine⟨_,(aC (cR (i:=3) zo.nd rfl (by first|exact bz rfl|exact bB rfl) (bL wU (hr.mono (by decide)) (aj (pv 0) (aj (pv 1) aA))))
   (aC (jO cA rfl (fE (pv 2)) (cJ (i:=4) zo.nd rfl (by first|exact bz rfl|exact bB rfl)) (aJ (eW (dB (r:=abK K) (TZ hr.units) (bL wU (hr.mono (by decide)) (aj (pv 0) (aj (pv 4) aA))) (pv 3) (dZ _)) (aJ (bF (pv 4))) cN)))
   (aJ (bF xx)))),?_⟩
 refine⟨_,rfl,_,rfl,D,_,_,ps,c,rfl,hO,hR,dc,hc,nc,fun v4 H1 s1 d1=>?_⟩
 have o1:=hO.mono s1
 refine⟨_,rfl,b,rfl,⟨_,cG.of (s1 _ _ (aq _ _ h1))⟩,kq (K:=K) (a:=b) (xs:=xs)
  (fun i σ H'=>∃v5,σ=[some v1,some v2,some (.ref b),some v4,v5]/\aQ H1 H'/\∀p∈Fi.take i,IQ ps c p=false)
  ⟨none,rfl,aQ.refl _,fun p hp=>by simp at hp⟩ (fun i σ H' _⟨_,_,s',_⟩=>cG.of (s' _ _ (s1 _ _ (aq _ _ h1)))) ?_ ?_⟩
 ·rintro i y σ H' hi ⟨v5,rfl,s',q⟩
  obtain⟨d,e1,hy⟩:=h2.get hi
  obtain⟨p,ep,rfl⟩:=mT e1
  have hm:=aL ep
  have s01:=s1.trans s'
  have o2:=hO.mono s01
  refine⟨_,rfl,_,rfl,D,_,_,ps,p,rfl,o2,hR.mono (aU s01),(aU s01).dp hy,(hp p hm).1,(hp p hm).2,fun u H2 s2 d2=>?_⟩
  refine⟨_,rfl,_,_,(aq.dp d2).dp,(aq.dp ((aU (s'.trans s2)).dp d1)).dp,IG _,IG _,_,rfl,?_⟩
  rw[ZD (VS kR (hp p hm).1) (VS kR hc)]
  by_cases he:xQ ps p=xQ ps c
  ·refine kO (aI he) ⟨_,rfl,k _ _ (s01.trans s2) ?_⟩
   have IB:i<Fi.length:=(az.mp ep).1
   have sp:Fi=Fi.take i++p::Fi.drop (i+1):=by rw[<-mJ ep,Em]
   have ef:Fi.find? (IQ ps c)=some p:=by
    rw[sp,Ji,gY.mpr fun x hx=>by rw[q x hx];exact aF]
    have:IQ ps c p=true:=aI he
    simp[this]
   rw[ef]
   exact(aU (s01.trans s2)).dp hy
  ·refine iL (aH he) ⟨_,rfl,s'.trans s2,fun p' hp'=>?_⟩
   rw[gv ep]at hp'
   rcases aX.mp hp' with h|h
   ·exact q p' h
   ·rw[bJ.mp h]
    exact aH he
 ·rintro σ H' ⟨v5,rfl,s',q⟩
  rw[l1,cU]at q
  refine k _ _ (s1.trans s') ?_
  rw[gY.mpr fun x hx=>by rw[q x hx];exact aF]
def IS(l:List Nat):Nat:=l.foldl min (l.headD 0)
theorem RK:∀(l:List Nat)(a:Nat),(∀x∈l,l.foldl min a<=x)/\l.foldl min a<=a/\(l.foldl min a=a\/l.foldl min a∈l)
 |[],a=>⟨fun x h=>by simp at h,aV _,.inl rfl⟩
 |b::l,a=>by
  rw[g9]
  obtain⟨h1,h2,h3⟩:=RK l (min a b)
  refine⟨fun x hx=>?_,by omega,?_⟩
  ·rcases aW.mp hx with rfl|hx
   ·omega
   ·exact h1 x hx
  ·rcases h3 with h3|h3
   ·rw[h3]
    rcases Nat.le_total a b with h|h
    ·left;omega
    ·right;rw[show min a b=b by omega];simp
   ·right;simp[h3]
theorem VT{l:List Nat}(h:l≠[]):IS l∈l/\∀x∈l,IS l<=x:=by
 cases l with
 |nil=>exact absurd rfl h
 |cons a l=>
  obtain⟨h1,h2,h3⟩:=RK (a::l) a
  refine⟨?_,h1⟩
  rcases h3 with h3|h3
  ·show(a::l).foldl min a∈_
   rw[h3];simp
  ·exact h3
def mK(c:Ch):List Nat:=c.ie++c.drops++c.iC
def De(c:Ch):Int×Int:=((IS (mK c):Nat),(c.prop:Nat))
def aab(K:ah)(C:ak):Sp:=fun vs H Q _=>∃D v1 c,vs=[v1]/\Od H D/\Bm K C (hd H D) v1 c/\mK c≠[]/\(mK c).length<=20000/\∀t H',aQ H H'->H' t=some (.tup [.int (De c).1,.int (De c).2])->Q (.ref t) H'
theorem acg{C:ak}(G:fT K mg)(T:iO K C xP)(Df:jL K mg "rank" OW ["change"]):bG P w K mg base "rank" ["change"] 1 (aab K C):=by
 refine Df.ok ab0 (fun vs H Q E⟨_,_,_,e,_⟩=>by rw[e];rfl) fun f iB A outer s H vs Q E hr h=>?_
 obtain⟨D,v1,c,rfl,hO,hc,qI,hl,k⟩:=h
 obtain⟨a,dx,w2,w3,w4,rfl,r1,r2,r3,r4⟩:=hc.ex
 obtain⟨b2,rfl,z2⟩:=i7 r2
 obtain⟨b3,rfl,z3⟩:=i7 r3
 obtain⟨b4,rfl,z4⟩:=i7 r4
 unfold mK at hl
 rw[au,au]at hl
 refine⟨_,(aJ (bF (CM (aj (cS (r:=afZ K) (aee rfl) (by rfl) G.agn boot_min (aj (jx uh (jx uh (bC (K:=K) rfl (pv 0) rfl) (bC (K:=K) rfl (pv 0) rfl)) (bC (K:=K) rfl (pv 0) rfl)) aA)) (aj (bC (K:=K) rfl (pv 0) rfl) aA))))),?_⟩
 refine⟨_,rfl,a,C,dx,_,_,rfl,aq _ _ r1,T.cl,T.no _ (by decide),rfl,_,rfl,a,C,dx,_,_,rfl,aq _ _ r1,T.cl,T.no _ (by decide),rfl,b2,b3,_,_,rfl,rfl,aq _ _ z2,aq _ _ z3,nI (by rw[aa,aa];omega),fun x1 GG=>?_⟩
 have t1:=aQ.new (o:=.lst (c.ie.map vn++c.drops.map vn)) GG
 refine⟨_,rfl,a,C,dx,_,_,rfl,t1 _ _ (aq _ _ r1),T.cl,T.no _ (by decide),rfl,x1,b4,_,_,rfl,rfl,aE,t1 _ _ (aq _ _ z4),nI (by rw[au,aa,aa,aa];omega),fun x2 Hj=>?_⟩
 have t2:=aQ.new (o:=.lst (c.ie.map vn++c.drops.map vn++c.iC.map vn)) Hj
 have ev:c.ie.map vn++c.drops.map vn++c.iC.map vn=((mK c).map fun n:Nat=>(n:Int)).map V.int:=by
  unfold mK
  rw[bu,bu,bu,bu,aR,aR,aR]
  rfl
 refine⟨x2,(mK c).map fun n:Nat=>(n:Int),rfl,cG.of (by rw[aE,ev]),?_,fun m hm aeK=>?_⟩
 ·rw[aa]
  exact XM.mpr qI
 ·obtain⟨m1,m2⟩:=VT qI
  obtain⟨n,hn,rfl⟩:=bI.mp hm
  have e1:n=IS (mK c):=by
   have h1:=m2 n hn
   have h2:=aeK ((IS (mK c):Nat):Int) (bI.mpr ⟨_,m1,rfl⟩)
   omega
  subst e1
  refine⟨_,rfl,a,C,dx,_,_,rfl,t2 _ _ (t1 _ _ (aq _ _ r1)),T.cl,T.no _ (by decide),rfl,by show 2<=aK;decide,fun q hq=>?_⟩
  exact k q _ ((t1.trans t2).trans (aQ.new hq)) aE
end
def Aq(c:List Nat):Ch:=⟨2,[],c,[],0⟩
def yO(p:List Nat):Ch:=⟨1,p,[],[],0⟩
def zy(p c:List Nat):Ch:=⟨4,p,c,[],0⟩
def JA(ps:List Pc)(least:Nat)(Fi:List (List Nat))(c:List Nat):Option (List Nat):=if(decide (1<=least)&&decide (least<=c.length))=true then Fi.find? (IQ ps c)else none
def jF(ps:List Pc)(least:Nat)(st:List Ch×List (List Nat))(c:List Nat):List Ch×List (List Nat):=match JA ps least st.2 c with
 |none=>(st.1++[Aq c],st.2)
 |some p=>(st.1++[zy p c],st.2.erase p)
def Dg(ps:List Pc)(least:Nat)(tX ie:List (List Nat)):List Ch×List (List Nat):=tX.foldl (jF ps least) ([],ie)
def JB(ps:List Pc)(least:Nat):List Ch:=let st:=Dg ps least (gT (fj ps 1)) (gT (fj ps 2));st.1++st.2.map yO
theorem Uq(ms:List (Option Nat)):∀t∈(fF ms).1,t≠[]/\∀i∈t,i<ms.length/\∃n,ms[i]?=some (some n):=by
 refine C_ (P:=fun ms=>∀t∈(fF ms).1,t≠[]/\∀i∈t,i<ms.length/\∃n,ms[i]?=some (some n)) (fun t h=>(by simp[fF]at h)) (fun l m h=>?_) ms
 have up:∀i,(i<l.length/\∃n,l[i]?=some (some n))->i<(l++[m]).length/\∃n,(l++[m])[i]?=some (some n):=fun i⟨h1,n,h2⟩=>⟨by rw[au];omega,n,by rw[dD h1];exact h2⟩
 rw[vC]
 unfold uz
 simp only
 intro t ht
 cases m with
 |none=>
  obtain⟨a,b⟩:=h t ht
  exact⟨a,fun i hi=>up i (b i hi)⟩
 |some n=>
  have last:l.length<(l++[some n]).length/\∃n',(l++[some n])[l.length]?=some (some n'):=⟨by simp,n,by simp⟩
  simp only at ht
  split at ht
  ·rename_i hq
   have qI:=(Bl l).1 n hq
   obtain⟨qs,p,ep⟩:∃qs p,(fF l).1=qs++[p]:=⟨_,_,(fJ qI).symm⟩
   rw[ep,vd]at ht
   rw[ep]at h
   rcases aX.mp ht with ht|ht
   ·obtain⟨a,b⟩:=h t (by simp[ht])
    exact⟨a,fun i hi=>up i (b i hi)⟩
   ·rw[bJ.mp ht]
    refine⟨by simp,fun i hi=>?_⟩
    rcases aX.mp hi with hi|hi
    ·exact up i ((h p (by simp)).2 i hi)
    ·rw[bJ.mp hi];exact last
  ·rcases aX.mp ht with ht|ht
   ·obtain⟨a,b⟩:=h t ht
    exact⟨a,fun i hi=>up i (b i hi)⟩
   ·rw[bJ.mp ht]
    refine⟨by simp,fun i hi=>?_⟩
    rw[bJ.mp hi];exact last
theorem IT(ps:List Pc)(f:Nat)(np:ps.length<=5000):∀t∈gT (fj ps f),(∀i∈t,i<ps.length)/\t.length<=5000:=by
 intro t ht
 have l:(fj ps f).length=ps.length:=by unfold fj;simp
 refine⟨fun i hi=>?_,?_⟩
 ·rw[<-l];exact((Uq _ t ht).2 i hi).1
 ·have:=(Bl (fj ps f)).2.2 t ht
  omega
section
variable{P:bD}{w:cC}{K:ah}{mg:cM->Option ao}{base:cY}
structure EA(K:ah)(C:ak)(D:ak->Bool)(H0 H:Hp)(L pb:ak)(cs:List Ch)(Fi:List (List Nat)):Prop where
 same:∀b o,H0 b=some o->b≠L->b≠pb->H b=some o
 exL:∃acc,H L=some (.lst acc)/\Al (Bm K C (hd H (ad (ad D L) pb))) acc cs
 exP:∃xs,H pb=some (.lst xs)/\bN K (hd H (ad (ad D L) pb)) xs (Fi.map dH)
section
variable{C:ak}{D:ak->Bool}{H0 H H':Hp}{L pb:ak}{cs:List Ch}{Fi:List (List Nat)}
theorem EA.sd(c:EA K C D H0 H L pb cs Fi):aQ (hd H0 (ad (ad D L) pb)) (hd H (ad (ad D L) pb)):=fun b o eb=>by
 obtain⟨p1,p2⟩:=rE eb
 exact iY (c.same b o p1 (fun e=>by rw[e,zf fX]at p2;cases p2) (fun e=>by rw[e,fX]at p2;cases p2)) p2
theorem EA.od(c:EA K C D H0 H L pb cs Fi)(o:Od H0 (ad (ad D L) pb)):Od H (ad (ad D L) pb):=fun b hb hn=>by
 obtain⟨acc,h1,_⟩:=c.exL
 obtain⟨xs,h2,_⟩:=c.exP
 by_cases Z1:b=L
 ·rw[Z1,h1]at hn;cases hn
 ·by_cases hbp:b=pb
  ·rw[hbp,h2]at hn;cases hn
  ·cases q:H0 b with
   |none=>exact o b hb q
   |some o'=>rw[c.same b o' q Z1 hbp]at hn;cases hn
theorem EA.skip(c:EA K C D H0 H L pb cs Fi)(s:aQ H H'):EA K C D H0 H' L pb cs Fi:=by
 obtain⟨acc,h1,h2⟩:=c.exL
 obtain⟨xs,h3,h4⟩:=c.exP
 exact⟨fun b o e n m=>s _ _ (c.same b o e n m),⟨acc,s _ _ h1,h2.imp fun v b h=>Bm.mono _ _ v b (aU s) h⟩,xs,s _ _ h3,(aU s).EG h4⟩
theorem EA.push{v:V}{ch:Ch}(c:EA K C D H0 H L pb cs Fi)(nLp:L≠pb)(hv:Bm K C (hd H (ad (ad D L) pb)) v ch):∃acc,H L=some (.lst acc)/\acc.length=cs.length/\EA K C D H0 (upd H L (.lst (acc++[v]))) L pb (cs++[ch]) Fi:=by
 obtain⟨acc,h1,h2⟩:=c.exL
 obtain⟨xs,h3,h4⟩:=c.exP
 have e:hd (upd H L (.lst (acc++[v]))) (ad (ad D L) pb)=hd H (ad (ad D L) pb):=qk (zf fX)
 refine⟨acc,h1,h2.length,fun b o e n m=>by rw[bY n];exact c.same b o e n m,⟨acc++[v],aE,?_⟩,xs,by rw[bY (iG nLp)];exact h3,by rw[e];exact h4⟩
 rw[e]
 exact h2.snoc hv
theorem N1{p:List Nat}:∀{l:List (List Nat)},p∈l->l.eraseIdx (l.idxOf p)=l.erase p
 |[],h=>by simp at h
 |q::l,h=>by
  rw[oZ,MB]
  by_cases e:(q==p)=true
  ·rw[e];simp
  ·have e':(q==p)=false:=by simpa using e
   rw[e']
   simp only[kU,if_false,cond_false]
   rw[Cd,N1 (l:=l) (by
    rcases aW.mp h with h|h
    ·rw[h]at e;simp at e
    ·exact h)]
theorem bN.erase{K:ah}{G:Hp}:∀{vs:List V}{ds:List bf}(i:Nat),bN K G vs ds->bN K G (vs.eraseIdx i) (ds.eraseIdx i)
 |_,_,_,.nil=>.nil
 |_,_,0,.cons _ t=>t
 |_,_,i+1,.cons h t=>.cons h (bN.erase i t)
end
def aad(K:ah)(CP C:ak):Sp:=fun vs H Q _=>∃D v1 ps least,vs=[v1,vn least]/\Od H D/\pI K CP (hd H D) v1 ps/\Po ps/\ps.length<=5000/\∀v H',aQ H H'->Dd K C (hd H' D) v (JB ps least)->Q v H'
theorem Fj(ps:List Pc)(least:Nat):∀(tX:List (List Nat))(st:List Ch×List (List Nat)),(tX.foldl (jF ps least) st).1.length=st.1.length+tX.length/\(tX.foldl (jF ps least) st).2.length<=st.2.length/\(∀p∈(tX.foldl (jF ps least) st).2,p∈st.2)
 |[],st=>⟨rfl,aV _,fun p h=>h⟩
 |c::r,st=>by
  rw[g9]
  obtain⟨h1,h2,h3⟩:=Fj ps least r (jF ps least st c)
  have hs:(jF ps least st c).1.length=st.1.length+1/\(jF ps least st c).2.length<=st.2.length/\∀p∈(jF ps least st c).2,p∈st.2:=by
   unfold jF
   split
   ·exact⟨by simp,aV _,fun p h=>h⟩
   ·exact⟨by simp,List.length_erase_le,fun p h=>List.mem_of_mem_erase h⟩
  refine⟨by rw[h1,hs.1,br];omega,bQ h2 hs.2.1,fun p hp=>hs.2.2 p (h3 p hp)⟩
end
def xf(ms:List (Option Nat))(i:Nat):Option Nat:=ms.getD i none
theorem sV{ms r:List (Option Nat)}{i:Nat}(h:i<ms.length):xf (ms++r) i=xf ms i:=by
 unfold xf
 rw[aO,aO,dD h]
theorem kC{ms:List (Option Nat)}{m:Option Nat}:xf (ms++[m]) ms.length=m:=by
 unfold xf
 rw[aO,d_ (aV _)]
 simp
def fz(ms:List (Option Nat)):Nat->Nat
 |0=>0
 |i+1=>if xf ms (i+1)=xf ms i then fz ms i else i+1
theorem Ar(ms:List (Option Nat)):∀i,fz ms i<=i
 |0=>aV _
 |i+1=>by
  unfold fz
  split
  ·exact abk (Ar ms i)
  ·exact aV _
theorem nM{ms r:List (Option Nat)}:∀{i:Nat},i<ms.length->fz (ms++r) i=fz ms i
 |0,_=>rfl
 |i+1,h=>by
  unfold fz
  rw[sV h,sV (abm h),nM (abm h)]
theorem Lx(ms:List (Option Nat)):∀i,fz ms (fz ms i)=fz ms i
 |0=>rfl
 |i+1=>by
  by_cases h:xf ms (i+1)=xf ms i
  ·have e:fz ms (i+1)=fz ms i:=by rw[fz,aG h]
   rw[e];exact Lx ms i
  ·have e:fz ms (i+1)=i+1:=by rw[fz,aD h]
   rw[e,e]
theorem Ly(ms:List (Option Nat)):∀i,xf ms (fz ms i)=xf ms i
 |0=>rfl
 |i+1=>by
  by_cases h:xf ms (i+1)=xf ms i
  ·have e:fz ms (i+1)=fz ms i:=by rw[fz,aG h]
   rw[e,Ly ms i,h]
  ·have e:fz ms (i+1)=i+1:=by rw[fz,aD h]
   rw[e]
theorem Fl{ms:List (Option Nat)}{i:Nat}(h:xf ms (i+1)=xf ms i):fz ms (i+1)=fz ms i:=by rw[fz,aG h]
theorem HU{ms:List (Option Nat)}{i:Nat}(h:xf ms (i+1)≠xf ms i):fz ms (i+1)=i+1:=by rw[fz,aD h]
def mU(ms:List (Option Nat))(s:Nat):Bool:=(xf ms s).isSome&&decide (fz ms s=s)
def rH(ms:List (Option Nat)):List Nat:=(bK ms.length).filter (mU ms)
def ql(ms:List (Option Nat))(s i:Nat):Bool:=(xf ms i).isSome&&decide (fz ms i=s)
def run(ms:List (Option Nat))(s:Nat):List Nat:=(bK ms.length).filter (ql ms s)
theorem N2{ms r:List (Option Nat)}{i:Nat}(h:i<ms.length):mU (ms++r) i=mU ms i:=by
 unfold mU;rw[sV h,nM h]
theorem Ur{ms r:List (Option Nat)}{s i:Nat}(h:i<ms.length):ql (ms++r) s i=ql ms s i:=by
 unfold ql;rw[sV h,nM h]
theorem yP(ms:List (Option Nat))(m:Option Nat):rH (ms++[m])=rH ms++(if mU (ms++[m]) ms.length=true then [ms.length]else []):=by
 unfold rH
 rw[au,cZ,gB,sf,cK,DW]
 congr 1
 ·exact e_ fun i hi=>N2 (cH.mp hi)
theorem Dh(ms:List (Option Nat))(m:Option Nat)(s:Nat):run (ms++[m]) s=run ms s++(if ql (ms++[m]) s ms.length=true then [ms.length]else []):=by
 unfold run
 rw[au,cZ,gB,sf,cK,DW]
 congr 1
 ·exact e_ fun i hi=>Ur (cH.mp hi)
theorem Us{ms:List (Option Nat)}{s:Nat}:s∈rH ms↔s<ms.length/\mU ms s=true:=by
 unfold rH;rw[cP,cH]
theorem ach{ms:List (Option Nat)}{s i:Nat}:i∈run ms s↔i<ms.length/\ql ms s i=true:=by
 unfold run;rw[cP,cH]
theorem Pp(ms:List (Option Nat)):(rH ms).Nodup:=gP eV Ky
theorem RL(ms:List (Option Nat)):(fF ms).1=(rH ms).map (run ms)/\(fF ms).2=(if ms.length=0 then none else xf ms (ms.length-1))/\(∀i,ms.length=i+1->(xf ms i).isSome=true->∃pre,rH ms=pre++[fz ms i]):=by
 refine C_ (P:=fun ms=>(fF ms).1=(rH ms).map (run ms)/\(fF ms).2=(if ms.length=0 then none else xf ms (ms.length-1))/\(∀i,ms.length=i+1->(xf ms i).isSome=true->∃pre,rH ms=pre++[fz ms i])) ⟨rfl,rfl,fun i h=>by simp at h⟩ (fun l m⟨h1,h2,h3⟩=>?_) ms
 have hl:(l++[m]).length=l.length+1:=by simp
 rw[vC]
 have aeM:(uz (fF l) (m,l.length)).2=(if(l++[m]).length=0 then none else xf (l++[m]) ((l++[m]).length-1)):=by
  rw[hl,aD (by omega),oJ,kC]
  rfl
 refine⟨?_,aeM,?_⟩
 ·cases m with
  |none=>
   have e1:mU (l++[none]) l.length=false:=by unfold mU;rw[kC];rfl
   rw[yP,e1,aD aF,cQ]
   show(fF l).1=_
   rw[h1]
   refine bA fun s hs=>?_
   rw[Dh]
   have e2:ql (l++[none]) s l.length=false:=by unfold ql;rw[kC];rfl
   rw[e2,aD aF,cQ]
  |some n=>
   have e0:(uz (fF l) (some n,l.length)).1=if(fF l).2=some n then Ao (fF l).1 l.length else(fF l).1++[[l.length]]:=rfl
   rw[e0]
   by_cases hq:(fF l).2=some n
   ·rw[aG hq]
    rw[h2]at hq
    have hl0:l.length≠0:=fun e=>by rw[aG e]at hq;cases hq
    rw[aD hl0]at hq
    obtain⟨j,ej⟩:∃j,l.length=j+1:=⟨l.length-1,by omega⟩
    have hj:xf l j=some n:=by rw[ej]at hq;exact hq
    obtain⟨pre,ep⟩:=h3 j ej (by rw[hj];rfl)
    have hm:xf (l++[some n]) (j+1)=xf (l++[some n]) j:=by
     rw[<-ej,kC,sV (by omega),hj]
    have er:fz (l++[some n]) l.length=fz l j:=by
     rw[ej,Fl hm,nM (by omega)]
    have e1:mU (l++[some n]) l.length=false:=by
     unfold mU
     rw[er,aH (by have:=Ar l j;omega),kT]
    rw[yP,e1,aD aF,cQ,h1,ep,bu,bu,sr,sr,vd]
    have nd:=Pp l
    rw[ep]at nd
    congr 1
    ·refine bA fun s hs=>?_
     rw[Dh]
     have ne:fz l j≠s:=fun e=>by
      rw[t_]at nd
      exact nd.2.2 s hs (fz l j) (by simp) e.symm
     have e2:ql (l++[some n]) s l.length=false:=by unfold ql;rw[er,aH ne,kT]
     rw[e2,aD aF,cQ]
    ·rw[Dh]
     have e2:ql (l++[some n]) (fz l j) l.length=true:=by unfold ql;rw[er,kC,aI rfl];rfl
     rw[e2,aG rfl]
   ·rw[aD hq]
    have er:fz (l++[some n]) l.length=l.length:=by
     rcases oG l.length with e|e
     ·rw[e];rfl
     ·obtain⟨j,ej⟩:∃j,l.length=j+1:=⟨l.length-1,by omega⟩
      rw[ej]
      refine HU fun e'=>hq ?_
      rw[<-ej,kC,sV (by omega)]at e'
      rw[h2,aD (by omega),ej,oJ,<-e']
    have e1:mU (l++[some n]) l.length=true:=by unfold mU;rw[er,kC,aI rfl];rfl
    rw[yP,e1,aG rfl,bu,sr,h1]
    congr 1
    ·refine bA fun s hs=>?_
     rw[Dh]
     have e2:ql (l++[some n]) s l.length=false:=by
      unfold ql
      rw[er,aH (fun e=>by rw[<-e]at hs;have:=(Us.mp hs).1;omega),kT]
     rw[e2,aD aF,cQ]
    ·rw[Dh]
     have e2:ql (l++[some n]) l.length l.length=true:=by unfold ql;rw[er,kC,aI rfl];rfl
     have e3:run l l.length=[]:=kh.mpr fun i hi=>by
      have:=cH.mp hi
      have h':=Ar l i
      unfold ql
      rw[aH (by omega),kT]
      exact aF
     rw[e2,aG rfl,e3]
     rfl
 ·intro i hi hm
  have:i=l.length:=by omega
  subst this
  rw[kC]at hm
  rw[yP]
  by_cases e:fz (l++[m]) l.length=l.length
  ·have e1:mU (l++[m]) l.length=true:=by unfold mU;rw[e,kC,hm,aI rfl];rfl
   rw[e1,aG rfl,e]
   exact⟨_,rfl⟩
  ·have e1:mU (l++[m]) l.length=false:=by unfold mU;rw[aH e,kT]
   rw[e1,aD aF,cQ]
   obtain⟨j,ej⟩:∃j,l.length=j+1:=⟨l.length-1,by
    have:l.length≠0:=fun e0=>e (by rw[e0];rfl)
    omega⟩
   have hs:xf (l++[m]) (j+1)=xf (l++[m]) j:=by
    refine yl fun hn=>e ?_
    rw[ej]
    exact HU hn
   rw[ej,Fl hs,nM (by omega)]
   refine h3 j ej ?_
   rw[<-ej,kC,sV (by omega)]at hs
   rw[<-hs];exact hm
theorem Lz(ms:List (Option Nat)):gT ms=(rH ms).map (run ms):=(RL ms).1
theorem Ut{ms:List (Option Nat)}{i:Nat}(h:(xf ms i).isSome=true):mU ms (fz ms i)=true:=by
 unfold mU
 rw[Ly,h,Lx,aI rfl]
 rfl
open Vatrka (props has)
abbrev Cr:=Nat×Nat×Nat
def Qp(p:Pc)(t:Nat×Nat):Option Nat:=if t.1=3 then dR p t.2 else if p.eF=3-t.1 then some 1 else none
def n_(ps:List Pc)(t:Nat×Nat):List (Option Nat):=ps.map fun p=>Qp p t
theorem sW(ps:List Pc)(t:Nat×Nat):(n_ ps t).length=ps.length:=aa _
theorem vE(ps:List Pc)(p:Pc)(t:Nat×Nat):n_ (ps++[p]) t=n_ ps t++[Qp p t]:=by unfold n_;rw[bu];rfl
theorem nN{ps:List Pc}{t:Nat×Nat}{i:Nat}{p:Pc}(h:ps[i]?=some p):xf (n_ ps t) i=Qp p t:=by
 unfold xf n_
 rw[aO,aT,h]
 rfl
def slots:List (Nat×Nat):=[(1,0),(2,0),(3,0),(3,1),(3,2),(3,3)]
def kD(ps:List Pc)(i:Nat):List Cr:=(slots.filter fun t=>mU (n_ ps t) i).map fun t=>(i,t)
def bT(ps:List Pc):List Cr:=(bK ps.length).flatMap (kD ps)
theorem M7{ps:List Pc}{p:Pc}{i:Nat}(h:i<ps.length):kD (ps++[p]) i=kD ps i:=by
 unfold kD
 congr 1
 exact e_ fun t _=>by rw[vE,N2 (by rw[sW];exact h)]
theorem kE{α β:Type}{f g:α->List β}:∀{l:List α},(∀x∈l,f x=g x)->l.flatMap f=l.flatMap g
 |[],_=>rfl
 |x::l,h=>by rw[dY,dY,h x (by simp),kE fun y hy=>h y (by simp[hy])]
theorem As(ps:List Pc)(p:Pc):bT (ps++[p])=bT ps++kD (ps++[p]) ps.length:=by
 unfold bT
 rw[au,cZ,gB,gJ,jm]
 congr 1
 exact kE fun i hi=>M7 (cH.mp hi)
theorem Bo{ps:List Pc}{i:Nat}{x:Cr}:x∈kD ps i↔x.1=i/\x.2∈slots/\mU (n_ ps x.2) i=true:=by
 unfold kD
 rw[bI]
 constructor
 ·rintro⟨t,ht,rfl⟩
  rw[cP]at ht
  exact⟨rfl,ht.1,ht.2⟩
 ·rintro⟨rfl,h2,h3⟩
  exact⟨x.2,cP.mpr ⟨h2,h3⟩,rfl⟩
theorem xR{ps:List Pc}{x:Cr}:x∈bT ps↔x.1<ps.length/\x.2∈slots/\mU (n_ ps x.2) x.1=true:=by
 unfold bT
 rw[qG]
 constructor
 ·rintro⟨i,hi,hx⟩
  obtain⟨rfl,h2,h3⟩:=Bo.mp hx
  exact⟨cH.mp hi,h2,h3⟩
 ·rintro⟨h1,h2,h3⟩
  exact⟨x.1,cH.mpr h1,Bo.mpr ⟨rfl,h2,h3⟩⟩
theorem Bp{ps:List Pc}{t:Nat×Nat}{i:Nat}(ht:t∈slots)(hi:i<ps.length)(hm:(xf (n_ ps t) i).isSome=true):(fz (n_ ps t) i,t)∈bT ps:=
 xR.mpr ⟨jJ (Ar _ _) hi,ht,Ut hm⟩
def EJ(p:Pc):List (Nat×Nat):=(props.filter fun k=>(dR p k).isSome).map fun k=>(k,(dR p k).getD 0)
def jn(p:Pc):Prop:=(p.eF=0/\p.entries=EJ p)\/((p.eF=1\/p.eF=2)/\p.entries=[])
theorem GI{p:Pc}(h:p.entries=[])(k:Nat):dR p k=none:=by unfold dR;rw[h];rfl
theorem W7{p:Pc}{e:Nat×Nat}(h:e∈EJ p):e.1∈props/\dR p e.1=some e.2:=by
 obtain⟨k,hk,rfl⟩:=bI.mp h
 obtain⟨h1,h2⟩:=cP.mp hk
 refine⟨h1,?_⟩
 obtain⟨v,hv⟩:=lT.mp h2
 simp only
 rw[hv];rfl
theorem iP{p:Pc}(hp:jn p){e:Nat×Nat}(h:e∈p.entries):p.eF=0/\e.1∈props/\dR p e.1=some e.2:=by
 rcases hp with⟨h0,hc⟩|⟨_,hc⟩
 ·rw[hc]at h;exact⟨h0,W7 h⟩
 ·rw[hc]at h;simp at h
theorem zz{p:Pc}{k v:Nat}(h:dR p k=some v):(k,v)∈p.entries:=by
 unfold dR at h
 obtain⟨e,he,rfl⟩:=jf.mp h
 have h1:=fD he
 have h2:=jY he
 have:e.1=k:=by simpa using h2
 rw[<-this];exact h1
theorem IU{k:Nat}:(3,k)∈slots↔k∈props:=by
 unfold slots props
 simp
theorem LA:slots=(1,0)::(2,0)::props.map (fun k=>(3,k)):=rfl
theorem uA{ps:List Pc}{p:Pc}{t:Nat×Nat}(h:Qp p t=none):mU (n_ (ps++[p]) t) ps.length=false:=by
 unfold mU
 rw[vE,<-sW ps t,kC,h]
 rfl
theorem IV{ps:List Pc}{p:Pc}(hf:p.eF=1)(he:p.entries=[]):kD (ps++[p]) ps.length=if mU (n_ (ps++[p]) (2,0)) ps.length=true then [(ps.length,2,0)]else []:=by
 unfold kD
 rw[LA]
 have a1:mU (n_ (ps++[p]) (1,0)) ps.length=false:=uA (by unfold Qp;rw[aD (by decide),aD (by rw[hf];decide)])
 have a3:((props.map fun k=>((3,k):Nat×Nat)).filter fun t=>mU (n_ (ps++[p]) t) ps.length)=[]:=kh.mpr fun t ht=>by
  obtain⟨k,_,rfl⟩:=bI.mp ht
  rw[uA (by unfold Qp;rw[aG rfl];exact GI he k)]
  exact aF
 rw[cK,a1,aD aF,cK,a3]
 split<;>rfl
theorem LB{ps:List Pc}{p:Pc}(hf:p.eF=2)(he:p.entries=[]):kD (ps++[p]) ps.length=if mU (n_ (ps++[p]) (1,0)) ps.length=true then [(ps.length,1,0)]else []:=by
 unfold kD
 rw[LA]
 have a1:mU (n_ (ps++[p]) (2,0)) ps.length=false:=uA (by unfold Qp;rw[aD (by decide),aD (by rw[hf];decide)])
 have a3:((props.map fun k=>((3,k):Nat×Nat)).filter fun t=>mU (n_ (ps++[p]) t) ps.length)=[]:=kh.mpr fun t ht=>by
  obtain⟨k,_,rfl⟩:=bI.mp ht
  rw[uA (by unfold Qp;rw[aG rfl];exact GI he k)]
  exact aF
 rw[cK,cK,a1,a3]
 split<;>rfl
theorem IW{ps:List Pc}{p:Pc}(hf:p.eF=0)(he:p.entries=EJ p):kD (ps++[p]) ps.length=(p.entries.filter fun e=>mU (n_ (ps++[p]) (3,e.1)) ps.length).map fun e=>(ps.length,3,e.1):=by
 unfold kD
 rw[LA]
 have a1:mU (n_ (ps++[p]) (1,0)) ps.length=false:=uA (by unfold Qp;rw[aD (by decide),aD (by rw[hf];decide)])
 have a2:mU (n_ (ps++[p]) (2,0)) ps.length=false:=uA (by unfold Qp;rw[aD (by decide),aD (by rw[hf];decide)])
 rw[cK,a1,aD aF,cK,a2,aD aF,he]
 unfold EJ
 rw[g_,g_,aR,aR,Yc]
 refine congrArg _ (e_ fun k _=>?_)
 simp only[MC]
 cases hv:dR p k with
 |none=>
  rw[uA (by unfold Qp;rw[aG rfl];exact hv)]
  rfl
 |some v=>simp
def no(S:List Cr)(x:Cr):Nat:=S.idxOf x+1
def iS(ps:List Pc)(S:List Cr)(i:Nat):nY:=
 {sign:=(ps.getD i fZ).fV.sign,look:=(ps.getD i fZ).fV.look,
  ins:=if(ps.getD i fZ).eF=2 then [no S (fz (n_ ps (1,0)) i,1,0)]else [],
  del:=if(ps.getD i fZ).eF=1 then [no S (fz (n_ ps (2,0)) i,2,0)]else [],
  pend:=(ps.getD i fZ).entries.map fun e=>{change:=no S (fz (n_ ps (3,e.1)) i,3,e.1),prop:=e.1,value:=e.2}}
def ir(ps:List Pc):List nY:=(bK ps.length).map (iS ps (bT ps))
theorem Kn{S T:List Cr}{x:Cr}(h:x∈S):no (S++T) x=no S x:=by
 unfold no
 rw[aa2,aG h]
theorem RM{S T:List Cr}{x:Cr}(h:x∉S):no (S++T) x=S.length+no T x:=by
 unfold no
 rw[aa2,aD h]
 omega
theorem VU{α β:Type}[BEq α][LawfulBEq α][BEq β][LawfulBEq β]{f:α->β}{a:α}:∀{l:List α},(∀b∈l,f b=f a->b=a)->(l.map f).idxOf (f a)=l.idxOf a
 |[],_=>rfl
 |b::l,h=>by
  rw[bg,oZ,oZ,VU fun c hc=>h c (by simp[hc])]
  by_cases e:b=a
  ·subst e;simp
  ·have e':f b≠f a:=fun q=>e (h b (by simp) q)
   rw[h_ e,h_ e']
theorem W8{ps r:List Pc}{i:Nat}(h:i<ps.length):(ps++r).getD i fZ=ps.getD i fZ:=by
 rw[aO,aO,dD h]
theorem Bq{ps:List Pc}{p:Pc}:(ps++[p]).getD ps.length fZ=p:=by
 rw[aO];simp
theorem iT{ps:List Pc}{i:Nat}(h:i<ps.length):ps[i]?=some (ps.getD i fZ):=by
 rw[aO,aB h];rfl
theorem uB{p:Pc}:Qp p (2,0)=if p.eF=1 then some 1 else none:=rfl
theorem uC{p:Pc}:Qp p (1,0)=if p.eF=2 then some 1 else none:=rfl
theorem Di{p:Pc}{k:Nat}:Qp p (3,k)=dR p k:=rfl
theorem Pq{ps:List Pc}{p:Pc}(dz:∀q∈ps,jn q){i:Nat}(h:i<ps.length):iS (ps++[p]) (bT (ps++[p])) i=iS ps (bT ps) i:=by
 have hl:∀t,i<(n_ ps t).length:=fun t=>by rw[sW];exact h
 have hq:=iT h
 unfold iS
 rw[W8 h,As]
 congr 1
 ·split
  ·rename_i hf
   rw[vE,nM (hl _),Kn (Bp (by decide) h (by rw[nN hq,uC,aG hf];rfl))]
  ·rfl
 ·split
  ·rename_i hf
   rw[vE,nM (hl _),Kn (Bp (by decide) h (by rw[nN hq,uB,aG hf];rfl))]
  ·rfl
 ·refine bA fun e he=>?_
  obtain⟨_,h1,h2⟩:=iP (dz _ (aL hq)) he
  rw[vE,nM (hl _),Kn (Bp (IU.mpr h1) h (by rw[nN hq,Di,h2];rfl))]
theorem Fo{ps:List Pc}{p:Pc}(dz:∀q∈ps,jn q):ir (ps++[p])=ir ps++[iS (ps++[p]) (bT (ps++[p])) ps.length]:=by
 unfold ir
 rw[au,cZ,gB,bu,sr]
 congr 1
 exact bA fun i hi=>Pq dz (cH.mp hi)
def sY(uD:List fW):List (Nat×Nat)->List Nat->List fW×List Nat
 |[],kinds=>([],kinds)
 |e::r,kinds=>match uD.find? fun x=>x.prop==e.1&&x.value==e.2 with
  |some x=>let z:=sY uD r kinds;(x::z.1,z.2)
  |none=>let z:=sY uD r (kinds++[3]);({change:=kinds.length+1,prop:=e.1,value:=e.2}::z.1,z.2)
theorem Br(uD:List fW)(x y:bZ):∀(ks kinds:List Nat),entries uD x y ks kinds=sY uD ((ks.filter fun k=> !(x.look.getD k 0==y.look.getD k 0)).map fun k=>(k,y.look.getD k 0)) kinds
 |[],kinds=>rfl
 |k::r,kinds=>by
  rw[Vatrkf.entries,cK]
  by_cases h:x.look.getD k 0=y.look.getD k 0
  ·have hb:(!(x.look.getD k 0==y.look.getD k 0))=false:=by rw[h,dW];rfl
   rw[aG h,hb,aD aF]
   exact Br uD x y r kinds
  ·have hb:(!(x.look.getD k 0==y.look.getD k 0))=true:=by simpa using h
   rw[aD h,hb,aG rfl,bg,sY]
   cases hf:uD.find? fun e=>e.prop==k&&e.value==y.look.getD k 0 with
   |some e=>
    simp only
    rw[Br uD x y r]
   |none=>
    simp only
    rw[Br uD x y r]
def sZ(w:Mm)(p:Pc):Mm:=if p.eF=1 then aa3 w p.fV else if p.eF=2 then putOne w p.fV else
 {row:=w.row++[{sign:=p.fV.sign,look:=p.fV.look,pend:=(sY (ym w).pend p.entries w.kinds).1}],kinds:=(sY (ym w).pend p.entries w.kinds).2}
theorem LC(w:Mm)(z:bZ×bZ):keepOne w z.1 z.2=sZ w (uy z):=by
 unfold keepOne sZ uy kY
 rw[aD (show¬(0:Nat)=1 by decide),aD (show¬(0:Nat)=2 by decide)]
 simp only
 rw[Br]
theorem RN(w:Mm)(st:pU):walkStep w st=(pH st).foldl sZ w:=by
 cases st with
 |keep a b=>
  show(a.zip b).foldl (fun v x=>keepOne v x.1 x.2) w=((a.zip b).map uy).foldl sZ w
  rw[EW]
  congr 1
  funext v z
  exact LC v z
 |drop a=>
  show a.foldl aa3 w=(a.map (Fg 1)).foldl sZ w
  rw[EW]
  congr 1
 |put b=>
  show b.foldl putOne w=(b.map (Fg 2)).foldl sZ w
  rw[EW]
  congr 1
theorem GJ:∀(steps:List pU)(w:Mm),steps.foldl walkStep w=(steps.flatMap pH).foldl sZ w
 |[],w=>rfl
 |st::r,w=>by rw[g9,dY,lV,RN,GJ r]
def aae:Mm:={row:=[],kinds:=[]}
theorem W9(steps:List pU)(o n:bZ):walked steps o n=(xN steps o n).foldl sZ aae:=by
 unfold walked xN
 rw[lV,GJ]
 exact LC _ (o,n)
theorem Dj{uD:List fW}(g:Nat×Nat->Option fW):∀(es:List (Nat×Nat))(kinds:List Nat),es.Nodup->(∀e∈es,(uD.find? fun x=>x.prop==e.1&&x.value==e.2)=g e)->
  sY uD es kinds=(es.map (fun e=>match g e with|some x=>x|none=>{change:=kinds.length+((es.filter fun e=>(g e).isNone).idxOf e+1),prop:=e.1,value:=e.2}),kinds++(es.filter fun e=>(g e).isNone).map fun _=>3)
 |[],kinds,_,_=>by simp[sY]
 |e::r,kinds,hnd,hg=>by
  have aeN:=gA.mp hnd
  have he:=hg e (by simp)
  rw[sY,he]
  cases hge:g e with
  |some x=>
   simp only
   rw[Dj g r kinds aeN.2 fun e' h'=>hg e' (by simp[h'])]
   rw[cK,hge]
   simp[hge]
  |none=>
   simp only
   rw[Dj g r (kinds++[3]) aeN.2 fun e' h'=>hg e' (by simp[h'])]
   rw[cK,hge]
   simp only[Option.isNone_none,if_true,bg,hge]
   refine yX ?_ (by simp)
   simp only
   congr 1
   ·congr 1
    rw[Wh]
   ·refine bA fun e' h'=>?_
    cases hg':g e' with
    |some x=>rfl
    |none=>
     simp only
     congr 1
     have ne:e≠e':=fun q=>aeN.1 (q▸h')
     rw[oZ,h_ ne,au,cZ]
     simp only[cond_false]
     omega
theorem Uu{l:List Pc}{p:Pc}{t:Nat×Nat}{v:Nat}(hv:Qp p t=some v)(h:∀j,l.length=j+1->xf (n_ l t) j≠some v):fz (n_ (l++[p]) t) l.length=l.length/\mU (n_ (l++[p]) t) l.length=true:=by
 have e:fz (n_ (l++[p]) t) l.length=l.length:=by
  rcases oG l.length with e|e
  ·rw[e];rfl
  ·obtain⟨j,ej⟩:∃j,l.length=j+1:=⟨l.length-1,by omega⟩
   rw[ej]
   refine HU fun e'=>h j ej ?_
   have hl:=sW l t
   rw[vE,<-ej,<-hl,kC,sV (by omega),hv]at e'
   exact e'.symm
 refine⟨e,?_⟩
 unfold mU
 rw[e,vE,<-sW l t,kC,hv,aI rfl]
 rfl
theorem Uv{l:List Pc}{p:Pc}{t:Nat×Nat}{v j:Nat}(hv:Qp p t=some v)(hj:l.length=j+1)(h:xf (n_ l t) j=some v):fz (n_ (l++[p]) t) l.length=fz (n_ l t) j/\mU (n_ (l++[p]) t) l.length=false:=by
 have hl:=sW l t
 have e:fz (n_ (l++[p]) t) l.length=fz (n_ l t) j:=by
  rw[hj,vE,Fl (by rw[<-hj,<-hl,kC,sV (by omega),hv,h]),nM (by omega)]
 refine⟨e,?_⟩
 unfold mU
 have:=Ar (n_ l t) j
 rw[e,aH (by omega),kT]
theorem Uw{l:List Pc}{x:Cr}(h:x∈bT l):x.1<l.length:=(xR.mp h).1
theorem aaf{l:List Pc}{t:Nat×Nat}:no (bT l++[(l.length,t)]) (l.length,t)=(bT l).length+1:=by
 rw[RM fun h=>gI _ (Uw h)]
 unfold no
 rw[Wh]
theorem xS{l:List Pc}{w:Mm}(h:w.row=ir l)(e:l.length=0):ym w={sign:=vj,look:=Vatrka.zeroLook}:=by
 unfold ym
 rw[h]
 unfold ir
 rw[e]
 rfl
theorem pK{l:List Pc}{w:Mm}{j:Nat}(h:w.row=ir l)(e:l.length=j+1):ym w=iS l (bT l) j:=by
 unfold ym
 rw[h]
 unfold ir
 rw[e,gB,bu,sr,List.getLast?_append]
 rfl
theorem Dk(p:Pc):(EJ p).Nodup:=by
 unfold EJ
 refine wB _ (fun a b(h:a≠b)=>fun e=>h (eN e).1) ?_
 exact gP eV (by decide:props.Nodup)
theorem W_{p:Pc}(hp:jn p)(f:Nat->Nat)(k v:Nat):((p.entries.map fun e=>({change:=f e.1,prop:=e.1,value:=e.2}:fW)).find? fun x=>x.prop==k&&x.value==v)=if dR p k=some v then some {change:=f k,prop:=k,value:=v}else none:=by
 rw[Ow]
 by_cases h:dR p k=some v
 ·rw[aG h]
  have hm:=zz h
  cases hf:p.entries.find? ((fun x:fW=>x.prop==k&&x.value==v)∘fun e=>{change:=f e.1,prop:=e.1,value:=e.2})with
  |none=>
   have:=gY.mp hf (k,v) hm
   simp at this
  |some e=>
   have h1:=jY hf
   simp only[MC,bx,i_]at h1
   obtain⟨h2,h3⟩:=h1
   rw[ow,h2,h3]
 ·rw[aD h]
  cases hf:p.entries.find? ((fun x:fW=>x.prop==k&&x.value==v)∘fun e=>{change:=f e.1,prop:=e.1,value:=e.2})with
  |none=>rfl
  |some e=>
   have h1:=jY hf
   simp only[MC,bx,i_]at h1
   have h2:=(iP hp (fD hf)).2.2
   rw[h1.1,h1.2]at h2
   exact absurd h2 h
theorem Xa{l:List Pc}{p:Pc}(dz:∀q∈l,jn q)(hf:p.eF=1)(he:p.entries=[]):aa3 {row:=ir l,kinds:=(bT l).map (·.2.1)} p.fV={row:=ir (l++[p]),kinds:=(bT (l++[p])).map (·.2.1)}:=by
 have hv:Qp p (2,0)=some 1:=by rw[uB,aG hf]
 have hpc:iS (l++[p]) (bT (l++[p])) l.length={sign:=p.fV.sign,look:=p.fV.look,del:=[no (bT (l++[p])) (fz (n_ (l++[p]) (2,0)) l.length,2,0)]}:=by
  unfold iS
  rw[Bq,aD (by omega),aG hf,he]
  rfl
 rw[Fo dz,hpc,As,IV hf he]
 by_cases hex:∃j,l.length=j+1/\xf (n_ l (2,0)) j=some 1
 ·obtain⟨j,hj,hm⟩:=hex
  obtain⟨e1,e2⟩:=Uv hv hj hm
  have hjl:j<l.length:=by omega
  have fq:(l.getD j fZ).eF=1:=by
   rw[nN (iT hjl),uB]at hm
   exact yl fun hn=>by rw[aD hn]at hm;cases hm
  rw[e1,e2,aD aF,cQ]
  unfold aa3
  rw[pK (l:=l) rfl hj]
  unfold iS
  rw[aD (show¬(l.getD j fZ).eF=2 by omega),aG fq]
 ·have hn:∀j,l.length=j+1->xf (n_ l (2,0)) j≠some 1:=fun j hj hm=>hex ⟨j,hj,hm⟩
  obtain⟨e1,e2⟩:=Uu hv hn
  rw[e1,e2,aG rfl,aaf,bu]
  have hd:(ym {row:=ir l,kinds:=(bT l).map (·.2.1)}).del=[]:=by
   rcases oG l.length with e|e
   ·rw[xS (l:=l) rfl e]
   ·obtain⟨j,ej⟩:∃j,l.length=j+1:=⟨l.length-1,by omega⟩
    rw[pK (l:=l) rfl ej]
    have hjl:j<l.length:=by omega
    unfold iS
    rw[aD fun(q:(l.getD j fZ).eF=1)=>hn j ej (by rw[nN (iT hjl),uB,aG q])]
  unfold aa3
  rw[hd]
  simp only[aa]
  rfl
theorem aag{l:List Pc}{p:Pc}(dz:∀q∈l,jn q)(hf:p.eF=2)(he:p.entries=[]):putOne {row:=ir l,kinds:=(bT l).map (·.2.1)} p.fV={row:=ir (l++[p]),kinds:=(bT (l++[p])).map (·.2.1)}:=by
 have hv:Qp p (1,0)=some 1:=by rw[uC,aG hf]
 have hpc:iS (l++[p]) (bT (l++[p])) l.length={sign:=p.fV.sign,look:=p.fV.look,ins:=[no (bT (l++[p])) (fz (n_ (l++[p]) (1,0)) l.length,1,0)]}:=by
  unfold iS
  rw[Bq,aD (show¬p.eF=1 by omega),aG hf,he]
  rfl
 rw[Fo dz,hpc,As,LB hf he]
 by_cases hex:∃j,l.length=j+1/\xf (n_ l (1,0)) j=some 1
 ·obtain⟨j,hj,hm⟩:=hex
  obtain⟨e1,e2⟩:=Uv hv hj hm
  have hjl:j<l.length:=by omega
  have fq:(l.getD j fZ).eF=2:=by
   rw[nN (iT hjl),uC]at hm
   exact yl fun hn=>by rw[aD hn]at hm;cases hm
  rw[e1,e2,aD aF,cQ]
  unfold putOne
  rw[pK (l:=l) rfl hj]
  unfold iS
  rw[aG fq]
 ·have hn:∀j,l.length=j+1->xf (n_ l (1,0)) j≠some 1:=fun j hj hm=>hex ⟨j,hj,hm⟩
  obtain⟨e1,e2⟩:=Uu hv hn
  rw[e1,e2,aG rfl,aaf,bu]
  have hd:(ym {row:=ir l,kinds:=(bT l).map (·.2.1)}).ins=[]:=by
   rcases oG l.length with e|e
   ·rw[xS (l:=l) rfl e]
   ·obtain⟨j,ej⟩:∃j,l.length=j+1:=⟨l.length-1,by omega⟩
    rw[pK (l:=l) rfl ej]
    have hjl:j<l.length:=by omega
    unfold iS
    rw[aD fun(q:(l.getD j fZ).eF=2)=>hn j ej (by rw[nN (iT hjl),uC,aG q])]
  unfold putOne
  rw[hd]
  simp only[aa]
  rfl
def vP(l:List Pc)(e:Nat×Nat):Option fW:=if l.length=0 then none else if xf (n_ l (3,e.1)) (l.length-1)=some e.2 then some {change:=no (bT l) (fz (n_ l (3,e.1)) (l.length-1),3,e.1),prop:=e.1,value:=e.2}else none
theorem RO{l:List Pc}(dz:∀q∈l,jn q)(e:Nat×Nat):((ym {row:=ir l,kinds:=(bT l).map (·.2.1)}).pend.find? fun x=>x.prop==e.1&&x.value==e.2)=vP l e:=by
 unfold vP
 rcases oG l.length with h|h
 ·rw[xS (l:=l) rfl h,aG h]
  rfl
 ·obtain⟨j,ej⟩:∃j,l.length=j+1:=⟨l.length-1,by omega⟩
  have hjl:j<l.length:=by omega
  rw[pK (l:=l) rfl ej,aD (by omega)]
  have ej':l.length-1=j:=by omega
  rw[ej',nN (iT hjl),Di]
  exact W_ (dz _ (aL (iT hjl))) (fun k=>no (bT l) (fz (n_ l (3,k)) j,3,k)) e.1 e.2
theorem Xb{l:List Pc}{p:Pc}(dz:∀q∈l,jn q)(hf:p.eF=0)(he:p.entries=EJ p):sZ {row:=ir l,kinds:=(bT l).map (·.2.1)} p={row:=ir (l++[p]),kinds:=(bT (l++[p])).map (·.2.1)}:=by
 have hp:jn p:=.inl ⟨hf,he⟩
 unfold sZ
 rw[aD (by omega),aD (by omega)]
 rw[Dj (vP l) p.entries _ (by rw[he];exact Dk p) fun e _=>RO dz e]
 have lQ:∀e∈p.entries,(vP l e).isNone=mU (n_ (l++[p]) (3,e.1)) l.length/\(∀x,vP l e=some x->x={change:=no (bT l) (fz (n_ (l++[p]) (3,e.1)) l.length,3,e.1),prop:=e.1,value:=e.2}/\(fz (n_ (l++[p]) (3,e.1)) l.length,3,e.1)∈bT l)/\(vP l e=none->fz (n_ (l++[p]) (3,e.1)) l.length=l.length):=by
  intro e hm
  obtain⟨_,h1,h2⟩:=iP hp hm
  by_cases hex:∃j,l.length=j+1/\xf (n_ l (3,e.1)) j=some e.2
  ·obtain⟨j,hj,hmj⟩:=hex
   obtain⟨e1,e2⟩:=Uv (p:=p) (by rw[Di];exact h2) hj hmj
   have hg:vP l e=some {change:=no (bT l) (fz (n_ l (3,e.1)) j,3,e.1),prop:=e.1,value:=e.2}:=by
    unfold vP
    have ej':l.length-1=j:=by omega
    rw[aD (by omega),ej',aG hmj]
   rw[hg,e1,e2]
   refine⟨rfl,fun x hx=>⟨(bH hx).symm,Bp (IU.mpr h1) (by omega) (by rw[hmj];rfl)⟩,fun h=>by cases h⟩
  ·have hn:∀j,l.length=j+1->xf (n_ l (3,e.1)) j≠some e.2:=fun j hj hm=>hex ⟨j,hj,hm⟩
   obtain⟨e1,e2⟩:=Uu (p:=p) (by rw[Di];exact h2) hn
   have hg:vP l e=none:=by
    unfold vP
    by_cases h0:l.length=0
    ·rw[aG h0]
    ·rw[aD h0,aD (hn _ (by omega))]
   rw[hg,e2]
   exact⟨rfl,fun x hx=>(by cases hx),fun _=>e1⟩
 have hfl:(p.entries.filter fun e=>(vP l e).isNone)=p.entries.filter fun e=>mU (n_ (l++[p]) (3,e.1)) l.length:=e_ fun e hm=>(lQ e hm).1
 have hnd:p.entries.Nodup:=by rw[he];exact Dk p
 rw[Fo dz,As,IW hf he]
 congr 1
 ·congr 1
  unfold iS
  rw[Bq,aD (by omega),aD (by omega)]
  simp only
  congr 2
  refine bA fun e hm=>?_
  obtain⟨g1,g2,g3⟩:=lQ e hm
  cases hg:vP l e with
  |some x=>
   obtain⟨rfl,g4⟩:=g2 x hg
   simp only
   rw[Kn g4]
  |none=>
   have er:=g3 hg
   simp only
   rw[er,RM fun h=>gI _ (Uw h),aa]
   congr 2
   unfold no
   rw[hfl]
   congr 1
   exact(VU (f:=fun e:Nat×Nat=>((l.length,3,e.1):Cr)) (a:=e) fun b hb hq=>by
    have e1:b.1=e.1:=(eN (eN hq).2).2
    have q1:=(iP hp (cP.mp hb).1).2.2
    have q2:=(iP hp hm).2.2
    rw[e1,q2]at q1
    exact yX e1 (bH q1).symm).symm
 ·rw[bu,aR,hfl]
  rfl
theorem aci(ps:List Pc):(∀p∈ps,jn p)->ps.foldl sZ aae={row:=ir ps,kinds:=(bT ps).map (·.2.1)}:=by
 refine C_ (P:=fun ps=>(∀p∈ps,jn p)->ps.foldl sZ aae={row:=ir ps,kinds:=(bT ps).map (·.2.1)}) (fun _=>rfl) (fun l p ih dz=>?_) ps
 have Ux:∀q∈l,jn q:=fun q hq=>dz q (by simp[hq])
 rw[lV,ih Ux,g9,List.foldl_nil]
 rcases dz p (by simp)with⟨h0,hc⟩|⟨h1|h1,hc⟩
 ·exact Xb Ux h0 hc
 ·rw[<-Xa Ux h1 hc]
  unfold sZ
  rw[aG h1]
 ·rw[<-aag Ux h1 hc]
  unfold sZ
  rw[aD (by omega),aG h1]
open Vatrka (props has)
def Uy(x y:Cr):Prop:=x.1<y.1\/(x.1=y.1/\x.2.2<y.2.2)
theorem JC{ps:List Pc}{p:Pc}(hp:jn p):(kD (ps++[p]) ps.length).Pairwise Uy:=by
 rcases hp with⟨h0,hc⟩|⟨h1|h1,hc⟩
 ·rw[IW h0 hc]
  refine wB (R:=fun a b:Nat×Nat=>a.1<b.1) _ (fun a b h=>.inr ⟨rfl,h⟩) ?_
  refine Ab eV ?_
  rw[hc]
  unfold EJ
  refine wB (R:=fun a b:Nat=>a<b) _ (fun a b h=>h) ?_
  exact Ab eV (by decide)
 ·rw[IV h1 hc]
  split
  ·exact tU _ _
  ·exact dQ
 ·rw[LB h1 hc]
  split
  ·exact tU _ _
  ·exact dQ
theorem Dl(ps:List Pc):(∀p∈ps,jn p)->(bT ps).Pairwise Uy:=by
 refine C_ (P:=fun ps=>(∀p∈ps,jn p)->(bT ps).Pairwise Uy) (fun _=>dQ) (fun l p ih dz=>?_) ps
 rw[As,List.pairwise_append]
 refine⟨ih fun q hq=>dz q (by simp[hq]),JC (dz p (by simp)),fun x hx y hy=>.inl ?_⟩
 rw[(Bo.mp hy).1]
 exact Uw hx
theorem Uz(x:Cr):¬Uy x x:=fun h=>by rcases h with h|⟨_,h⟩<;>exact gI _ h
theorem Bs{ps:List Pc}(dz:∀p∈ps,jn p):(bT ps).Nodup:=
 (Dl ps dz).imp fun h e=>by rw[e]at h;exact Uz _ h
def lG(n:Nat):List Nat:=(bK n).map fun i=>i+1
theorem vF{n c:Nat}:c∈lG n↔1<=c/\c<=n:=by
 unfold lG
 rw[bI]
 constructor
 ·rintro⟨i,hi,rfl⟩
  have:=cH.mp hi
  omega
 ·rintro⟨h1,h2⟩
  exact⟨c-1,cH.mpr (by omega),by omega⟩
theorem Dm(n:Nat):(lG n).Pairwise (·<·):=by
 unfold lG
 exact wB _ (fun a b(h:a<b)=>by omega) S6
theorem Fp(n:Nat):(lG n).Nodup:=(Dm n).imp fun h=>d8 h
def tg(S:List Cr)(c:Nat):Cr:=S.getD (c-1) (0,0,0)
section
variable{S:List Cr}
theorem HV{c:Nat}(h:c∈lG S.length):S[c-1]?=some (tg S c):=by
 have:=vF.mp h
 unfold tg
 rw[aO,aB (by omega)]
 rfl
theorem zA{c:Nat}(h:c∈lG S.length):tg S c∈S:=aL (HV h)
theorem aah{x:Cr}(h:x∈S):no S x∈lG S.length:=by
 have:=yq h
 unfold no
 exact vF.mpr ⟨by omega,by omega⟩
theorem aai{x:Cr}(h:x∈S):tg S (no S x)=x:=by
 have hl:=yq h
 unfold tg no
 rw[oJ,aO,aB hl]
 exact Yd hl
theorem aaj(hS:S.Nodup){c d:Nat}(hc:c∈lG S.length)(hd:d∈lG S.length)(h:tg S c=tg S d):c=d:=by
 have h1:=HV hc
 have h2:=HV hd
 have b1:=vF.mp hc
 have b2:=vF.mp hd
 rw[h,<-h2]at h1
 have:=(Jj (by omega) hS).mp h1
 omega
theorem ado(hS:S.Nodup){c:Nat}(hc:c∈lG S.length):no S (tg S c)=c:=aaj hS (aah (zA hc)) hc (aai (zA hc))
theorem aak(hS:S.Nodup){c:Nat}{x:Cr}(hx:x∈S)(hc:c∈lG S.length):no S x=c↔x=tg S c:=
 ⟨fun h=>by rw[<-h,aai hx],fun h=>by rw[h,ado hS hc]⟩
theorem RP(S:List Cr):(lG S.length).map (tg S)=S:=by
 refine ud fun i=>?_
 unfold lG
 rw[aR,aT]
 by_cases h:i<S.length
 ·rw[mW h]
  show some (S.getD (i+1-1) _)=_
  rw[oJ,aO,aB h]
  rfl
 ·rw[fu (by rw[eK];omega),fu (by omega)]
  rfl
theorem RQ(S:List Cr)(p:Cr->Bool):((lG S.length).filter fun c=>p (tg S c)).map (tg S)=S.filter p:=by
 conv=>rhs;rw[<-RP S]
 rw[g_]
 rfl
theorem adp(hs:S.Pairwise Uy){c d:Nat}(hc:c∈lG S.length)(hd:d∈lG S.length)(h:c<d):Uy (tg S c) (tg S d):=by
 have b1:=vF.mp hc
 have b2:=vF.mp hd
 have h1:=HV hc
 have h2:=HV hd
 obtain⟨l1,e1⟩:=az.mp h1
 obtain⟨l2,e2⟩:=az.mp h2
 rw[<-e1,<-e2]
 exact qO.mp hs _ _ l1 l2 (by omega)
end
theorem UA{l:List (Nat×Nat)}{t:Nat×Nat}(f:Nat×Nat->Bool)(hn:l.Nodup)(ht:t∈l):(l.filter f).filter (fun u=>decide (u=t))=if f t=true then [t]else []:=by
 induction l with
 |nil=>simp at ht
 |cons a l ih=>
  obtain⟨h1,h2⟩:=gA.mp hn
  by_cases e:a=t
  ·subst e
   have hr:(l.filter f).filter (fun u=>decide (u=a))=[]:=kh.mpr fun u hu=>by
    have:=(cP.mp hu).1
    simpa using fun q:u=a=>h1 (q▸this)
   rw[cK]
   split
   ·rw[cK,aI rfl,aG rfl,hr]
   ·exact hr
  ·have ht':t∈l:=by
    rcases aW.mp ht with h|h
    ·exact absurd h.symm e
    ·exact h
   rw[cK]
   split
   ·rw[cK,aH e,aD aF]
    exact ih h2 ht'
   ·exact ih h2 ht'
theorem Dn{α β:Type}(f:α->List β)(p:β->Bool):∀l:List α,(l.flatMap f).filter p=l.flatMap fun x=>(f x).filter p
 |[]=>rfl
 |x::l=>by rw[dY,sf,Dn f p l,dY]
theorem LD{β:Type}(f:Nat->Bool)(g:Nat->β):∀l:List Nat,(l.flatMap fun i=>if f i=true then [g i]else [])=(l.filter f).map g
 |[]=>rfl
 |x::l=>by
  rw[dY,LD f g l,cK]
  split<;>rfl
theorem Xc(ps:List Pc){t:Nat×Nat}(ht:t∈slots):(bT ps).filter (fun x=>decide (x.2=t))=(rH (n_ ps t)).map fun s=>(s,t):=by
 unfold bT rH
 rw[Dn,sW]
 rw[<-LD (mU (n_ ps t)) (fun s=>((s,t):Cr))]
 refine kE fun i _=>?_
 unfold kD
 rw[g_]
 have:((fun x:Cr=>decide (x.2=t))∘fun t=>(i,t))=fun u=>decide (u=t):=rfl
 rw[this,UA _ (by decide) ht]
 split<;>rfl
def GK(ps:List Pc)(x:Cr):List Nat:=run (n_ ps x.2) x.1
def M8(ps:List Pc)(x:Cr):Ch:=if x.2.1=1 then yO (GK ps x)else if x.2.1=2 then Aq (GK ps x)else vf x.2.2 (GK ps x)
def mz(ps:List Pc)(c:Nat):List Nat:=GK ps (tg (bT ps) c)
def cX(ps:List Pc)(t:Nat×Nat):List Nat:=(lG (bT ps).length).filter fun c=>decide ((tg (bT ps) c).2=t)
theorem xT(ps:List Pc){t:Nat×Nat}(ht:t∈slots):gT (n_ ps t)=(cX ps t).map (mz ps):=by
 rw[Lz]
 have h:=Xc ps ht
 rw[<-RQ]at h
 have e:(rH (n_ ps t)).map (run (n_ ps t))=((rH (n_ ps t)).map fun s=>((s,t):Cr)).map (GK ps):=by rw[aR];rfl
 rw[e,<-h,aR]
 rfl
theorem aal(ps:List Pc):fj ps 1=n_ ps (2,0):=rfl
theorem aam(ps:List Pc):fj ps 2=n_ ps (1,0):=rfl
theorem GN{ps:List Pc}{x:Cr}{i:Nat}:i∈GK ps x↔i<ps.length/\(xf (n_ ps x.2) i).isSome=true/\fz (n_ ps x.2) i=x.1:=by
 unfold GK
 rw[ach,sW]
 unfold ql
 rw[bx,aM]
theorem xg{ps:List Pc}{x:Cr}(h:x∈bT ps):x.1∈GK ps x:=by
 obtain⟨h1,h2,h3⟩:=xR.mp h
 unfold mU at h3
 rw[bx,aM]at h3
 exact GN.mpr ⟨h1,h3.1,h3.2⟩
theorem xU{ps:List Pc}{x:Cr}{i:Nat}(h:i∈GK ps x):x.1<=i:=by
 obtain⟨h1,h2,h3⟩:=GN.mp h
 rw[<-h3];exact Ar _ _
theorem UB(ps:List Pc)(x:Cr):(GK ps x).Nodup:=gP eV Ky
theorem UC{l:List Nat}{a:Nat}(h1:a∈l)(h2:∀x∈l,a<=x):IS l=a:=by
 obtain⟨m1,m2⟩:=VT (l:=l) (fun e=>by rw[e]at h1;simp at h1)
 have:=m2 a h1
 have:=h2 _ m1
 omega
def Pr(ps:List Pc)(i:Nat):Nat×List Nat:=((ps.getD i fZ).fV.sign,(ps.getD i fZ).fV.look)
theorem Bt(m c:Nat):has [m] c=decide (m=c):=by
 unfold has
 rw[kF,S7,jK]
 by_cases h:m=c
 ·rw[aI h,h,dW]
 ·rw[aH h,h_ h]
theorem M9{ps:List Pc}(dz:∀p∈ps,jn p){c:Nat}(hc:c∈cX ps (2,0)):cutLetters (ir ps) c=(mz ps c).map (Pr ps):=by
 obtain⟨h1,h2⟩:=cP.mp hc
 have h2:(tg (bT ps) c).2=(2,0):=f9 h2
 have hS:=Bs dz
 unfold cutLetters ir mz GK run
 rw[g_,aR,h2,sW]
 have hf:(bK ps.length).filter ((fun x:nY=>has x.del c)∘iS ps (bT ps))=(bK ps.length).filter (ql (n_ ps (2,0)) (tg (bT ps) c).1):=by
  refine e_ fun i hi=>?_
  have hi:=cH.mp hi
  show has (if(ps.getD i fZ).eF=1 then [no (bT ps) (fz (n_ ps (2,0)) i,2,0)]else []) c=_
  unfold ql
  rw[nN (iT hi),uB]
  by_cases hf:(ps.getD i fZ).eF=1
  ·rw[aG hf,aG hf,Bt]
   have ht:=Bp (ps:=ps) (t:=(2,0)) (i:=i) (by decide) hi (by rw[nN (iT hi),uB,aG hf];rfl)
   show _=(true&&_)
   rw[g8]
   refine fH.mpr ((aak hS ht h1).trans ⟨fun e=>by rw[<-e],fun e=>yX e h2.symm⟩)
  ·rw[aD hf,aD hf]
   rfl
 rw[hf]
 rfl
theorem M_{ps:List Pc}(dz:∀p∈ps,jn p){c:Nat}(hc:c∈cX ps (1,0)):Mn (ir ps) c=(mz ps c).map (Pr ps):=by
 obtain⟨h1,h2⟩:=cP.mp hc
 have h2:(tg (bT ps) c).2=(1,0):=f9 h2
 have hS:=Bs dz
 unfold Mn ir mz GK run
 rw[g_,aR,h2,sW]
 have hf:(bK ps.length).filter ((fun x:nY=>has x.ins c)∘iS ps (bT ps))=(bK ps.length).filter (ql (n_ ps (1,0)) (tg (bT ps) c).1):=by
  refine e_ fun i hi=>?_
  have hi:=cH.mp hi
  show has (if(ps.getD i fZ).eF=2 then [no (bT ps) (fz (n_ ps (1,0)) i,1,0)]else []) c=_
  unfold ql
  rw[nN (iT hi),uC]
  by_cases hf:(ps.getD i fZ).eF=2
  ·rw[aG hf,aG hf,Bt]
   have ht:=Bp (ps:=ps) (t:=(1,0)) (i:=i) (by decide) hi (by rw[nN (iT hi),uC,aG hf];rfl)
   show _=(true&&_)
   rw[g8]
   refine fH.mpr ((aak hS ht h1).trans ⟨fun e=>by rw[<-e],fun e=>yX e h2.symm⟩)
  ·rw[aD hf,aD hf]
   rfl
 rw[hf]
 rfl
theorem N3{ps:List Pc}(h:Po ps)(i:Nat):(Jz ps i).tags=[]:=by
 unfold Jz
 by_cases hi:i<ps.length
 ·exact(h _ (aL (iT hi))).tags
 ·rw[aO,fu (by omega)]
  rfl
theorem agT{ps:List Pc}(h:Po ps)(i j:Nat):Pr ps i=Pr ps j↔Jz ps i=Jz ps j:=by
 have h1:=N3 h i
 have h2:=N3 h j
 unfold Pr
 show((Jz ps i).sign,(Jz ps i).look)=((Jz ps j).sign,(Jz ps j).look)↔_
 generalize Jz ps i=x at h1
 generalize Jz ps j=y at h2
 cases x;cases y
 simp only at h1 h2
 subst h1;subst h2
 simp
theorem aan{ps:List Pc}(h:Po ps):∀(p c:List Nat),p.map (Pr ps)=c.map (Pr ps)↔xQ ps p=xQ ps c
 |[],[]=>by simp[xQ]
 |[],_::_=>by simp[xQ]
 |_::_,[]=>by simp[xQ]
 |i::p,j::c=>by
  have ih:=aan h p c
  unfold xQ at ih⊢
  rw[bg,bg,bg,bg,iE,iE,agT h,ih]
theorem GO{l:List Nat}{t:Nat}:has l t=true↔t∈l:=by
 unfold has
 rw[gH]
 constructor
 ·rintro⟨u,hu,e⟩
  rw[<-eq_of_beq e];exact hu
 ·intro h
  exact⟨t,h,dW t⟩
theorem aao(u:Nat)(l:List Nat)(t:Nat):has (u::l) t=(decide (u=t)||has l t):=by
 unfold has
 rw[kF]
 by_cases h:u=t
 ·rw[aI h,h,dW]
 ·rw[aH h,h_ h]
theorem N4{f:Nat->List Nat}{d:Nat}:∀{l:List Nat},(∀b∈l,f b=f d->b=d)->(l.map f).erase (f d)=(l.erase d).map f
 |[],_=>rfl
 |b::l,h=>by
  rw[bg,MB,MB]
  by_cases e:b=d
  ·subst e;simp
  ·have e':f b≠f d:=fun q=>e (h b (by simp) q)
   rw[h_ e,h_ e']
   simp only[kU,if_false,bg]
   rw[N4 fun c hc=>h c (by simp[hc])]
theorem acj{ps:List Pc}(dz:∀p∈ps,jn p){t:Nat×Nat}{c d:Nat}(hc:c∈cX ps t)(hd:d∈cX ps t)(h:mz ps c=mz ps d):c=d:=by
 obtain⟨c1,c2⟩:=cP.mp hc
 obtain⟨d1,d2⟩:=cP.mp hd
 have c2:(tg (bT ps) c).2=t:=f9 c2
 have d2:(tg (bT ps) d).2=t:=f9 d2
 refine aaj (Bs dz) c1 d1 (yX ?_ (c2.trans d2.symm))
 have a1:=xg (zA c1)
 have a2:=xg (zA d1)
 unfold mz at h
 have b1:=xU (h▸a1)
 have b2:=xU (h▸a2)
 omega
theorem IX{α:Type}{p q:α->Bool}:∀{l:List α},(∀x∈l,p x=q x)->l.find? p=l.find? q
 |[],_=>rfl
 |x::l,h=>by rw[g5,g5,h x (by simp),IX fun y hy=>h y (by simp[hy])]
def s_(ps:List Pc)(P:List (Nat×Nat))(c:Nat):Ch:=match P.find? fun x=>x.1==c with
 |some x=>zy (mz ps x.2) (mz ps c)
 |none=>Aq (mz ps c)
def gn(ps:List Pc)(U:List Nat):List Nat:=(cX ps (1,0)).filter fun d=> !has U d
theorem rR(row:List nY)(least:Nat)(ie:List Nat):∀(cs U:List Nat),∀x∈yy row least ie cs U,x.1∈cs/\x.2∈ie/\x.2∉U
 |[],U,x,hx=>by simp[yy]at hx
 |c::r,U,x,hx=>by
  rw[yy]at hx
  split at hx
  ·obtain⟨a,b⟩:=rR row least ie r U x hx
   exact⟨by simp[a],b⟩
  ·split at hx
   ·rename_i d hf
    rcases aW.mp hx with rfl|hx
    ·have h1:=fD hf
     have h2:=jY hf
     rw[bx]at h2
     refine⟨by simp,h1,fun hU=>?_⟩
     rw[GO.mpr hU]at h2
     exact absurd h2.1 (by decide)
    ·obtain⟨a,b,e⟩:=rR row least ie r (d::U) x hx
     exact⟨by simp[a],b,fun hU=>e (by simp[hU])⟩
   ·obtain⟨a,b⟩:=rR row least ie r U x hx
    exact⟨by simp[a],b⟩
theorem yQ(row:List nY)(least:Nat)(ie:List Nat):∀(cs U:List Nat),cs.Nodup->((yy row least ie cs U).map (·.1)).Nodup/\((yy row least ie cs U).map (·.2)).Nodup
 |[],U,_=>⟨dQ,dQ⟩
 |c::r,U,hn=>by
  obtain⟨n1,n2⟩:=gA.mp hn
  rw[yy]
  split
  ·exact yQ row least ie r U n2
  ·split
   ·rename_i d hf
    obtain⟨a,b⟩:=yQ row least ie r (d::U) n2
    rw[bg,bg]
    refine⟨gA.mpr ⟨fun h=>?_,a⟩,gA.mpr ⟨fun h=>?_,b⟩⟩
    ·obtain⟨x,hx,e⟩:=bI.mp h
     have q:=(rR row least ie r (d::U) x hx).1
     have e':x.1=c:=e
     rw[e']at q
     exact n1 q
    ·obtain⟨x,hx,e⟩:=bI.mp h
     have:=(rR row least ie r (d::U) x hx).2.2
     exact this (by rw[e];simp)
   ·exact yQ row least ie r U n2
theorem B6{P:List (Nat×Nat)}{c:Nat}(h:∀x∈P,x.1≠c):(P.find? fun x=>x.1==c)=none:=
 gY.mpr fun x hx=>by simpa using h x hx
theorem LF{ps:List Pc}(dz:∀p∈ps,jn p)(hR:Po ps){least:Nat}(hl:1<=least):∀(cs U:List Nat)(EK:List Ch),cs.Nodup->(∀c∈cs,c∈cX ps (2,0))->(cs.map (mz ps)).foldl (jF ps least) (EK,(gn ps U).map (mz ps))=(EK++cs.map (s_ ps (yy (ir ps) least (cX ps (1,0)) cs U)),(gn ps ((yy (ir ps) least (cX ps (1,0)) cs U).map (·.2)++U)).map (mz ps))
 |[],U,EK,_,_=>by simp[yy]
 |c::r,U,EK,hn,hc=>by
  obtain⟨n1,n2⟩:=gA.mp hn
  have ajL:=M9 dz (hc c (by simp))
  have Tg:∀e∈r,e∈cX ps (2,0):=fun e he=>hc e (by simp[he])
  rw[bg,g9,yy]
  rw[ajL,aa]
  have RS:JA ps least ((gn ps U).map (mz ps)) (mz ps c)=none->(r.map (mz ps)).foldl (jF ps least) (jF ps least (EK,(gn ps U).map (mz ps)) (mz ps c))=
    (EK++(c::r).map (s_ ps (yy (ir ps) least (cX ps (1,0)) r U)),(gn ps ((yy (ir ps) least (cX ps (1,0)) r U).map (·.2)++U)).map (mz ps)):=by
   intro hm
   have e1:jF ps least (EK,(gn ps U).map (mz ps)) (mz ps c)=(EK++[Aq (mz ps c)],(gn ps U).map (mz ps)):=by
    unfold jF
    rw[hm]
   rw[e1,LF dz hR hl r U _ n2 Tg,bg]
   have e2:s_ ps (yy (ir ps) least (cX ps (1,0)) r U) c=Aq (mz ps c):=by
    unfold s_
    rw[B6 (c:=c) fun x hx e=>n1 (by rw[<-e];exact(rR _ _ _ r U x hx).1)]
   rw[e2]
   simp
  by_cases jT:(mz ps c).length<least
  ·rw[aG jT]
   refine RS ?_
   unfold JA
   rw[aD (by rw[bx,aM,aM];omega)]
  ·rw[aD jT]
   have VV:JA ps least ((gn ps U).map (mz ps)) (mz ps c)=((cX ps (1,0)).find? fun d=> !has U d&&Mn (ir ps) d==(mz ps c).map (Pr ps)).map (mz ps):=by
    unfold JA
    rw[aG (by rw[bx,aM,aM];omega),Ow]
    unfold gn
    rw[List.find?_filter]
    congr 1
    refine IX fun d hd=>?_
    rw[M_ dz hd]
    show decide ((!has U d)=true/\IQ ps (mz ps c) (mz ps d)=true)=_
    unfold IQ
    rw[jr,aM,bx,aM,i_,aan hR]
   cases hf:(cX ps (1,0)).find? fun d=> !has U d&&Mn (ir ps) d==(mz ps c).map (Pr ps)with
   |none=>
    rw[hf]at VV
    simp only
    exact RS VV
   |some d=>
    rw[hf]at VV
    simp only
    have hd1:=fD hf
    have hd2:=jY hf
    rw[bx]at hd2
    have hdU:has U d=false:=by simpa using hd2.1
    have e1:jF ps least (EK,(gn ps U).map (mz ps)) (mz ps c)=(EK++[zy (mz ps d) (mz ps c)],(gn ps (d::U)).map (mz ps)):=by
     unfold jF
     rw[VV]
     simp only[ow]
     congr 1
     rw[N4 (f:=mz ps) (l:=gn ps U) fun b hb=>acj dz (cP.mp hb).1 hd1]
     congr 1
     have nd:(gn ps U).Nodup:=gP eV (gP eV (Fp _))
     rw[List.Nodup.erase_eq_filter nd]
     unfold gn
     rw[Yc]
     refine e_ fun b _=>?_
     rw[aao]
     by_cases e:b=d
     ·rw[aI e.symm,e];simp
     ·rw[aH fun q:d=b=>e q.symm,rX]
      have:(b != d)=true:=by simpa using e
      rw[this,g8]
    rw[e1,LF dz hR hl r (d::U) _ n2 Tg]
    have e2:s_ ps ((c,d)::yy (ir ps) least (cX ps (1,0)) r (d::U)) c=zy (mz ps d) (mz ps c):=by
     unfold s_
     rw[g5,dW]
    have e3:r.map (s_ ps ((c,d)::yy (ir ps) least (cX ps (1,0)) r (d::U)))=r.map (s_ ps (yy (ir ps) least (cX ps (1,0)) r (d::U))):=by
     refine bA fun e he=>?_
     unfold s_
     rw[g5,h_ fun q:c=e=>n1 (q▸he)]
    rw[bg,e2,e3]
    refine yX (by simp) ?_
    show(gn ps _).map (mz ps)=(gn ps _).map (mz ps)
    congr 1
    unfold gn
    refine e_ fun b _=>?_
    congr 1
    rw[jr,GO,GO]
    simp
    constructor
    ·rintro(h|h|h)
     ·exact .inr (.inl h)
     ·exact .inl h
     ·exact .inr (.inr h)
    ·rintro(h|h|h)
     ·exact .inr (.inl h)
     ·exact .inl h
     ·exact .inr (.inr h)
structure cD(ps:List Pc)(P:List (Nat×Nat)):Prop where
 cut:∀x∈P,x.1∈cX ps (2,0)
 put:∀x∈P,x.2∈cX ps (1,0)
 n1:(P.map (·.1)).Nodup
 n2:(P.map (·.2)).Nodup
theorem gg{ps:List Pc}{t:Nat×Nat}{c:Nat}:c∈cX ps t↔c∈lG (bT ps).length/\(tg (bT ps) c).2=t:=by
 unfold cX
 rw[cP,aM]
theorem iu{ps:List Pc}{t u:Nat×Nat}{c:Nat}(h1:c∈cX ps t)(h2:c∈cX ps u):t=u:=(gg.mp h1).2.symm.trans (gg.mp h2).2
theorem tu(ps:List Pc)(t:Nat×Nat):(cX ps t).Nodup:=gP eV (Fp _)
theorem uE{α:Type}{f:α->Nat}{P:List α}(h:(P.map f).Nodup){x y:α}(hx:x∈P)(hy:y∈P)(e:f x=f y):x=y:=by
 induction P with
 |nil=>simp at hx
 |cons z P ih=>
  rw[bg,gA]at h
  rcases aW.mp hx with e1|hx'
  ·rcases aW.mp hy with e2|hy'
   ·exact e1.trans e2.symm
   ·exact absurd (bI.mpr ⟨y,hy',by rw[<-e1];exact e.symm⟩) h.1
  ·rcases aW.mp hy with e2|hy'
   ·exact absurd (bI.mpr ⟨x,hx',by rw[<-e2];exact e⟩) h.1
   ·exact ih h.2 hx' hy'
def Pu(c:Nat)(x:Nat×Nat):Bool:=x.1==c||x.2==c
theorem Dq{c:Nat}{x:Nat×Nat}:Pu c x=true↔x.1=c\/x.2=c:=by
 unfold Pu
 rw[xr,i_,i_]
def pr(x:Nat×Nat):Nat:=if x.1<=x.2 then x.1 else x.2
theorem VW(x:Nat×Nat):pr x=x.1\/pr x=x.2:=by unfold pr;split<;>simp
section
variable{ps:List Pc}{P:List (Nat×Nat)}
theorem cD.apart(h:cD ps P){x y:Nat×Nat}(hx:x∈P)(hy:y∈P):x.1≠y.2:=fun e=>by
 have h1:=h.cut x hx
 rw[e]at h1
 have:=iu h1 (h.put y hy)
 cases this
theorem cD.uniq(h:cD ps P){x y:Nat×Nat}{c:Nat}(hx:x∈P)(hy:y∈P)(h1:x.1=c\/x.2=c)(h2:y.1=c\/y.2=c):x=y:=by
 rcases h1 with h1|h1<;>rcases h2 with h2|h2
 ·exact uE h.n1 hx hy (h1.trans h2.symm)
 ·exact absurd (h1.trans h2.symm) (h.apart hx hy)
 ·exact absurd (h2.trans h1.symm) (h.apart hy hx)
 ·exact uE h.n2 hx hy (h1.trans h2.symm)
theorem cD.hit(h:cD ps P){x:Nat×Nat}{c:Nat}(hx:x∈P)(h1:x.1=c\/x.2=c):P.find? (Pu c)=some x:=by
 cases hf:P.find? (Pu c)with
 |none=>exact absurd (Dq.mpr h1) (by have:=gY.mp hf x hx;simpa using this)
 |some y=>
  have:=h.uniq hx (fD hf) h1 (Dq.mp (jY hf))
  rw[this]
theorem N5{c:Nat}(h:∀x∈P,x.1≠c/\x.2≠c):P.find? (Pu c)=none:=gY.mpr fun x hx q=>by
 rcases Dq.mp q with q|q
 ·exact(h x hx).1 q
 ·exact(h x hx).2 q
theorem LG(c:Nat):jW P c=match P.find? (Pu c)with|some x=>pr x|none=>c:=rfl
theorem cD.jG(h:cD ps P){x:Nat×Nat}{c:Nat}(hx:x∈P)(h1:x.1=c\/x.2=c):jW P c=pr x:=by rw[LG,h.hit hx h1]
theorem j5{c:Nat}(h:∀x∈P,x.1≠c/\x.2≠c):jW P c=c:=by rw[LG,N5 h]
def ig(ps:List Pc)(P:List (Nat×Nat))(c:Nat):Ch:=match P.find? (Pu c)with
 |some x=>zy (mz ps x.2) (mz ps x.1)
 |none=>M8 ps (tg (bT ps) c)
theorem cD.ju(h:cD ps P){x:Nat×Nat}{c:Nat}(hx:x∈P)(h1:x.1=c\/x.2=c):ig ps P c=zy (mz ps x.2) (mz ps x.1):=by unfold ig;rw[h.hit hx h1]
theorem iw{c:Nat}(h:∀x∈P,x.1≠c/\x.2≠c):ig ps P c=M8 ps (tg (bT ps) c):=by unfold ig;rw[N5 h]
theorem cD.yR(h:cD ps P)(c:Nat):(∃x∈P,x.1=c\/x.2=c)\/∀x∈P,x.1≠c/\x.2≠c:=by
 by_cases e:∃x∈P,x.1=c\/x.2=c
 ·exact .inl e
 ·exact .inr fun x hx=>⟨fun q=>e ⟨x,hx,.inl q⟩,fun q=>e ⟨x,hx,.inr q⟩⟩
def nZ(ps:List Pc)(P:List (Nat×Nat)):List Nat:=(lG (bT ps).length).filter fun c=>jW P c==c
theorem jH{c:Nat}:c∈nZ ps P↔c∈lG (bT ps).length/\jW P c=c:=by
 unfold nZ
 rw[cP,i_]
theorem Fq:(nZ ps P).Nodup:=gP eV (Fp _)
theorem IY:(nZ ps P).Pairwise (·<·):=Ab eV (Dm _)
theorem i8{t:Nat×Nat}{c:Nat}(h:c∈cX ps t):c∈lG (bT ps).length:=(gg.mp h).1
theorem cD.lH(h:cD ps P){c:Nat}(hc:c∈lG (bT ps).length):jW P c∈nZ ps P:=by
 rcases h.yR c with⟨x,hx,h1⟩|hm
 ·rw[h.jG hx h1]
  refine jH.mpr ⟨?_,h.jG hx ((VW x).imp acQ acQ)⟩
  rcases VW x with e|e<;>rw[e]
  ·exact i8 (h.cut x hx)
  ·exact i8 (h.put x hx)
 ·have e:=j5 hm
  rw[e]
  exact jH.mpr ⟨hc,e⟩
theorem cD.xV(h:cD ps P)(c:Nat):ig ps P (jW P c)=ig ps P c:=by
 rcases h.yR c with⟨x,hx,h1⟩|hm
 ·rw[h.jG hx h1,h.ju hx h1,h.ju hx ((VW x).imp acQ acQ)]
 ·rw[j5 hm]
def newList(ps:List Pc)(P:List (Nat×Nat)):List Nat:=(cX ps (2,0)).map (jW P)++(gn ps (P.map (·.2))++(bK 4).flatMap fun k=>cX ps (3,k))
theorem pL{ps:List Pc}{c:Nat}(hc:c∈lG (bT ps).length):c∈cX ps (1,0)\/c∈cX ps (2,0)\/∃k,k<4/\c∈cX ps (3,k):=by
 have h:=(xR.mp (zA hc)).2.1
 unfold slots at h
 rw[aW,aW,aW,aW,aW,bJ]at h
 rcases h with h|h|h|h|h|h
 ·exact .inl (gg.mpr ⟨hc,h⟩)
 ·exact .inr (.inl (gg.mpr ⟨hc,h⟩))
 ·exact .inr (.inr ⟨0,by decide,gg.mpr ⟨hc,h⟩⟩)
 ·exact .inr (.inr ⟨1,by decide,gg.mpr ⟨hc,h⟩⟩)
 ·exact .inr (.inr ⟨2,by decide,gg.mpr ⟨hc,h⟩⟩)
 ·exact .inr (.inr ⟨3,by decide,gg.mpr ⟨hc,h⟩⟩)
theorem Au{U:List Nat}{d:Nat}:d∈gn ps U↔d∈cX ps (1,0)/\d∉U:=by
 unfold gn
 rw[cP]
 refine and_congr_right fun _=>?_
 cases h:has U d with
 |true=>simpa using GO.mp h
 |false=>simpa using fun q=>by rw[GO.mpr q]at h;cases h
theorem cD.N6(h:cD ps P){d:Nat}(hd:d∈gn ps (P.map (·.2))):∀x∈P,x.1≠d/\x.2≠d:=fun x hx=>by
 obtain⟨h1,h2⟩:=Au.mp hd
 refine⟨fun e=>?_,fun e=>h2 (bI.mpr ⟨x,hx,e⟩)⟩
 have:=h.cut x hx
 rw[e]at this
 cases iu this h1
theorem cD.Bu(h:cD ps P){d k:Nat}(hd:d∈cX ps (3,k)):∀x∈P,x.1≠d/\x.2≠d:=fun x hx=>by
 refine⟨fun e=>?_,fun e=>?_⟩
 ·have:=h.cut x hx
  rw[e]at this
  cases iu this hd
 ·have:=h.put x hx
  rw[e]at this
  cases iu this hd
theorem cD.VX(h:cD ps P){c:Nat}(hc:c∈cX ps (2,0)):(∃x∈P,x.1=c)\/∀x∈P,x.1≠c/\x.2≠c:=by
 rcases h.yR c with⟨x,hx,h1|h1⟩|hm
 ·exact .inl ⟨x,hx,h1⟩
 ·have:=h.put x hx
  rw[h1]at this
  cases iu hc this
 ·exact .inr hm
theorem cD.perm(h:cD ps P):(newList ps P).Perm (nZ ps P):=by
 have pc:∀c∈cX ps (2,0),jW P c∈cX ps (2,0)/\jW P c=c\/∃x∈P,x.1=c/\jW P c=x.2:=fun c hc=>by
  rcases h.VX hc with⟨x,hx,h1⟩|hm
  ·rw[h.jG hx (.inl h1)]
   rcases VW x with e|e
   ·rw[e,h1];exact .inl ⟨hc,rfl⟩
   ·exact .inr ⟨x,hx,h1,e⟩
  ·rw[j5 hm];exact .inl ⟨hc,rfl⟩
 have nd:(newList ps P).Nodup:=by
  unfold newList
  rw[t_,t_]
  refine⟨?_,⟨gP eV (tu _ _),?_,?_⟩,?_⟩
  ·
   refine lY.mpr ((rY.mp (tu ps (2,0))).imp ?_)
   rintro a b ⟨ha,hb,qI⟩ e
   rcases pc a ha with⟨a1,a2⟩|⟨x,hx,x1,x2⟩<;>rcases pc b hb with⟨b1,b2⟩|⟨y,hy,y1,y2⟩
   ·exact qI (a2.symm.trans (e.trans b2))
   ·rw[a2,y2]at e
    have:=h.put y hy
    rw[<-e]at this
    cases iu this ha
   ·rw[b2,x2]at e
    have:=h.put x hx
    rw[e]at this
    cases iu this hb
   ·rw[x2,y2]at e
    have:=h.uniq hx hy (.inr e) (.inr rfl)
    rw[this]at x1
    exact qI (x1.symm.trans y1)
  ·refine List.pairwise_flatMap.mpr ⟨fun k _=>tu _ _,(S6 (n:=4)).imp fun{a b}hab x hx y hy e=>?_⟩
   rw[e]at hx
   have:=iu hx hy
   have:=(eN this).2
   omega
  ·intro a ha b hb e
   obtain⟨k,_,hk⟩:=qG.mp hb
   rw[<-e]at hk
   cases iu (Au.mp ha).1 hk
  ·intro a ha b hb e
   obtain⟨c,hc,rfl⟩:=bI.mp ha
   rcases aX.mp hb with hb|hb
   ·obtain⟨b1,b2⟩:=Au.mp hb
    rcases pc c hc with⟨a1,a2⟩|⟨x,hx,x1,x2⟩
    ·rw[e]at a1
     cases iu a1 b1
    ·exact b2 (bI.mpr ⟨x,hx,by rw[<-e,x2]⟩)
   ·obtain⟨k,_,hk⟩:=qG.mp hb
    rcases pc c hc with⟨a1,a2⟩|⟨x,hx,x1,x2⟩
    ·rw[e]at a1
     cases iu a1 hk
    ·have:=h.put x hx
     rw[<-x2,e]at this
     cases iu this hk
 refine(y_ nd Fq).mpr fun c=>?_
 unfold newList
 rw[aX,aX]
 constructor
 ·rintro(hc|hc|hc)
  ·obtain⟨d,hd,rfl⟩:=bI.mp hc
   exact h.lH (i8 hd)
  ·exact jH.mpr ⟨i8 (Au.mp hc).1,j5 (h.N6 hc)⟩
  ·obtain⟨k,_,hk⟩:=qG.mp hc
   exact jH.mpr ⟨i8 hk,j5 (h.Bu hk)⟩
 ·intro hc
  obtain⟨c1,c2⟩:=jH.mp hc
  rcases pL c1 with hs|hs|⟨k,hk,hs⟩
  ·rcases h.yR c with⟨x,hx,h1⟩|hm
   ·left
    refine bI.mpr ⟨x.1,h.cut x hx,?_⟩
    rw[h.jG hx (.inl rfl),<-h.jG hx h1,c2]
   ·right;left
    exact Au.mpr ⟨hs,fun q=>by
     obtain⟨x,hx,e⟩:=bI.mp q
     exact(hm x hx).2 e⟩
  ·left
   exact bI.mpr ⟨c,hs,c2⟩
  ·right;right
   exact qG.mpr ⟨k,cH.mpr hk,hs⟩
def UD(x:Cr):Int×Int:=((x.1:Nat),(x.2.2:Nat))
theorem ack{x y:Cr}(h:Uy x y):Z6 (UD x) (UD y)=true:=by
 unfold Z6 UD
 rw[xr,bx,aM,aM,aM]
 rcases h with h|⟨h1,h2⟩
 ·left;simp;exact h
 ·right
  simp only
  omega
theorem acm{ps:List Pc}{x:Cr}(hx:x∈bT ps):De (M8 ps x)=UD x:=by
 have h1:=xg hx
 have hm:IS (GK ps x)=x.1:=UC h1 fun i hi=>xU hi
 have hs:=(xR.mp hx).2.1
 unfold slots at hs
 rw[aW,aW,aW,aW,aW,bJ]at hs
 unfold De UD M8 mK
 rcases hs with h|h|h|h|h|h<;>rw[h]
 ·rw[aG rfl];simp[yO,hm]
 ·rw[aD (by decide),aG rfl];simp[Aq,hm]
 all_goals rw[aD (by decide),aD (by decide)];simp[vf,hm]
theorem GP{ps:List Pc}{t:Nat×Nat}{c:Nat}(h:c∈cX ps t):tg (bT ps) c∈bT ps:=zA (i8 h)
theorem cD.N7(h:cD ps P)(dz:∀p∈ps,jn p){c:Nat}(hc:c∈nZ ps P):De (ig ps P c)=UD (tg (bT ps) c):=by
 obtain⟨c1,c2⟩:=jH.mp hc
 rcases h.yR c with⟨x,hx,h1⟩|hm
 ·rw[h.ju hx h1]
  rw[h.jG hx h1]at c2
  have a1:=h.cut x hx
  have a2:=h.put x hx
  have b1:=xg (GP a1)
  have b2:=xg (GP a2)
  have hp:(tg (bT ps) c).2.2=0:=by
   rcases h1 with h1|h1
   ·rw[<-h1,(gg.mp a1).2]
   ·rw[<-h1,(gg.mp a2).2]
  have le:∀{a b:Nat},a∈lG (bT ps).length->b∈lG (bT ps).length->a<=b->(tg (bT ps) a).1<=(tg (bT ps) b).1:=fun{a b}ha hb hab=>by
   rcases aa4 hab with e|e
   ·rw[e];exact aV _
   ·rcases adp (Dl ps dz) ha hb e with q|⟨q,_⟩
    ·exact qM q
    ·exact uP q
  have aeK:IS (mz ps x.2++mz ps x.1)=(tg (bT ps) c).1:=by
   unfold pr at c2
   split at c2
   ·rename_i WH
    rw[<-c2]
    refine UC (aX.mpr (.inr b1)) fun i hi=>?_
    rcases aX.mp hi with hi|hi
    ·exact bQ (le (i8 a1) (i8 a2) WH) (xU hi)
    ·exact xU hi
   ·rename_i WH
    rw[<-c2]
    refine UC (aX.mpr (.inl b2)) fun i hi=>?_
    rcases aX.mp hi with hi|hi
    ·exact xU hi
    ·exact bQ (le (i8 a2) (i8 a1) (by omega)) (xU hi)
  unfold De UD mK zy
  simp only
  rw[cQ,aeK,hp]
 ·rw[iw hm]
  exact acm (zA c1)
theorem cD.sorted(h:cD ps P)(dz:∀p∈ps,jn p):((nZ ps P).map (ig ps P)).Pairwise fun a b=>Z6 (De a) (De b)=true:=by
 refine lY.mpr ((rY.mp IY).imp ?_)
 rintro a b ⟨ha,hb,wD⟩
 rw[h.N7 dz ha,h.N7 dz hb]
 exact ack (adp (Dl ps dz) (jH.mp ha).1 (jH.mp hb).1 wD)
end
theorem Xd{cs:List Ch}:∀{ds:List Ch},cs.Perm ds->(cs.Pairwise fun a b=>Z6 (De b) (De a)=false)->(ds.Pairwise fun a b=>Z6 (De a) (De b)=true)->cs=ds:=by
 induction cs with
 |nil=>intro ds hp _ _;exact(List.Perm.nil_eq hp)
 |cons a cs ih=>
  intro ds hp h1 h2
  cases ds with
  |nil=>exact absurd hp.symm (by intro q;have:=q.length_eq;simp at this)
  |cons b ds=>
   obtain⟨p1,p2⟩:=Hl.mp h1
   obtain⟨q1,q2⟩:=Hl.mp h2
   have e:a=b:=by
    rcases aW.mp (hp.mem_iff.mp (cV (a:=a) (l:=cs)))with e|ha
    ·exact e
    ·rcases aW.mp (hp.mem_iff.mpr (cV (a:=b) (l:=ds)))with e|hb
     ·exact e.symm
     ·have:=p1 b hb
      rw[q1 a ha]at this
      cases this
   subst e
   rw[ih (List.Perm.cons_inv hp) p2 q2]
theorem VY{ps:List Pc}:∀(cs:List (List Nat))(st:List Ch×List (List Nat)),cs.foldl (jF ps 0) st=(st.1++cs.map Aq,st.2)
 |[],st=>by simp
 |c::r,st=>by
  rw[g9]
  have e:jF ps 0 st c=(st.1++[Aq c],st.2):=rfl
  rw[e,VY r]
  simp
def jq(ps:List Pc)(least:Nat):List (Nat×Nat):=if least=0 then []else yy (ir ps) least (cX ps (1,0)) (cX ps (2,0)) []
theorem Dr(ps:List Pc)(least:Nat):cD ps (jq ps least):=by
 unfold jq
 split
 ·exact⟨fun x h=>(by simp at h),fun x h=>(by simp at h),dQ,dQ⟩
 ·obtain⟨a,b⟩:=yQ (ir ps) least (cX ps (1,0)) (cX ps (2,0)) [] (tu _ _)
  exact⟨fun x h=>(rR _ _ _ _ _ x h).1,fun x h=>(rR _ _ _ _ _ x h).2.1,a,b⟩
theorem RT(ps:List Pc):gn ps []=cX ps (1,0):=by
 unfold gn
 exact yo.mpr fun d _=>rfl
theorem acn{ps:List Pc}(dz:∀p∈ps,jn p)(hR:Po ps)(least:Nat):JB ps least=(cX ps (2,0)).map (s_ ps (jq ps least))++((gn ps ((jq ps least).map (·.2))).map (mz ps)).map yO:=by
 unfold JB Dg
 simp only
 rw[aal,aam,xT ps (by decide),xT ps (by decide)]
 unfold jq
 by_cases h:least=0
 ·subst h
  rw[aG rfl,VY]
  simp only[oY,Cu]
  rw[RT,aR]
  rfl
 ·rw[aD h]
  have:=LF dz hR (show 1<=least by omega) (cX ps (2,0)) [] [] (tu _ _) fun c hc=>hc
  rw[RT]at this
  rw[this]
  simp only[oY,cQ]
theorem RU(ps:List Pc):qK ps=(bK 4).flatMap fun k=>(cX ps (3,k)).map fun c=>vf k (mz ps c):=by
 unfold qK
 refine kE fun k hk=>?_
 unfold ku
 have hk:=cH.mp hk
 have e:(ps.map fun p=>dR p k)=n_ ps (3,k):=rfl
 rw[e,xT ps (by
  rw[IU]
  match k,hk with
  |0,_=>decide
  |1,_=>decide
  |2,_=>decide
  |3,_=>decide),aR]
 rfl
section
variable{ps:List Pc}{P:List (Nat×Nat)}
theorem tw{c:Nat}(h:c∈cX ps (2,0)):M8 ps (tg (bT ps) c)=Aq (mz ps c):=by
 have e:=(gg.mp h).2
 unfold M8 mz
 rw[aD (by rw[e];decide),aG (by rw[e])]
theorem tD{c:Nat}(h:c∈cX ps (1,0)):M8 ps (tg (bT ps) c)=yO (mz ps c):=by
 have e:=(gg.mp h).2
 unfold M8 mz
 rw[aG (by rw[e])]
theorem nO{c k:Nat}(h:c∈cX ps (3,k)):M8 ps (tg (bT ps) c)=vf k (mz ps c):=by
 have e:=(gg.mp h).2
 unfold M8 mz
 rw[aD (by rw[e];show¬(3:Nat)=1;decide),aD (by rw[e];show¬(3:Nat)=2;decide),e]
theorem cD.Xe(h:cD ps P){c:Nat}(hc:c∈cX ps (2,0)):s_ ps P c=ig ps P (jW P c):=by
 rw[h.xV]
 rcases h.VX hc with⟨x,hx,h1⟩|hm
 ·rw[h.ju hx (.inl h1)]
  unfold s_
  have hf:(P.find? fun x=>x.1==c)=some x:=by
   cases hf:P.find? fun x=>x.1==c with
   |none=>
    have:=gY.mp hf x hx
    rw[h1,dW]at this
    exact absurd rfl this
   |some y=>
    have q:=jY hf
    rw[uE h.n1 hx (fD hf) (h1.trans (eq_of_beq q).symm)]
  rw[hf,h1]
 ·rw[iw hm,tw hc]
  unfold s_
  rw[B6 fun x hx=>(hm x hx).1]
theorem cD.list_eq(h:cD ps P):(cX ps (2,0)).map (s_ ps P)++((gn ps (P.map (·.2))).map (mz ps)).map yO++((bK 4).flatMap fun k=>(cX ps (3,k)).map fun c=>vf k (mz ps c))=(newList ps P).map (ig ps P):=by
 unfold newList
 rw[bu,bu,aR,aR,gO,List.map_flatMap]
 congr 1
 ·exact bA fun c hc=>h.Xe hc
 ·congr 1
  ·refine bA fun d hd=>?_
   rw[iw (h.N6 hd),tD (Au.mp hd).1]
   rfl
  ·refine kE fun k _=>bA fun c hc=>?_
   rw[iw (h.Bu hc),nO hc]
end
def GQ(ps:List Pc)(least:Nat):List Ch:=(nZ ps (jq ps least)).map (ig ps (jq ps least))
theorem HW{ps:List Pc}(dz:∀p∈ps,jn p)(hR:Po ps)(least:Nat):(JB ps least++qK ps).Perm (GQ ps least):=by
 rw[acn dz hR,RU,(Dr ps least).list_eq]
 exact(Dr ps least).perm.map _
theorem RV{ps:List Pc}(dz:∀p∈ps,jn p)(hR:Po ps){least:Nat}{cs:List Ch}(h1:cs.Perm (JB ps least++qK ps))(h2:cs.Pairwise fun a b=>Z6 (De b) (De a)=false):cs=GQ ps least:=
 Xd (h1.trans (HW dz hR least)) h2 ((Dr ps least).sorted dz)
theorem wV{e:Nat}{q:Nat->Bool}:∀{l:List Nat},e∈l->(∀c∈l,q c=decide (c=e))->l.findIdx q=l.idxOf e
 |[],h,_=>by simp at h
 |a::l,h,hq=>by
  rw[pT,oZ,hq a (by simp)]
  by_cases e1:a=e
  ·rw[aI e1,e1,dW]
   rfl
  ·rw[aH e1,h_ e1]
   rw[wV (by
    rcases aW.mp h with h|h
    ·exact absurd h.symm e1
    ·exact h) fun c hc=>hq c (by simp[hc])]
theorem zB{e:Nat}:∀{l:List Nat},l.Pairwise (·<·)->e∈l->(l.filter fun x=>decide (x<=e)).length=l.idxOf e+1
 |[],_,h=>by simp at h
 |a::l,hs,h=>by
  obtain⟨p1,p2⟩:=Hl.mp hs
  rw[cK,oZ]
  by_cases e1:a=e
  ·subst e1
   rw[aI (aV _),aG rfl,dW,cond_true]
   have:(l.filter fun x=>decide (x<=a))=[]:=kh.mpr fun x hx=>by
    have:=p1 x hx
    simpa using this
   rw[this]
   rfl
  ·have h':e∈l:=by
    rcases aW.mp h with h|h
    ·exact absurd h.symm e1
    ·exact h
   have:=p1 e h'
   rw[aI (by omega),aG rfl,h_ e1,cond_false,br,zB p2 h']
def EL(ps:List Pc)(P:List (Nat×Nat))(c:Nat):Nat:=(nZ ps P).idxOf (jW P c)+1
def Ds(cs:List Ch)(i:Nat):Nat:=cs.findIdx (fun c=>decide (i∈c.ie++c.drops))+1
def Bv(cs:List Ch)(i k:Nat):Nat:=cs.findIdx (fun c=>decide (i∈c.iC)&&decide (c.prop=k))+1
def dOf(ps:List Pc)(t:Nat×Nat)(i:Nat):Nat:=no (bT ps) (fz (n_ ps t) i,t)
theorem rI{ps:List Pc}{t:Nat×Nat}{i:Nat}(ht:t∈slots)(hi:i<ps.length)(hm:(xf (n_ ps t) i).isSome=true):dOf ps t i∈cX ps t/\i∈mz ps (dOf ps t i):=by
 have h:=Bp ht hi hm
 have e:tg (bT ps) (dOf ps t i)=(fz (n_ ps t) i,t):=aai h
 refine⟨gg.mpr ⟨aah h,by rw[e]⟩,?_⟩
 unfold mz
 rw[e]
 exact GN.mpr ⟨hi,hm,rfl⟩
theorem LH{ps:List Pc}(dz:∀p∈ps,jn p){t:Nat×Nat}{i d:Nat}(hd:d∈cX ps t)(hi:i∈mz ps d):i<ps.length/\(xf (n_ ps t) i).isSome=true/\d=dOf ps t i:=by
 obtain⟨d1,d2⟩:=gg.mp hd
 unfold mz at hi
 obtain⟨h1,h2,h3⟩:=GN.mp hi
 rw[d2]at h2 h3
 have hs:=(xR.mp (zA d1)).2.1
 rw[d2]at hs
 refine⟨h1,h2,?_⟩
 unfold dOf
 have e:(fz (n_ ps t) i,t)=tg (bT ps) d:=yX h3 d2.symm
 rw[e,ado (Bs dz) d1]
section
variable{ps:List Pc}{P:List (Nat×Nat)}
theorem cD.aco(h:cD ps P){c i:Nat}(hc:c∈nZ ps P)(hi:i∈(ig ps P c).ie):∃d∈cX ps (1,0),jW P d=c/\i∈mz ps d:=by
 obtain⟨c1,c2⟩:=jH.mp hc
 rcases h.yR c with⟨x,hx,h1⟩|hm
 ·rw[h.ju hx h1]at hi
  exact⟨x.2,h.put x hx,by rw[h.jG hx (.inr rfl),<-h.jG hx h1,c2],hi⟩
 ·rw[iw hm]at hi
  rcases pL c1 with hs|hs|⟨k,hk,hs⟩
  ·rw[tD hs]at hi
   exact⟨c,hs,c2,hi⟩
  ·rw[tw hs]at hi
   simp[Aq]at hi
  ·rw[nO hs]at hi
   simp[vf]at hi
theorem cD.aaq(h:cD ps P){c i:Nat}(hc:c∈nZ ps P)(hi:i∈(ig ps P c).drops):∃d∈cX ps (2,0),jW P d=c/\i∈mz ps d:=by
 obtain⟨c1,c2⟩:=jH.mp hc
 rcases h.yR c with⟨x,hx,h1⟩|hm
 ·rw[h.ju hx h1]at hi
  exact⟨x.1,h.cut x hx,by rw[h.jG hx (.inl rfl),<-h.jG hx h1,c2],hi⟩
 ·rw[iw hm]at hi
  rcases pL c1 with hs|hs|⟨k,hk,hs⟩
  ·rw[tD hs]at hi
   simp[yO]at hi
  ·rw[tw hs]at hi
   exact⟨c,hs,c2,hi⟩
  ·rw[nO hs]at hi
   simp[vf]at hi
theorem cD.HX(h:cD ps P){c i:Nat}(hc:c∈nZ ps P)(hi:i∈(ig ps P c).iC):c∈cX ps (3,(ig ps P c).prop)/\(ig ps P c).prop<4/\i∈mz ps c:=by
 obtain⟨c1,c2⟩:=jH.mp hc
 rcases h.yR c with⟨x,hx,h1⟩|hm
 ·rw[h.ju hx h1]at hi
  simp[zy]at hi
 ·rw[iw hm]at hi⊢
  rcases pL c1 with hs|hs|⟨k,hk,hs⟩
  ·rw[tD hs]at hi
   simp[yO]at hi
  ·rw[tw hs]at hi
   simp[Aq]at hi
  ·rw[nO hs]at hi⊢
   exact⟨hs,hk,hi⟩
theorem cD.aeO(h:cD ps P){d i:Nat}(hd:d∈cX ps (1,0))(hi:i∈mz ps d):i∈(ig ps P (jW P d)).ie:=by
 rw[h.xV]
 rcases h.yR d with⟨x,hx,h1⟩|hm
 ·rw[h.ju hx h1]
  rcases h1 with h1|h1
  ·have:=h.cut x hx
   rw[h1]at this
   cases iu this hd
  ·rw[h1];exact hi
 ·rw[iw hm,tD hd];exact hi
theorem cD.aeP(h:cD ps P){d i:Nat}(hd:d∈cX ps (2,0))(hi:i∈mz ps d):i∈(ig ps P (jW P d)).drops:=by
 rw[h.xV]
 rcases h.yR d with⟨x,hx,h1⟩|hm
 ·rw[h.ju hx h1]
  rcases h1 with h1|h1
  ·rw[h1];exact hi
  ·have:=h.put x hx
   rw[h1]at this
   cases iu this hd
 ·rw[iw hm,tw hd];exact hi
theorem cD.aar(h:cD ps P){d i k:Nat}(hd:d∈cX ps (3,k))(hi:i∈mz ps d):i∈(ig ps P d).iC/\(ig ps P d).prop=k/\jW P d=d:=by
 rw[iw (h.Bu hd),nO hd]
 exact⟨hi,rfl,j5 (h.Bu hd)⟩
theorem uF{i:Nat}(hi:i<ps.length):(xf (n_ ps (1,0)) i).isSome=true↔(ps.getD i fZ).eF=2:=by
 rw[nN (iT hi),uC]
 split<;>simp_all
theorem uG{i:Nat}(hi:i<ps.length):(xf (n_ ps (2,0)) i).isSome=true↔(ps.getD i fZ).eF=1:=by
 rw[nN (iT hi),uB]
 split<;>simp_all
theorem qb{i k:Nat}(hi:i<ps.length):(xf (n_ ps (3,k)) i).isSome=true↔(dR (ps.getD i fZ) k).isSome=true:=by
 rw[nN (iT hi),Di]
theorem cD.Dt(h:cD ps P)(dz:∀p∈ps,jn p){c i:Nat}(hc:c∈nZ ps P):i∈(ig ps P c).ie↔i<ps.length/\(ps.getD i fZ).eF=2/\c=jW P (dOf ps (1,0) i):=by
 constructor
 ·intro hi
  obtain⟨d,d1,d2,d3⟩:=h.aco hc hi
  obtain⟨e1,e2,e3⟩:=LH dz d1 d3
  exact⟨e1,(uF e1).mp e2,by rw[<-e3,d2]⟩
 ·rintro⟨h1,h2,rfl⟩
  obtain⟨d1,d2⟩:=rI (ps:=ps) (t:=(1,0)) (by decide) h1 ((uF h1).mpr h2)
  exact h.aeO d1 d2
theorem cD.yS(h:cD ps P)(dz:∀p∈ps,jn p){c i:Nat}(hc:c∈nZ ps P):i∈(ig ps P c).drops↔i<ps.length/\(ps.getD i fZ).eF=1/\c=jW P (dOf ps (2,0) i):=by
 constructor
 ·intro hi
  obtain⟨d,d1,d2,d3⟩:=h.aaq hc hi
  obtain⟨e1,e2,e3⟩:=LH dz d1 d3
  exact⟨e1,(uG e1).mp e2,by rw[<-e3,d2]⟩
 ·rintro⟨h1,h2,rfl⟩
  obtain⟨d1,d2⟩:=rI (ps:=ps) (t:=(2,0)) (by decide) h1 ((uG h1).mpr h2)
  exact h.aeP d1 d2
theorem cD.Du(h:cD ps P)(dz:∀p∈ps,jn p){c i k:Nat}(hc:c∈nZ ps P)(hk:k<4):(i∈(ig ps P c).iC/\(ig ps P c).prop=k)↔i<ps.length/\(dR (ps.getD i fZ) k).isSome=true/\c=jW P (dOf ps (3,k) i):=by
 constructor
 ·rintro⟨hi,rfl⟩
  obtain⟨d1,d2,d3⟩:=h.HX hc hi
  obtain⟨e1,e2,e3⟩:=LH dz d1 d3
  exact⟨e1,(qb e1).mp e2,by rw[<-e3];exact(jH.mp hc).2.symm⟩
 ·rintro⟨h1,h2,rfl⟩
  obtain⟨d1,d2⟩:=rI (ps:=ps) (t:=(3,k)) (IU.mpr (by
   match k,hk with
   |0,_=>decide
   |1,_=>decide
   |2,_=>decide
   |3,_=>decide)) h1 ((qb h1).mpr h2)
  obtain⟨q1,q2,q3⟩:=h.aar d1 d2
  rw[q3]
  exact⟨q1,q2⟩
end
def oW(ps:List Pc)(cs:List Ch)(i:Nat):nY:=
 {sign:=(ps.getD i fZ).fV.sign,look:=(ps.getD i fZ).fV.look,
  ins:=if(ps.getD i fZ).eF=2 then [Ds cs i]else [],
  del:=if(ps.getD i fZ).eF=1 then [Ds cs i]else [],
  pend:=(ps.getD i fZ).entries.map fun e=>{change:=Bv cs i e.1,prop:=e.1,value:=e.2}}
structure JD(ps:List Pc)(cs:List Ch):Prop where
 dP:cs.Pairwise fun a b=>∀i∈a.ie++a.drops,i∉b.ie++b.drops
 dE:cs.Pairwise fun a b=>a.prop=b.prop->∀i∈a.iC,i∉b.iC
 put:∀c∈cs,∀i∈c.ie,i<ps.length/\(ps.getD i fZ).eF=2
 drop:∀c∈cs,∀i∈c.drops,i<ps.length/\(ps.getD i fZ).eF=1
 paint:∀c∈cs,∀i∈c.iC,i<ps.length/\(dR (ps.getD i fZ) c.prop).isSome=true
 adq:∀i,i<ps.length->(ps.getD i fZ).eF=2->∃c∈cs,i∈c.ie
 aas:∀i,i<ps.length->(ps.getD i fZ).eF=1->∃c∈cs,i∈c.drops
 VZ:∀i k,i<ps.length->(dR (ps.getD i fZ) k).isSome=true->∃c∈cs,i∈c.iC/\c.prop=k
 nP:∀c∈cs,c.ie.Nodup/\c.drops.Nodup/\c.iC.Nodup
 al3:∀c∈cs,c.prop<4
structure Ms(ps:List Pc)(cs:List Ch)(w:Mm):Prop where
 sys:JD ps cs
 kinds:w.kinds=cs.map (·.kind)
 row:w.row=(bK ps.length).map (oW ps cs)
theorem EM{p:Pc}(hp:jn p){k:Nat}(h:(dR p k).isSome=true):k<4:=by
 obtain⟨v,hv⟩:=lT.mp h
 have:=(iP hp (zz hv)).2.1
 unfold props at this
 simp at this
 omega
theorem Av(ps:List Pc)(c:Nat):(mz ps c).Nodup:=UB ps _
section
variable{ps:List Pc}{P:List (Nat×Nat)}
theorem cD.sys(h:cD ps P)(dz:∀p∈ps,jn p):JD ps ((nZ ps P).map (ig ps P)):=by
 have Xf:∀{i},i<ps.length->jn (ps.getD i fZ):=fun{i}hi=>dz _ (aL (iT hi))
 refine⟨?_,?_,?_,?_,?_,?_,?_,?_,?_,?_⟩
 ·refine lY.mpr ((rY.mp Fq).imp ?_)
  rintro a b ⟨ha,hb,qI⟩ i hi hj
  rcases aX.mp hi with hi|hi<;>rcases aX.mp hj with hj|hj
  ·exact qI (((h.Dt dz ha).mp hi).2.2.trans ((h.Dt dz hb).mp hj).2.2.symm)
  ·have:=((h.Dt dz ha).mp hi).2.1
   have:=((h.yS dz hb).mp hj).2.1
   omega
  ·have:=((h.yS dz ha).mp hi).2.1
   have:=((h.Dt dz hb).mp hj).2.1
   omega
  ·exact qI (((h.yS dz ha).mp hi).2.2.trans ((h.yS dz hb).mp hj).2.2.symm)
 ·refine lY.mpr ((rY.mp Fq).imp ?_)
  rintro a b ⟨ha,hb,qI⟩ he i hi hj
  have k4:=(h.HX ha hi).2.1
  exact qI (((h.Du dz ha k4).mp ⟨hi,rfl⟩).2.2.trans ((h.Du dz hb k4).mp ⟨hj,he.symm⟩).2.2.symm)
 ·intro c hc i hi
  obtain⟨e,he,rfl⟩:=bI.mp hc
  obtain⟨h1,h2,_⟩:=(h.Dt dz he).mp hi
  exact⟨h1,h2⟩
 ·intro c hc i hi
  obtain⟨e,he,rfl⟩:=bI.mp hc
  obtain⟨h1,h2,_⟩:=(h.yS dz he).mp hi
  exact⟨h1,h2⟩
 ·intro c hc i hi
  obtain⟨e,he,rfl⟩:=bI.mp hc
  obtain⟨h1,h2,_⟩:=(h.Du dz he (h.HX he hi).2.1).mp ⟨hi,rfl⟩
  exact⟨h1,h2⟩
 ·intro i hi hf
  have hd:=(rI (ps:=ps) (t:=(1,0)) (by decide) hi ((uF hi).mpr hf)).1
  have hs:=h.lH (i8 hd)
  exact⟨_,bI.mpr ⟨_,hs,rfl⟩,(h.Dt dz hs).mpr ⟨hi,hf,rfl⟩⟩
 ·intro i hi hf
  have hd:=(rI (ps:=ps) (t:=(2,0)) (by decide) hi ((uG hi).mpr hf)).1
  have hs:=h.lH (i8 hd)
  exact⟨_,bI.mpr ⟨_,hs,rfl⟩,(h.yS dz hs).mpr ⟨hi,hf,rfl⟩⟩
 ·intro i k hi hf
  have hk:=EM (Xf hi) hf
  have hd:=(rI (ps:=ps) (t:=(3,k)) (IU.mpr (by
   match k,hk with
   |0,_=>decide
   |1,_=>decide
   |2,_=>decide
   |3,_=>decide)) hi ((qb hi).mpr hf)).1
  have hs:=h.lH (i8 hd)
  exact⟨_,bI.mpr ⟨_,hs,rfl⟩,(h.Du dz hs hk).mpr ⟨hi,hf,rfl⟩⟩
 ·intro c hc
  obtain⟨e,he,rfl⟩:=bI.mp hc
  rcases h.yR e with⟨x,hx,h1⟩|hm
  ·rw[h.ju hx h1]
   exact⟨Av _ _,Av _ _,dQ⟩
  ·rw[iw hm]
   rcases pL (jH.mp he).1 with hs|hs|⟨k,hk,hs⟩
   ·rw[tD hs];exact⟨Av _ _,dQ,dQ⟩
   ·rw[tw hs];exact⟨dQ,Av _ _,dQ⟩
   ·rw[nO hs];exact⟨dQ,dQ,Av _ _⟩
 ·intro c hc
  obtain⟨e,he,rfl⟩:=bI.mp hc
  rcases h.yR e with⟨x,hx,h1⟩|hm
  ·rw[h.ju hx h1];show 0<4;decide
  ·rw[iw hm]
   rcases pL (jH.mp he).1 with hs|hs|⟨k,hk,hs⟩
   ·rw[tD hs];show 0<4;decide
   ·rw[tw hs];show 0<4;decide
   ·rw[nO hs];exact hk
theorem wW{q:Ch->Bool}{f:Nat->Ch}:∀l:List Nat,(l.map f).findIdx q=l.findIdx fun c=>q (f c)
 |[]=>rfl
 |a::l=>by rw[bg,pT,pT,wW l]
theorem cD.aat(h:cD ps P)(dz:∀p∈ps,jn p){i:Nat}(hi:i<ps.length)(hf:(ps.getD i fZ).eF=2):Ds ((nZ ps P).map (ig ps P)) i=EL ps P (dOf ps (1,0) i):=by
 have hd:=(rI (ps:=ps) (t:=(1,0)) (by decide) hi ((uF hi).mpr hf)).1
 have hs:=h.lH (i8 hd)
 unfold Ds EL
 rw[wW,wV hs fun c hc=>fH.mpr ?_]
 rw[aX,h.Dt dz hc,h.yS dz hc]
 constructor
 ·rintro(⟨_,_,e⟩|⟨_,e,_⟩)
  ·exact e
  ·omega
 ·intro e
  exact .inl ⟨hi,hf,e⟩
theorem cD.Xg(h:cD ps P)(dz:∀p∈ps,jn p){i:Nat}(hi:i<ps.length)(hf:(ps.getD i fZ).eF=1):Ds ((nZ ps P).map (ig ps P)) i=EL ps P (dOf ps (2,0) i):=by
 have hd:=(rI (ps:=ps) (t:=(2,0)) (by decide) hi ((uG hi).mpr hf)).1
 have hs:=h.lH (i8 hd)
 unfold Ds EL
 rw[wW,wV hs fun c hc=>fH.mpr ?_]
 rw[aX,h.Dt dz hc,h.yS dz hc]
 constructor
 ·rintro(⟨_,e,_⟩|⟨_,_,e⟩)
  ·omega
  ·exact e
 ·intro e
  exact .inr ⟨hi,hf,e⟩
theorem cD.acp(h:cD ps P)(dz:∀p∈ps,jn p){i k:Nat}(hi:i<ps.length)(hf:(dR (ps.getD i fZ) k).isSome=true):Bv ((nZ ps P).map (ig ps P)) i k=EL ps P (dOf ps (3,k) i):=by
 have hk:=EM (dz _ (aL (iT hi))) hf
 have hd:=(rI (ps:=ps) (t:=(3,k)) (IU.mpr (by
   match k,hk with
   |0,_=>decide
   |1,_=>decide
   |2,_=>decide
   |3,_=>decide)) hi ((qb hi).mpr hf)).1
 have hs:=h.lH (i8 hd)
 unfold Bv EL
 rw[wW,wV hs fun c hc=>?_]
 rw[jr,bx,aM,aM,aM,h.Du dz hc hk]
 exact⟨fun q=>q.2.2,fun q=>⟨hi,hf,q⟩⟩
theorem cD.aeQ(h:cD ps P)(dz:∀p∈ps,jn p):(ir ps).map (yz (EL ps P))=(bK ps.length).map (oW ps ((nZ ps P).map (ig ps P))):=by
 unfold ir
 rw[aR]
 refine bA fun i hi=>?_
 have hi:=cH.mp hi
 have hp:=dz _ (aL (iT hi))
 show yz (EL ps P) (iS ps (bT ps) i)=_
 unfold yz iS oW
 simp only
 congr 1
 ·split
  ·rename_i hf
   rw[h.aat dz hi hf]
   rfl
  ·rfl
 ·split
  ·rename_i hf
   rw[h.Xg dz hi hf]
   rfl
  ·rfl
 ·rw[aR]
  refine bA fun e he=>?_
  have hv:=(iP hp he).2.2
  rw[h.acp dz hi (by rw[hv];rfl)]
  rfl
theorem cD.aau(h:cD ps P):((nZ ps P).map fun c=>if(P.any (Pu c))=true then 4 else(tg (bT ps) c).2.1)=((nZ ps P).map (ig ps P)).map (·.kind):=by
 rw[aR]
 refine bA fun c hc=>?_
 show _=(ig ps P c).kind
 rcases h.yR c with⟨x,hx,h1⟩|hm
 ·rw[h.ju hx h1,aG (gH.mpr ⟨x,hx,Dq.mpr h1⟩)]
  rfl
 ·rw[iw hm,aD fun q=>by
   obtain⟨x,hx,e⟩:=gH.mp q
   rcases Dq.mp e with e|e
   ·exact(hm x hx).1 e
   ·exact(hm x hx).2 e]
  rcases pL (jH.mp hc).1 with hs|hs|⟨k,hk,hs⟩
  ·rw[tD hs,(gg.mp hs).2];rfl
  ·rw[tw hs,(gg.mp hs).2];rfl
  ·rw[nO hs,(gg.mp hs).2];rfl
end
theorem V0{ps:List Pc}{c:Nat}(hc:c∈lG (bT ps).length):((bT ps).map (·.2.1)).getD (c-1) 0=(tg (bT ps) c).2.1:=by
 rw[aO,aT,HV hc]
 rfl
theorem Xh{t:Nat×Nat}(h:t∈slots)(k:Nat)(hk:k=1\/k=2):t.1=k↔t=(k,0):=by
 unfold slots at h
 rw[aW,aW,aW,aW,aW,bJ]at h
 rcases hk with rfl|rfl<;>rcases h with rfl|rfl|rfl|rfl|rfl|rfl<;>simp
theorem D_(ps:List Pc){k:Nat}(hk:k=1\/k=2):ofKind ((bT ps).map (·.2.1)) k=cX ps (k,0):=by
 unfold ofKind cX
 rw[aa]
 refine e_ fun c hc=>?_
 have hc:c∈lG (bT ps).length:=hc
 rw[V0 hc,jr,i_,aM]
 exact Xh (xR.mp (zA hc)).2.1 k hk
theorem RW{ps:List Pc}(dz:∀p∈ps,jn p){f:Nat->Nat}(hf:∀c∈lG (bT ps).length,f c=c):(ir ps).map (yz f)=ir ps:=by
 unfold ir
 rw[aR]
 refine bA fun i hi=>?_
 have hi:=cH.mp hi
 have hp:=dz _ (aL (iT hi))
 show yz f (iS ps (bT ps) i)=_
 unfold yz iS
 simp only
 congr 1
 ·split
  ·rename_i h
   exact congrArg (fun n=>[n]) (hf _ (i8 (rI (ps:=ps) (t:=(1,0)) (by decide) hi ((uF hi).mpr h)).1))
  ·rfl
 ·split
  ·rename_i h
   exact congrArg (fun n=>[n]) (hf _ (i8 (rI (ps:=ps) (t:=(2,0)) (by decide) hi ((uG hi).mpr h)).1))
  ·rfl
 ·rw[aR]
  refine bA fun e he=>?_
  obtain⟨_,h1,h2⟩:=iP hp he
  show({change:=f (no _ _),prop:=e.1,value:=e.2}:fW)=_
  exact congrArg (fun n=>({change:=n,prop:=e.1,value:=e.2}:fW)) (hf _ (i8 (rI (ps:=ps) (t:=(3,e.1)) (IU.mpr h1) hi ((qb hi).mpr (by rw[h2];rfl))).1))
theorem aeR{ps:List Pc}(dz:∀p∈ps,jn p)(least:Nat):Ms ps (GQ ps least) (Ye least {row:=ir ps,kinds:=(bT ps).map (·.2.1)}):=by
 have h:=Dr ps least
 have ajN:=h.sys dz
 refine⟨ajN,?_,?_⟩
 ·unfold GQ
  rw[<-h.aau]
  unfold Ye
  by_cases h0:least=0
  ·rw[aG h0]
   have hp:jq ps least=[]:=by unfold jq;rw[aG h0]
   rw[hp]
   have hs:nZ ps []=lG (bT ps).length:=yo.mpr fun c _=>by rw[j5 (fun x hx=>by simp at hx),dW]
   rw[hs]
   show _=(lG (bT ps).length).map fun c=>(tg (bT ps) c).2.1
   have e:((lG (bT ps).length).map fun c=>(tg (bT ps) c).2.1)=((lG (bT ps).length).map (tg (bT ps))).map (·.2.1):=by rw[aR];rfl
   rw[e,RP]
  ·rw[aD h0]
   simp only
   rw[D_ ps (.inl rfl),D_ ps (.inr rfl)]
   have hp:jq ps least=yy (ir ps) least (cX ps (1,0)) (cX ps (2,0)) []:=by unfold jq;rw[aD h0]
   rw[<-hp,aa]
   show((nZ ps (jq ps least)).map fun c=>if((jq ps least).any (Pu c))=true then 4 else((bT ps).map (·.2.1)).getD (c-1) 0)=_
   refine bA fun c hc=>?_
   rw[V0 (jH.mp hc).1]
 ·unfold GQ
  rw[<-h.aeQ dz]
  unfold Ye
  by_cases h0:least=0
  ·rw[aG h0]
   have hp:jq ps least=[]:=by unfold jq;rw[aG h0]
   rw[hp,RW dz fun c hc=>?_]
   unfold EL
   have hs:nZ ps []=lG (bT ps).length:=yo.mpr fun c _=>by rw[j5 (fun x hx=>by simp at hx),dW]
   rw[hs,j5 (fun x hx=>by simp at hx),<-zB (Dm _) hc]
   have Tg:=vF.mp hc
   have e:((lG (bT ps).length).filter fun x=>decide (x<=c))=lG c:=by
    have Ql:∀n,c<=n->((lG n).filter fun x=>decide (x<=c))=lG c:=by
     intro n
     induction n with
     |zero=>
      intro h
      have:c=0:=by omega
      subst this
      rfl
     |succ n ih=>
      intro h
      have en:lG (n+1)=lG n++[n+1]:=by unfold lG;rw[gB,bu];rfl
      rcases aa4 h with e|e
      ·subst e
       exact yo.mpr fun x hx=>aI (vF.mp hx).2
      ·rw[en,sf,ih (by omega),cK,aH (by omega),aD aF,DW,cQ]
    exact Ql _ Tg.2
   rw[e]
   unfold lG
   rw[aa,eK]
  ·rw[aD h0]
   simp only
   rw[D_ ps (.inl rfl),D_ ps (.inr rfl)]
   have hp:jq ps least=yy (ir ps) least (cX ps (1,0)) (cX ps (2,0)) []:=by unfold jq;rw[aD h0]
   rw[<-hp,aa]
   show(ir ps).map (yz fun c=>((nZ ps (jq ps least)).filter fun e=>decide (e<=jW (jq ps least) c)).length)=_
   unfold ir
   rw[aR,aR]
   refine bA fun i hi=>?_
   have hi:=cH.mp hi
   have hpc:=dz _ (aL (iT hi))
   have Ql:∀c∈lG (bT ps).length,((nZ ps (jq ps least)).filter fun e=>decide (e<=jW (jq ps least) c)).length=EL ps (jq ps least) c:=fun c hc=>zB IY (h.lH hc)
   show yz _ (iS ps (bT ps) i)=yz _ (iS ps (bT ps) i)
   unfold yz iS
   simp only
   congr 1
   ·split
    ·rename_i q
     exact congrArg (fun n=>[n]) (Ql _ (i8 (rI (ps:=ps) (t:=(1,0)) (by decide) hi ((uF hi).mpr q)).1))
    ·rfl
   ·split
    ·rename_i q
     exact congrArg (fun n=>[n]) (Ql _ (i8 (rI (ps:=ps) (t:=(2,0)) (by decide) hi ((uG hi).mpr q)).1))
    ·rfl
   ·rw[aR,aR]
    refine bA fun e he=>?_
    obtain⟨_,h1,h2⟩:=iP hpc he
    show({change:=_,prop:=e.1,value:=e.2}:fW)={change:=_,prop:=e.1,value:=e.2}
    congr 1
    exact Ql _ (i8 (rI (ps:=ps) (t:=(3,e.1)) (IU.mpr h1) hi ((qb hi).mpr (by rw[h2];rfl))).1)
def Pw(i:Nat)(c:Ch):Bool:=decide (i∈c.ie++c.drops)
def GR(i k:Nat)(c:Ch):Bool:=decide (i∈c.iC)&&decide (c.prop=k)
def qm(cs:List Ch)(i:Nat):Nat:=if cs.any (Pw i)=true then Ds cs i else 0
def yT(cs:List Ch)(i k:Nat):Option Nat:=if cs.any (GR i k)=true then some (Bv cs i k)else none
theorem GS{q:Ch->Bool}{cs:List Ch}{c:Ch}:(cs++[c]).findIdx q=if cs.any q=true then cs.findIdx q else if q c=true then cs.length else cs.length+1:=by
 induction cs with
 |nil=>
  rw[oY,pT]
  cases q c<;>rfl
 |cons a cs ih=>
  rw[qE,pT,pT,ih,kF]
  cases hq:q a with
  |true=>rfl
  |false=>
   rw[rX,cond_false,cond_false]
   split
   ·rfl
   ·split<;>rfl
theorem GU{cs:List Ch}{q:Ch->Bool}(h:∀a∈cs,q a=false):cs.any q=false:=by
 rw[AF]
 intro e
 obtain⟨a,ha,e⟩:=gH.mp e
 rw[h a ha]at e
 cases e
theorem UE{cs:List Ch}{c:Ch}{i:Nat}(hd:Pw i c=true->cs.any (Pw i)=false):qm (cs++[c]) i=if Pw i c=true then cs.length+1 else qm cs i:=by
 unfold qm Ds
 have e:(fun c:Ch=>decide (i∈c.ie++c.drops))=Pw i:=rfl
 rw[e,GS,MD,kF,S7,jK]
 by_cases hc:Pw i c=true
 ·rw[hd hc,hc,rX,aG rfl,aD aF,aG rfl,aG rfl]
 ·have Tg:Pw i c=false:=by simpa using hc
  rw[Tg,jK,aD aF]
  by_cases ha:cs.any (Pw i)=true
  ·rw[aG ha,aG ha,aG ha];rfl
  ·rw[aD ha,aD ha];rfl
theorem UG{cs:List Ch}{c:Ch}{i k:Nat}(hd:GR i k c=true->cs.any (GR i k)=false):yT (cs++[c]) i k=if GR i k c=true then some (cs.length+1)else yT cs i k:=by
 unfold yT Bv
 have e:(fun c:Ch=>decide (i∈c.iC)&&decide (c.prop=k))=GR i k:=rfl
 rw[e,GS,MD,kF,S7,jK]
 by_cases hc:GR i k c=true
 ·rw[hd hc,hc,rX,aG rfl,aD aF,aG rfl,aG rfl]
 ·have Tg:GR i k c=false:=by simpa using hc
  rw[Tg,jK,aD aF]
  by_cases ha:cs.any (GR i k)=true
  ·rw[aG ha,aG ha,aG ha];rfl
  ·rw[aD ha,aD ha];rfl
section
variable{ps:List Pc}{cs:List Ch}
theorem JD.aav(h:JD ps cs){j:Nat}{c:Ch}(hc:cs[j]?=some c){i:Nat}(hi:Pw i c=true):(cs.take j).any (Pw i)=false:=by
 refine GU fun a ha=>aH fun q=>?_
 obtain⟨m,hm,e⟩:=lJ.mp ha
 obtain⟨hj,ej⟩:=az.mp hc
 have:=qO.mp h.dP m j (by omega) hj (by omega) i (by rw[e];exact q)
 rw[ej]at this
 exact this (f9 hi)
theorem JD.aaw(h:JD ps cs){j:Nat}{c:Ch}(hc:cs[j]?=some c){i k:Nat}(hi:GR i k c=true):(cs.take j).any (GR i k)=false:=by
 unfold GR at hi
 rw[bx,aM,aM]at hi
 refine GU fun a ha=>?_
 rw[AF]
 intro q
 unfold GR at q
 rw[bx,aM,aM]at q
 obtain⟨m,hm,e⟩:=lJ.mp ha
 obtain⟨hj,ej⟩:=az.mp hc
 have:=qO.mp h.dE m j (by omega) hj (by omega) (by rw[e,ej,q.2,hi.2]) i (by rw[e];exact q.1)
 rw[ej]at this
 exact this hi.1
theorem JD.acq(h:JD ps cs){j:Nat}{c:Ch}(hc:cs[j]?=some c)(i:Nat):qm (cs.take (j+1)) i=if Pw i c=true then j+1 else qm (cs.take j) i:=by
 have hj:=(az.mp hc).1
 rw[jj,hc]
 show qm (cs.take j++[c]) i=_
 rw[UE fun hi=>h.aav hc hi,a_,Nu (by omega)]
theorem JD.acr(h:JD ps cs){j:Nat}{c:Ch}(hc:cs[j]?=some c)(i k:Nat):yT (cs.take (j+1)) i k=if GR i k c=true then some (j+1)else yT (cs.take j) i k:=by
 have hj:=(az.mp hc).1
 rw[jj,hc]
 show yT (cs.take j++[c]) i k=_
 rw[UG fun hi=>h.aaw hc hi,a_,Nu (by omega)]
theorem JD.Ea(h:JD ps cs){i:Nat}(hi:i<ps.length)(hf:(ps.getD i fZ).eF=1\/(ps.getD i fZ).eF=2):qm cs i=Ds cs i:=by
 unfold qm
 rw[aG]
 rcases hf with hf|hf
 ·obtain⟨c,hc,q⟩:=h.aas i hi hf
  exact gH.mpr ⟨c,hc,aI (aX.mpr (.inr q))⟩
 ·obtain⟨c,hc,q⟩:=h.adq i hi hf
  exact gH.mpr ⟨c,hc,aI (aX.mpr (.inl q))⟩
theorem JD.RX(h:JD ps cs){i k:Nat}(hi:i<ps.length)(hf:(dR (ps.getD i fZ) k).isSome=true):yT cs i k=some (Bv cs i k):=by
 unfold yT
 rw[aG]
 obtain⟨c,hc,q1,q2⟩:=h.VZ i k hi hf
 exact gH.mpr ⟨c,hc,by unfold GR;rw[aI q1,aI q2];rfl⟩
theorem JD.GV(h:JD ps cs){j:Nat}{c:Ch}(hc:cs[j]?=some c){i:Nat}(hex:cs.any (Pw i)=true):Ds cs i=j+1↔Pw i c=true:=by
 obtain⟨hj,ej⟩:=az.mp hc
 have hq:(fun c:Ch=>decide (i∈c.ie++c.drops))=Pw i:=rfl
 unfold Ds
 rw[hq]
 constructor
 ·intro e
  have e':cs.findIdx (Pw i)=j:=by omega
  have:=Wi (xs:=cs) (p:=Pw i) (w:=by rw[e'];exact hj)
  simp only[e']at this
  rw[ej]at this
  exact this
 ·intro hi
  have:cs.findIdx (Pw i)=j:=by
   refine(acR hj).mpr ⟨by rw[ej];exact hi,fun m hm=>?_⟩
   have:=h.aav hc hi
   rw[AF]
   intro q
   rw[gH.mpr ⟨cs[m],lJ.mpr ⟨m,by omega,rfl⟩,q⟩]at this
   cases this
  omega
theorem JD.aax(h:JD ps cs){j:Nat}{c:Ch}(hc:cs[j]?=some c){i k:Nat}(hex:cs.any (GR i k)=true):Bv cs i k=j+1↔GR i k c=true:=by
 obtain⟨hj,ej⟩:=az.mp hc
 have hq:(fun c:Ch=>decide (i∈c.iC)&&decide (c.prop=k))=GR i k:=rfl
 unfold Bv
 rw[hq]
 constructor
 ·intro e
  have e':cs.findIdx (GR i k)=j:=by omega
  have:=Wi (xs:=cs) (p:=GR i k) (w:=by rw[e'];exact hj)
  simp only[e']at this
  rw[ej]at this
  exact this
 ·intro hi
  have:cs.findIdx (GR i k)=j:=by
   refine(acR hj).mpr ⟨by rw[ej];exact hi,fun m hm=>?_⟩
   have:=h.aaw hc hi
   rw[AF]
   intro q
   rw[gH.mpr ⟨cs[m],lJ.mpr ⟨m,by omega,rfl⟩,q⟩]at this
   cases this
  omega
end
theorem Xi(l:List Nat):∀a,l.foldl (·+·) a=a+l.sum:=by
 induction l with
 |nil=>intro a;simp
 |cons x l ih=>intro a;rw[g9,ih,AQ];omega
theorem aay(l:List Nat):Mx l=l.sum:=by unfold Mx;rw[Xi];omega
theorem V1(f:Nat->Bool):∀l:List Nat,(l.map fun i=>if f i=true then 1 else 0).sum=(l.filter f).length
 |[]=>rfl
 |a::l=>by
  rw[bg,AQ,V1 f l,cK]
  split
  ·rw[br];omega
  ·omega
theorem vg{n:Nat}{f:Nat->Bool}{l:List Nat}(hn:l.Nodup)(h:∀i,i∈l↔i<n/\f i=true):((bK n).filter f).length=l.length:=by
 refine List.Perm.length_eq ((y_ (gP eV Ky) hn).mpr fun i=>?_)
 rw[cP,cH,h]
theorem LI(ps:List Pc):(bK ps.length).map (fun i=>ps.getD i fZ)=ps:=by
 refine ud fun i=>?_
 rw[aT]
 by_cases h:i<ps.length
 ·rw[mW h,iT h]
  rfl
 ·rw[fu (by rw[eK];omega),fu (by omega)]
  rfl
section
variable{ps:List Pc}{cs:List Ch}{w:Mm}
theorem Ms.len(r:Ms ps cs w):w.row.length=ps.length:=by rw[r.row,aa,eK]
theorem Ms.Xf(dz:∀p∈ps,jn p){i:Nat}(hi:i<ps.length):jn (ps.getD i fZ):=dz _ (aL (iT hi))
theorem Ms.aeS(r:Ms ps cs w){q:nY->Bool}{q':Pc->Bool}(h:∀i,i<ps.length->q (oW ps cs i)=q' (ps.getD i fZ)):(w.row.filter q).length=(ps.filter q').length:=by
 rw[r.row,g_,aa]
 have e:(ps.filter q').length=((bK ps.length).filter fun i=>q' (ps.getD i fZ)).length:=by
  conv=>lhs;rw[<-LI ps]
  rw[g_,aa]
  rfl
 rw[e]
 congr 1
 exact e_ fun i hi=>h i (cH.mp hi)
theorem Ms.counts(r:Ms ps cs w)(dz:∀p∈ps,jn p):countsOf w=[(ps.filter fun p=>decide (p.eF=0)).length,(ps.filter fun p=>decide (p.eF=1)).length,(ps.filter fun p=>decide (p.eF=2)).length,(ps.map fun p=>p.entries.length).sum]:=by
 have hf:∀i,i<ps.length->(ps.getD i fZ).eF=0\/(ps.getD i fZ).eF=1\/(ps.getD i fZ).eF=2:=fun i hi=>by
  rcases Ms.Xf dz hi with⟨h,_⟩|⟨h|h,_⟩
  ·exact .inl h
  ·exact .inr (.inl h)
  ·exact .inr (.inr h)
 unfold countsOf
 rw[r.aeS (q':=fun p=>decide (p.eF=0)) fun i hi=>by
   unfold oW
   rcases hf i hi with e|e|e<;>rw[e]<;>rfl,
  r.aeS (q':=fun p=>decide (p.eF=1)) fun i hi=>by
   unfold oW
   rcases hf i hi with e|e|e<;>rw[e]<;>rfl,
  r.aeS (q':=fun p=>decide (p.eF=2)) fun i hi=>by
   unfold oW
   rcases hf i hi with e|e|e<;>rw[e]<;>rfl]
 congr 4
 rw[aay,r.row,aR]
 conv=>rhs;rw[<-LI ps]
 rw[aR]
 congr 1
 refine bA fun i _=>?_
 show(List.map _ _).length=_
 rw[aa]
 rfl
theorem Ms.change(r:Ms ps cs w)(dz:∀p∈ps,jn p){j:Nat}{c:Ch}(hc:cs[j]?=some c):toldChange w (j+1)=[c.kind,c.ie.length,c.drops.length,c.iC.length]:=by
 have Kf:=aL hc
 obtain⟨n1,n2,n3⟩:=r.sys.nP c Kf
 have acs:∀{i},i<ps.length->((ps.getD i fZ).eF=1\/(ps.getD i fZ).eF=2)->cs.any (Pw i)=true:=fun{i}hi hf=>by
  rcases hf with hf|hf
  ·obtain⟨c,hc,q⟩:=r.sys.aas i hi hf
   exact gH.mpr ⟨c,hc,aI (aX.mpr (.inr q))⟩
  ·obtain⟨c,hc,q⟩:=r.sys.adq i hi hf
   exact gH.mpr ⟨c,hc,aI (aX.mpr (.inl q))⟩
 unfold toldChange
 refine AG.mpr ⟨?_,AG.mpr ⟨?_,AG.mpr ⟨?_,AG.mpr ⟨?_,rfl⟩⟩⟩⟩
 ·rw[r.kinds,oJ,aO,aT,hc]
  rfl
 ·unfold Mn
  rw[aa,r.row,g_,aa]
  refine vg n1 fun i=>?_
  constructor
  ·intro hi
   obtain⟨h1,h2⟩:=r.sys.put c Kf i hi
   refine⟨h1,?_⟩
   show has (if(ps.getD i fZ).eF=2 then [Ds cs i]else []) (j+1)=true
   rw[aG h2,Bt,aM,r.sys.GV hc (acs h1 (.inr h2))]
   exact aI (aX.mpr (.inl hi))
  ·rintro⟨h1,h2⟩
   have h2:has (if(ps.getD i fZ).eF=2 then [Ds cs i]else []) (j+1)=true:=h2
   split at h2
   ·rename_i hf
    rw[Bt,aM,r.sys.GV hc (acs h1 (.inr hf))]at h2
    rcases aX.mp (f9 h2)with q|q
    ·exact q
    ·have:=(r.sys.drop c Kf i q).2
     omega
   ·cases h2
 ·unfold cutLetters
  rw[aa,r.row,g_,aa]
  refine vg n2 fun i=>?_
  constructor
  ·intro hi
   obtain⟨h1,h2⟩:=r.sys.drop c Kf i hi
   refine⟨h1,?_⟩
   show has (if(ps.getD i fZ).eF=1 then [Ds cs i]else []) (j+1)=true
   rw[aG h2,Bt,aM,r.sys.GV hc (acs h1 (.inl h2))]
   exact aI (aX.mpr (.inr hi))
  ·rintro⟨h1,h2⟩
   have h2:has (if(ps.getD i fZ).eF=1 then [Ds cs i]else []) (j+1)=true:=h2
   split at h2
   ·rename_i hf
    rw[Bt,aM,r.sys.GV hc (acs h1 (.inl hf))]at h2
    rcases aX.mp (f9 h2)with q|q
    ·have:=(r.sys.put c Kf i q).2
     omega
    ·exact q
   ·cases h2
 ·rw[aay,r.row,aR]
  have e:((bK ps.length).map ((fun x:nY=>(x.pend.filter fun e=>e.change==j+1).length)∘oW ps cs))=(bK ps.length).map fun i=>if decide (i∈c.iC)=true then 1 else 0:=by
   refine bA fun i hi=>?_
   have hi:=cH.mp hi
   have hp:=Ms.Xf dz hi
   show(((ps.getD i fZ).entries.map fun e=>({change:=Bv cs i e.1,prop:=e.1,value:=e.2}:fW)).filter fun e=>e.change==j+1).length=_
   rw[g_,aa]
   have ajO:∀e∈(ps.getD i fZ).entries,cs.any (GR i e.1)=true:=fun e he=>by
    have hv:=(iP hp he).2.2
    obtain⟨c',Tg,q1,q2⟩:=r.sys.VZ i e.1 hi (by rw[hv];rfl)
    exact gH.mpr ⟨c',Tg,by unfold GR;rw[aI q1,aI q2];rfl⟩
   have hf:(ps.getD i fZ).entries.filter ((fun e:fW=>e.change==j+1)∘fun e=>{change:=Bv cs i e.1,prop:=e.1,value:=e.2})=(ps.getD i fZ).entries.filter fun e=>GR i e.1 c:=by
    refine e_ fun e he=>?_
    show(Bv cs i e.1==j+1)=GR i e.1 c
    rw[jr,i_,r.sys.aax hc (ajO e he)]
   rw[hf]
   by_cases hm:i∈c.iC
   ·rw[aG (aI hm)]
    have h2:=(r.sys.paint c Kf i hm).2
    obtain⟨v,hv⟩:=lT.mp h2
    have hin:=zz hv
    have ajP:(ps.getD i fZ).entries.Nodup:=by
     rcases hp with⟨_,hc⟩|⟨_,hc⟩
     ·rw[hc];exact Dk _
     ·rw[hc];exact dQ
    have:((ps.getD i fZ).entries.filter fun e=>GR i e.1 c)=[(c.prop,v)]:=by
     refine List.Perm.eq_singleton ((y_ (gP eV ajP) (tU _ _)).mpr fun e=>?_)
     rw[cP,bJ]
     unfold GR
     rw[aI hm,g8,aM]
     constructor
     ·rintro⟨a,b⟩
      have q:=(iP hp a).2.2
      rw[<-b,hv]at q
      exact yX b.symm (bH q).symm
     ·rintro rfl
      exact⟨hin,rfl⟩
    rw[this]
    rfl
   ·rw[aD (by rw[aH hm];exact aF)]
    have:((ps.getD i fZ).entries.filter fun e=>GR i e.1 c)=[]:=kh.mpr fun e _=>by
     unfold GR
     rw[aH hm,qt]
     exact aF
    rw[this]
    rfl
  rw[e,V1 (fun i=>decide (i∈c.iC))]
  refine vg n3 fun i=>?_
  rw[aM]
  exact⟨fun hi=>⟨(r.sys.paint c Kf i hi).1,hi⟩,fun h=>h.2⟩
end
def vh(ps:List Pc)(cs:List Ch)(set:List Nat)(i:Nat):Bool:=if(ps.getD i fZ).eF=1 then !has set (Ds cs i)else if(ps.getD i fZ).eF=2 then has set (Ds cs i)else true
def Ko(cs:List Ch)(set:List Nat)(i:Nat)(es:List (Nat×Nat))(l:List Nat):List Nat:=es.foldl (fun l e=>if has set (Bv cs i e.1)=true then l.set e.1 e.2 else l) l
def uH(ps:List Pc)(cs:List Ch)(set:List Nat)(i:Nat):bZ:={sign:=(ps.getD i fZ).fV.sign,look:=Ko cs set i (ps.getD i fZ).entries (ps.getD i fZ).fV.look}
def B7(ps:List Pc)(cs:List Ch)(set:List Nat):List bZ:=((bK ps.length).filter (vh ps cs set)).map (uH ps cs set)
theorem Ms.version{ps:List Pc}{cs:List Ch}{w:Mm}(r:Ms ps cs w)(dz:∀p∈ps,jn p)(set:List Nat):abn set w.row=B7 ps cs set:=by
 unfold abn B7
 rw[r.row,g_,aR]
 have e:(bK ps.length).filter (isIn set∘oW ps cs)=(bK ps.length).filter (vh ps cs set):=by
  refine e_ fun i hi=>?_
  have hi:=cH.mp hi
  show isIn set (oW ps cs i)=vh ps cs set i
  unfold isIn vh oW
  simp only
  rcases Ms.Xf dz hi with⟨h,_⟩|⟨h|h,_⟩
  ·rw[h];rfl
  ·rw[h];simp
  ·rw[h];simp
 rw[e]
 refine bA fun i _=>?_
 show({sign:=_,look:=lookIn set (oW ps cs i)}:bZ)=uH ps cs set i
 unfold uH Ko lookIn oW
 simp only
 rw[List.foldl_filter,EW]
theorem IZ(cs:List Ch)(set:List Nat)(i:Nat):∀(es:List (Nat×Nat))(l:List Nat),(Ko cs set i es l).length=l.length
 |[],l=>rfl
 |e::r,l=>by
  unfold Ko
  rw[g9]
  refine(IZ cs set i r _).trans ?_
  split
  ·rw[xo]
  ·rfl
theorem N8(ps:List Pc)(cs:List Ch)(set:List Nat):(B7 ps cs set).length<=ps.length:=by
 unfold B7
 rw[aa]
 exact bQ (o_ _ _) (by rw[eK];exact aV _)
theorem LJ{ps:List Pc}(hR:Po ps)(cs:List Ch)(set:List Nat):Bb (B7 ps cs set):=fun x hx=>by
 obtain⟨i,hi,rfl⟩:=bI.mp hx
 have hi:=cH.mp (cP.mp hi).1
 exact⟨(IZ _ _ _ _ _).trans (hR _ (aL (iT hi))).four,rfl⟩
theorem EN(z:bZ×bZ)(k:Nat):dR (uy z) k=if k∈props/\z.1.look.getD k 0≠z.2.look.getD k 0 then some (z.2.look.getD k 0)else none:=by
 unfold dR uy kY
 simp only
 rw[Ow]
 have ajQ:((fun e:Nat×Nat=>e.1==k)∘fun k=>(k,z.2.look.getD k 0))=fun a:Nat=>a==k:=rfl
 rw[ajQ]
 cases hf:(props.filter fun k=> !(z.1.look.getD k 0==z.2.look.getD k 0)).find? fun a=>a==k with
 |none=>
  rw[aD]
  ·rfl
  ·rintro⟨h1,h2⟩
   have:=gY.mp hf k (cP.mpr ⟨h1,by rw[h_ h2];rfl⟩)
   rw[dW]at this
   exact this rfl
 |some a=>
  have h1:=fD hf
  have h2:=jY hf
  have h2:a=k:=by simpa using h2
  subst h2
  obtain⟨h3,h4⟩:=cP.mp h1
  rw[aG ⟨h3,fun e=>by rw[e,dW]at h4;cases h4⟩]
  rfl
theorem N9(z:bZ×bZ):jn (uy z):=by
 refine .inl ⟨rfl,?_⟩
 unfold EJ
 show kY z.1 z.2=_
 unfold kY
 have e:(props.filter fun k=>(dR (uy z) k).isSome)=props.filter fun k=> !(z.1.look.getD k 0==z.2.look.getD k 0):=by
  refine e_ fun k hk=>?_
  rw[EN]
  by_cases h:z.1.look.getD k 0=z.2.look.getD k 0
  ·rw[aD fun q=>q.2 h,h,dW];rfl
  ·rw[aG ⟨hk,h⟩,h_ h];rfl
 rw[e]
 refine bA fun k hk=>?_
 obtain⟨h1,h2⟩:=cP.mp hk
 rw[EN,aG ⟨h1,fun e=>by rw[e,dW]at h2;cases h2⟩]
 rfl
theorem Xj(st:pU):∀p∈pH st,jn p:=by
 intro p hp
 cases st with
 |keep a b=>
  obtain⟨z,_,rfl⟩:=bI.mp hp
  exact N9 z
 |drop a=>
  obtain⟨x,_,rfl⟩:=bI.mp hp
  exact .inr ⟨.inl rfl,rfl⟩
 |put b=>
  obtain⟨x,_,rfl⟩:=bI.mp hp
  exact .inr ⟨.inr rfl,rfl⟩
theorem HY(steps:List pU)(o n:bZ):∀p∈xN steps o n,jn p:=by
 intro p hp
 rcases aX.mp hp with hp|hp
 ·obtain⟨st,_,h⟩:=qG.mp hp
  exact Xj st p h
 ·rw[bJ.mp hp]
  exact N9 _
theorem UH(steps:List pU)(o n:bZ)(least:Nat):Ms (xN steps o n) (GQ (xN steps o n) least) (Ye least (walked steps o n)):=by
 rw[W9,aci _ (HY steps o n)]
 exact aeR (HY steps o n) least
theorem N_{α β:Type}(f:α->β):∀(l:List α)(i:Nat),(l.map f).eraseIdx i=(l.eraseIdx i).map f
 |[],_=>rfl
 |_::_,0=>rfl
 |a::l,i+1=>by
  rw[bg,Cd,Cd,bg,N_ f l i]
theorem LK{p:List Nat}:∀{l:List (List Nat)}{m:Nat},m<l.idxOf p->l[m]?≠some p
 |[],m,h=>by simp
 |q::l,m,h=>by
  rw[oZ]at h
  by_cases e:(q==p)=true
  ·rw[e]at h;simp at h
  ·have e':(q==p)=false:=by simpa using e
   rw[e',cond_false]at h
   cases m with
   |zero=>
    rw[List.getElem?_cons_zero]
    intro x
    cases x
    simp at e'
   |succ m=>
    rw[Cc]
    exact LK (by omega)
section
variable{P:bD}{w:cC}{K:ah}{mg:cM->Option ao}{base:cY}
theorem EA.rem{C:ak}{D:ak->Bool}{H0 H:Hp}{L pb:ak}{cs:List Ch}{Fi:List (List Nat)}{xs:List V}(c:EA K C D H0 H L pb cs Fi)(nLp:L≠pb)(hx:H pb=some (.lst xs))(j:Nat):EA K C D H0 (upd H pb (.lst (xs.eraseIdx j))) L pb cs (Fi.eraseIdx j):=by
 obtain⟨acc,h1,h2⟩:=c.exL
 obtain⟨Ug,h3,h4⟩:=c.exP
 rw[hx]at h3
 cases h3
 have e:hd (upd H pb (.lst (xs.eraseIdx j))) (ad (ad D L) pb)=hd H (ad (ad D L) pb):=qk fX
 refine⟨fun b o eb n m=>by rw[bY m];exact c.same b o eb n m,⟨acc,by rw[bY nLp];exact h1,by rw[e];exact h2⟩,_,aE,?_⟩
 rw[e]
 have:(Fi.eraseIdx j).map dH=(Fi.map dH).eraseIdx j:=(N_ dH Fi j).symm
 rw[this]
 exact bN.erase j h4
theorem Oa{D:ak->Bool}{H:Hp}{pb:ak}{xs:List V}(hp:H pb=some (.lst xs)):∀{ys:List V}{Fi:List (List Nat)},(∀v∈ys,v∈xs)->bN K (hd H D) ys (Fi.map dH)->bN K (hd H (ad D pb)) ys (Fi.map dH)
 |_,[],_,h=>by cases h;exact .nil
 |_,p::Fi,hm,h=>by
  rw[bg]at h⊢
  cases h with
  |cons a r=>
   obtain⟨b,rfl,hb⟩:=i7 a
   obtain⟨h1,h2⟩:=rE hb
   have nb:b≠pb:=fun e=>by
    rw[e,hp]at h1
    cases h1
    obtain⟨n,_,q⟩:=bI.mp (hm (.ref b) (by simp))
    cases q
   exact .cons (.lst (iY h1 (VI h2 nb)) (je p)) (Oa hp (fun v hv=>hm v (by simp[hv])) r)
theorem Ob(a b:List Nat):fh (dH a) (dH b)=decide (a=b):=NT a b
theorem RY(a:List Nat):(dH a).depth<=8:=by
 have h2:gK (dH a)=e8 (a.map dn)+1:=rfl
 rw[h2,Am]
 decide
def rA(ps:List Pc)(least:Nat)(tX ie:List (List Nat))(i:Nat):List Ch×List (List Nat):=(tX.take i).foldl (jF ps least) ([],ie)
theorem Px{ps:List Pc}{least:Nat}{tX ie:List (List Nat)}{i:Nat}{ct:List Nat}(h:tX[i]?=some ct):rA ps least tX ie (i+1)=jF ps least (rA ps least tX ie i) ct:=by
 unfold rA
 rw[gv h,lV]
 rfl
theorem Bw{CP C:ak}(G:fT K mg)(Df:jL K mg "cuts_puts_and_moves" kG ["row","least"])(qc:bG P w K mg base "fate_stretches" ["row","fate"] 2 (Z9 K CP))(Bx:bG P w K mg base "first_like" ["row","cut_places","puts"] 2 (aaa K CP))(vD:t8 P w K mg base C "Change" ["self","kind","put_places","dropped_places","painted_places","painted_property"] 1 (Lu C)):bG P w K mg base "cuts_puts_and_moves" ["row","least"] 3 (aad K CP C):=by
 refine Df.ok gf (fun vs H Q E⟨_,_,_,_,e,_⟩=>by rw[e];rfl) fun f iB A outer s H vs Q E hr h=>?_
 obtain⟨D,v1,ps,least,rfl,hO,hR,kR,np,k⟩:=h
 refine⟨_,(aC (cR (i:=2) gf.nd rfl (by first|exact bz rfl|exact bB rfl) (c_ aA))
   (aC (cR (i:=3) gf.nd rfl (by first|exact bz rfl|exact bB rfl) (bL qc (hr.mono (by decide)) (aj (pv 0) (aj (bW G.PUT) aA))))
   (aC (jO cA rfl (fE (bL qc (hr.mono (by decide)) (aj (pv 0) (aj (bW G.Rm) aA)))) (cJ (i:=4) gf.nd rfl (by first|exact bz rfl|exact bB rfl)) (aC (cR (i:=5) gf.nd rfl (by first|exact bz rfl|exact bB rfl) xx)
   (aC (eW (CL qH qH b9 (pv 1) (cS (r:=l5 K) cB (by rfl) G.iN dN (aj (pv 4) aA))) (aJ (cR (i:=5) gf.nd rfl (by first|exact bz rfl|exact bB rfl) (bL Bx (hr.mono (by decide)) (aj (pv 0) (aj (pv 4) (aj (pv 3) aA)))))) cN)
   (aJ (eW (ue (CF (pv 5))) (aJ (eZ (kQ aZ cg cu iK (pv 2) (aj (qJ vD (hr.mono (by decide)) (aj (bW G.Zs) (aj (c_ aA) (aj (pv 4) (aj (c_ aA) (aj b9 aA)))))) aA)))) (aC (eZ (kQ aZ PySem.F.slot_list_remove PySem.F.type_list_remove (W3 hr.units) (pv 3) (aj (pv 5) aA)))
   (aJ (eZ (kQ aZ cg cu iK (pv 2) (aj (qJ vD (hr.mono (by decide)) (aj (bW G.WO) (aj (pv 5) (aj (pv 4) (aj (c_ aA) (aj b9 aA)))))) aA))))))))))
   (aC (jO cA rfl (fE (pv 3)) (cJ (i:=6) gf.nd rfl (by first|exact bz rfl|exact bB rfl)) (aJ (eZ (kQ aZ cg cu iK (pv 2) (aj (qJ vD (hr.mono (by decide)) (aj (bW G.Zr) (aj (pv 6) (aj (c_ aA) (aj (c_ aA) (aj b9 aA)))))) aA)))))
   (aJ (bF (pv 2))))))),?_⟩
 refine⟨bE _,fun L hL=>?_⟩
 have eL:hd (upd H L (.lst [])) (ad D L)=hd H D:=by rw[qk fX,m8 hL]
 have oL:Od (upd H L (.lst [])) (ad D L):=hO.upd.ad aE
 have hRL:pI K CP (hd (upd H L (.lst [])) (ad D L)) v1 ps:=by rw[eL];exact hR
 refine⟨_,rfl,ad D L,v1,ps,2,rfl,oL,hRL,np,fun pb H1 s1 n1 d1=>?_⟩
 obtain⟨pb',xs0,epb,p1,p2⟩:=d1.bV
 cases epb
 have nLp:L≠pb:=fun e=>by rw[<-e,aE]at n1;cases n1
 have o1:=oL.mono s1
 have p1':H1 pb=some (.lst xs0):=aq _ _ p1
 have oE:Od H1 (ad (ad D L) pb):=o1.ad p1'
 have sE:aQ (hd (upd H L (.lst [])) (ad D L)) (hd H1 (ad (ad D L) pb)):=by
  rw[<-m8 n1]
  exact aU s1
 refine⟨_,rfl,ad (ad D L) pb,v1,ps,1,rfl,oE,hRL.mono sE,np,fun cb H2 s2 n2 d2=>?_⟩
 obtain⟨cb',cxs,ecb,q1,q2⟩:=d2.bV
 cases ecb
 have lq:=q2.length
 rw[aa]at lq
 have fC:=IT ps 1 np
 have fP:=IT ps 2 np
 generalize ads:gT (fj ps 1)=tX at q2 lq fC
 generalize adt:gT (fj ps 2)=ie at p2 fP
 have lc:tX.length<=5000:=by rw[<-ads];exact bQ (nL _) (by unfold fj;rw[aa];exact np)
 have lpu:ie.length<=5000:=by rw[<-adt];exact bQ (nL _) (by unfold fj;rw[aa];exact np)
 have oE2:=oE.mono s2
 have hR2:pI K CP (hd H2 (ad (ad D L) pb)) v1 ps:=(hRL.mono sE).mono (aU s2)
 have ncL:cb≠L:=fun e=>by rw[e]at q1;have:=(rE q1).2;rw[zf fX]at this;cases this
 have ncp:cb≠pb:=fun e=>by rw[e]at q1;have:=(rE q1).2;rw[fX]at this;cases this
 have agU:∀i,(rA ps least tX ie i).1.length<=5000/\(rA ps least tX ie i).2.length<=5000/\∀p∈(rA ps least tX ie i).2,p∈ie:=fun i=>by
  obtain⟨a,b,c⟩:=Fj ps least (tX.take i) ([],ie)
  unfold rA
  refine⟨?_,bQ b lpu,c⟩
  rw[a,a_]
  simp
  omega
 refine⟨cb,rfl,⟨_,cG.of (aq _ _ q1)⟩,kq (K:=K) (a:=cb) (xs:=cxs)
  (fun i σ H'=>∃v4 v5,σ=[some v1,some (vn least),some (.ref L),some (.ref pb),v4,v5,none]/\EA K C D H2 H' L pb (rA ps least tX ie i).1 (rA ps least tX ie i).2)
  ⟨none,none,rfl,fun b o e _ _=>e,⟨[],s2 _ _ (s1 _ _ aE),.nil⟩,xs0,s2 _ _ p1',(aU s2).EG (Oa p1' (fun v hv=>hv) p2)⟩
  (fun i σ H' _⟨_,_,_,c⟩=>cG.of (c.same _ _ (aq _ _ q1) ncL ncp)) ?_ ?_⟩
 ·rintro i y σ H' hi ⟨v4,v5,rfl,c⟩
  obtain⟨d,e1,hy⟩:=q2.get hi
  obtain⟨ct,ect,rfl⟩:=mT e1
  have hm:=aL ect
  have hyc:=c.sd.dp hy
  have oC:=c.od oE2
  have hRc:pI K CP (hd H' (ad (ad D L) pb)) v1 ps:=hR2.mono c.sd
  obtain⟨xs,x1,x2⟩:=c.exP
  obtain⟨l1,l2,l3⟩:=agU i
  rw[Px ect]
  generalize rA ps least tX ie i=st at c x2 l1 l2 l3⊢
  obtain⟨cba,rfl,zc⟩:=i7 hyc
  have RS:∀H3,aQ H' H3->JA ps least st.2 ct=none->∀x1 x2 x0 GD,H3 x1=none->(upd H3 x1 (.lst [])) x2=none->(upd (upd H3 x1 (.lst [])) x2 (.lst [])) x0=none->(upd (upd H3 x1 (.lst [])) x2 (.lst [])) GD=none->GD≠x0->
    ∃acc,(upd (upd (upd (upd (upd H3 x1 (.lst [])) x2 (.lst [])) GD (.own x0)) x0 (.ins C GD [])) x0 (.ins C GD (chF (vn 2) (.ref x1) (.ref cba) (.ref x2) (vn 0)))) L=some (.lst acc)/\acc.length<aK/\
     EA K C D H2 (upd (upd (upd (upd (upd (upd H3 x1 (.lst [])) x2 (.lst [])) GD (.own x0)) x0 (.ins C GD [])) x0 (.ins C GD (chF (vn 2) (.ref x1) (.ref cba) (.ref x2) (vn 0)))) L (.lst (acc++[.ref x0]))) L pb (jF ps least st ct).1 (jF ps least st ct).2:=by
   intro H3 s3 hmt x1 x2 x0 GD GG Hj nx nd ne
   have t1:=aQ.new (o:=.lst []) GG
   have t2:=aQ.new (o:=.lst []) Hj
   have SS:=t1.trans t2
   have o3:=oC.mono s3
   obtain⟨t3,t4⟩:=D9 (K:=K) (C:=C) (c:=Aq ct) (o3.mono SS) nx nd ne ((aU t2).dp (k_ GG o3 .nil)) ((aU (s3.trans SS)).dp hyc) (k_ Hj (o3.mono t1) .nil)
   obtain⟨Up,b3,b4,c4⟩:=(c.skip (s3.trans (SS.trans t3))).push nLp t4
   refine⟨Up,b3,by rw[b4];exact big (by omega),?_⟩
   have e2:jF ps least st ct=(st.1++[Aq ct],st.2):=by unfold jF;rw[hmt]
   rw[e2]
   exact c4
  obtain⟨agV,a1,_⟩:=c.exL
  refine sG vy (yE rfl) (fun _ r=>⟨_,rfl,cba,_,rfl,.inl (cG.of (aq _ _ zc)),r⟩) ⟨_,rfl,Qn (fun e=>?_) fun e=>?_⟩
  ·have adu:(decide (1<=least)&&decide (least<=ct.length))=true:=by
    rw[aa]at e
    rw[bx,aM,aM]at e⊢
    obtain⟨h1,h2⟩:=e
    exact⟨by omega,by omega⟩
   have pbD:ad D L pb=false:=VI ((hO.upd (p:=L) (o:=.lst [])).fresh n1) (iG nLp)
   have dpb:Dx K (hd H' (ad D L)) (.ref pb) (.list (st.2.map dH)):=.lst (iY x1 pbD) (wu.EG x2)
   refine⟨_,rfl,_,rfl,_,rfl,ad D L,v1,.ref cba,.ref pb,ps,ct,st.2,rfl,fun b hb=>oC b (zf hb),hRc.mono wu,kR,wu.dp hyc,dpb,(fC ct hm).1,(fC ct hm).2,fun p hp=>fP p (l3 p hp),fun vp H3 s3 hvp=>?_⟩
   cases RZ:st.2.find? (IQ ps ct)with
   |none=>
    rw[RZ]at hvp
    subst hvp
    have hmt:JA ps least st.2 ct=none:=by unfold JA;rw[aG adu,RZ]
    refine⟨_,rfl,_,rfl,kO rfl ?_⟩
    refine⟨_,rfl,.inl ⟨rfl,_,cG.of (s3 _ _ a1)⟩,bE _,fun x1 GG=>⟨_,rfl,bE _,fun x2 Hj=>?_⟩⟩
    intro x0 GD nx nd ne
    obtain⟨acc,g1,g2,g3⟩:=RS H3 s3 hmt x1 x2 x0 GD GG Hj nx nd ne
    exact⟨x0,GD,_,_,_,_,_,rfl,aE,rfl,L,acc,_,rfl,rfl,g1,g2,_,_,rfl,g3⟩
   |some p=>
    rw[RZ]at hvp
    have hpm:=fD RZ
    have hmt:JA ps least st.2 ct=some p:=by unfold JA;rw[aG adu,RZ]
    obtain⟨pa,rfl,zp⟩:=i7 hvp
    obtain⟨zp1,zp2⟩:=rE zp
    have x1':=s3 _ _ x1
    have npa:pa≠pb:=fun e=>by
     rw[e,x1']at zp1
     cases zp1
     obtain⟨j,hj⟩:=lU hpm
     obtain⟨v,hv1,hv2⟩:=x2.MN (i:=j) (d:=dH p) (by rw[aT,hj];rfl)
     obtain⟨bb,rfl,_⟩:=i7 hv2
     obtain⟨n,_,q⟩:=bI.mp (aL hv1)
     cases q
    have dpa:Dx K (hd H3 (ad (ad D L) pb)) (.ref pa) (dH p):=.lst (iY zp1 (VI zp2 npa)) (je p)
    refine⟨_,rfl,_,rfl,iL rfl ?_⟩
    have c3:=c.skip s3
    obtain⟨Ug,y1,y2⟩:=c3.exP
    rw[x1']at y1
    cases y1
    have lx:=y2.length
    rw[aa]at lx
    refine⟨_,rfl,.inl ⟨rfl,_,cG.of x1'⟩,_,rfl,pb,xs,.ref pa,st.2.map dH,dH p,st.2.idxOf p,rfl,rfl,x1',aq.EG y2,aq.dp dpa,fun z hz=>?_,?_,RY p,⟨dH p,?_,?_⟩,?_,?_⟩
    ·obtain⟨q,_,rfl⟩:=bI.mp hz
     exact D6 q
    ·exact D6 p
    ·rw[aT,aB (yq hpm),Yd]
     rfl
    ·rw[Ob];exact aI rfl
    ·intro m z hm hz
     obtain⟨q,eq,rfl⟩:=mT hz
     rw[Ob]
     exact aH fun e=>LK hm (e▸eq)
    ·have c5:=c3.rem nLp x1' (st.2.idxOf p)
     rw[N1 hpm]at c5
     obtain⟨aop,b1,b2⟩:=c5.exL
     refine⟨_,rfl,.inl ⟨rfl,_,cG.of b1⟩,_,rfl,_,rfl,bE _,fun x2 Hj=>?_⟩
     intro x0 GD nx nd ne
     have t2:=aQ.new (o:=.lst []) Hj
     have o5:Od (upd H3 pb (.lst (xs.eraseIdx (st.2.idxOf p)))) (ad (ad D L) pb):=(oC.mono s3).upd
     have e5:hd (upd H3 pb (.lst (xs.eraseIdx (st.2.idxOf p)))) (ad (ad D L) pb)=hd H3 (ad (ad D L) pb):=qk fX
     obtain⟨t3,t4⟩:=D9 (K:=K) (C:=C) (c:=zy p ct) (o5.mono t2) nx nd ne ((aU t2).dp (by rw[e5];exact dpa)) ((aU t2).dp (by rw[e5];exact(aU s3).dp hyc)) (k_ Hj o5 .nil)
     obtain⟨Up,b3,b4,c4⟩:=(c5.skip (t2.trans t3)).push nLp t4
     refine⟨x0,GD,_,_,_,_,_,rfl,aE,rfl,L,Up,_,rfl,rfl,b3,?_,?_⟩
     ·rw[b4];exact big (by omega)
     ·refine⟨_,_,rfl,?_⟩
      have e2:jF ps least st ct=(st.1++[zy p ct],st.2.erase p):=by unfold jF;rw[hmt]
      rw[e2]
      exact c4
  ·have hmt:JA ps least st.2 ct=none:=by
    unfold JA
    rw[aa]at e
    rw[aD]
    intro q
    rw[bx,aM,aM]at q
    rw[Ej,decide_eq_false_iff_not,decide_eq_false_iff_not]at e
    omega
   refine⟨_,rfl,_,rfl,kO rfl ?_⟩
   refine⟨_,rfl,.inl ⟨rfl,_,cG.of a1⟩,bE _,fun x1 GG=>⟨_,rfl,bE _,fun x2 Hj=>?_⟩⟩
   intro x0 GD nx nd ne
   obtain⟨acc,g1,g2,g3⟩:=RS H' (aQ.refl _) hmt x1 x2 x0 GD GG Hj nx nd ne
   exact⟨x0,GD,_,_,_,_,_,rfl,aE,rfl,L,acc,_,rfl,rfl,g1,g2,_,_,rfl,g3⟩
 ·rintro σ H3 ⟨v4,v5,rfl,c⟩
  rw[lq]at c
  have lQ:rA ps least tX ie tX.length=Dg ps least tX ie:=by unfold rA Dg;rw[cU]
  obtain⟨l1,l2,l3⟩:=agU tX.length
  rw[lQ]at c l1 l2 l3
  have ecp:JB ps least=(Dg ps least tX ie).1++(Dg ps least tX ie).2.map yO:=by unfold JB;rw[ads,adt]
  generalize Dg ps least tX ie=st at c l1 l2 l3 ecp
  obtain⟨xs,x1,x2⟩:=c.exP
  have lx:=x2.length
  rw[aa]at lx
  have oC:=c.od oE2
  refine⟨_,rfl,pb,rfl,⟨_,cG.of x1⟩,kq (K:=K) (a:=pb) (xs:=xs)
   (fun j σ H'=>∃v6,σ=[some v1,some (vn least),some (.ref L),some (.ref pb),v4,v5,v6]/\H' pb=some (.lst xs)/\EA K C D H2 H' L pb (st.1++(st.2.map yO).take j) st.2/\aQ (hd H3 (ad (ad D L) pb)) (hd H' (ad (ad D L) pb)))
   ⟨none,rfl,x1,by rw[qu,cQ];exact c,aQ.refl _⟩ (fun j σ H' _⟨_,_,z,_⟩=>cG.of z) ?_ ?_⟩
  ·rintro j y σ H' hj ⟨v6,rfl,z,cj,sj⟩
   obtain⟨d,e1,hy⟩:=x2.get hj
   obtain⟨p,ep,rfl⟩:=mT e1
   have hj2:j<st.2.length:=(az.mp ep).1
   have epc:(st.2.map yO)[j]?=some (yO p):=by rw[aT,ep];rfl
   have oj:=cj.od oE2
   obtain⟨agV,a1,_⟩:=cj.exL
   have hyj:=sj.dp hy
   refine⟨_,rfl,.inl ⟨rfl,_,cG.of a1⟩,_,rfl,bE _,fun x1 GG=>⟨bE _,fun x2 Hj=>?_⟩⟩
   intro x0 GD nx nd ne
   have t1:=aQ.new (o:=.lst []) GG
   have t2:=aQ.new (o:=.lst []) Hj
   have SS:=t1.trans t2
   obtain⟨t3,t4⟩:=D9 (K:=K) (C:=C) (c:=yO p) (oj.mono SS) nx nd ne ((aU SS).dp hyj) ((aU t2).dp (k_ GG oj .nil)) (k_ Hj (oj.mono t1) .nil)
   obtain⟨Up,b3,b4,c4⟩:=(cj.skip (SS.trans t3)).push nLp t4
   refine⟨x0,GD,_,_,_,_,_,rfl,aE,rfl,L,Up,_,rfl,rfl,b3,?_,?_⟩
   ·rw[b4,au,a_,aa]
    exact big (by omega)
   ·refine⟨_,rfl,?_,?_,?_⟩
    ·rw[bY (iG nLp)]
     exact(SS.trans t3) _ _ z
    ·rw[gv epc,<-gO]
     exact c4
    ·rw[qk (zf fX)]
     exact sj.trans (aU (SS.trans t3))
  ·rintro σ H' ⟨v6,rfl,z,cj,sj⟩
   rw[show xs.length=(st.2.map yO).length by rw[aa];exact lx,cU,<-ecp]at cj
   have nH:H pb=none:=by
    have:=n1
    rw[bY (iG nLp)]at this
    exact this
   have sH:aQ H H':=fun b o eb=>cj.same b o (s2 _ _ (s1 _ _ (by rw[bY (cW eb hL)];exact eb))) (cW eb hL) (cW eb nH)
   obtain⟨acc,h1,h2⟩:=cj.exL
   exact⟨_,rfl,k _ _ sH ⟨L,acc,rfl,iY h1 (hO.fresh hL),h2.imp fun v b h=>Bm.mono _ _ v b (wu.trans wu) h⟩⟩
end
def aaz(K:ah)(a:ak):It:=
 ⟨fun i H=>∃(xs:List V)(x:V),cG K H a xs/\xs[i]?=some x,fun i H v H'=>∃T x,v=.ref T/\H T=none/\H'=upd H T (.tup [.int ((i+1:Nat):Int),x])/\∀xs,cG K H a xs->xs[i]?=some x,fun i H=>∃xs:List V,cG K H a xs/\xs.length<=i⟩
theorem UI{P:bD}{w:cC}{K:ah}{KW:List fK}{kk:Nat}{Gd:AB}(a e it:ak):OF P w K (.Tuple KW kk Gd) (aaz K a) [e,it] e (fun i h=>(∃old,IsEnum h e it ((i+1:Nat):Int) old)/\h.IsListIter it a i/\e≠it) where
 mem:=by simp
 obj:=fun i h st b hb=>by
  obtain⟨⟨old,he⟩,⟨o,ho,hc,hd⟩,_⟩:=st
  rcases(show b=e\/b=it by simpa using hb)with z|z
  ·rw[z];exact⟨_,he,fun v q=>nomatch q⟩
  ·rw[z];exact⟨o,ho,fun v q=>by rw[hd]at q;cases q⟩
 keep:=fun i h h' st k=>let⟨⟨old,he⟩,hi,qI⟩:=st;⟨⟨old,k e (by simp) _ he⟩,hi.at fun o q=>k it (by simp) o q,qI⟩
 item:=by
  intro X hP hw hK hc i pins s σ H E I hf st hg
  subst hP hw hK
  obtain⟨⟨old,he⟩,hit,qI⟩:=st
  obtain⟨xs,x,hq,hx⟩:=hg
  obtain⟨fi,rv,p,hz⟩:=I.list hq
  obtain⟨u,hu,ru⟩:=rv.get hx
  have hel:e<s.heap.objs.size:=bU he
  have hil:it<s.heap.objs.size:=by obtain⟨_,q,_⟩:=hit;exact bU q
  have hai:a≠it:=fun z=>by
   obtain⟨o,q,c,_⟩:=hit
   obtain⟨o',q',c',_⟩:=p.isList
   rw[z,q]at q'
   cases q'
   rw[c]at c'
   exact absurd (Ce c') (by decide)
  have hea:e≠a:=fun z=>by
   obtain⟨o',q',c',_⟩:=p.isList
   rw[<-z,he]at q'
   cases q'
   exact absurd (Ce c') (by decide)
  have wD:i<fi.length:=(az.mp hu).1
  refine wpAny_pyNext_enum_itemD (Draws.list (A:=X.A.in1) (I.ok.hd hc) it a hai fi.toArray).shift he ⟨i,rfl,hit,p.isList⟩ (by simpa using wD) qI (by simp[qI,hea]) fun x' h' tk hP ho lQ hT hsz hk=>?_
  obtain⟨j,ej,hP⟩:=hP
  obtain rfl:i=j:=by omega
  obtain rfl:u=x':=by
   have:fi[i]?=some x':=by simpa using hP
   rw[hu]at this
   exact bH this
  obtain⟨j,ej,aem,_⟩:=lQ
  obtain rfl:i+1=j:=by omega
  refine⟨_,rfl,Vh (s:={s with heap:=h',toks:=tk+1}) ho fun XS he' sb=>?_⟩
  have hT2:XS.get? s.heap.objs.size=some {cls:=.type "tuple",data:=.seq #[.int ((i+1:Nat):Int) tk,u]}:=(sb.2 _ (JW hel)).trans hT
  have new:kP X.prog X.w (upd H s.heap.objs.size (.tup [.int ((i+1:Nat):Int),x])) XS s.heap.objs.size (.tup [.int ((i+1:Nat):Int),x]):=
   ⟨by show 2<=aK;decide,[.int ((i+1:Nat):Int) tk,u],.cons ⟨_,rfl⟩ (.cons ru .nil),⟨_,hT2,rfl,_,rfl⟩⟩
  have I1:dO X pins σ (upd H s.heap.objs.size (.tup [.int ((i+1:Nat):Int),x])) {s with heap:=XS,toks:=tk+1}:=
   I.Hz (ch:=[e,it]) (fun b ob hb q=>(sb.2 b (fun z=>hb (by simp[z]))).trans (hk b ob (fun z=>hb (by simp[z])) (fun z=>hb (by simp[z])) q)) hf (aV _) new
  refine⟨.ref s.heap.objs.size,_,I1,rfl,⟨_,x,rfl,I.dz.fresh (aV _),rfl,fun ys hy=>by rw[I.Ag hy hq];exact hx⟩,⟨⟨u,?_⟩,aem.at fun o q=>(sb.2 it (iG qI)).trans q,qI⟩,fun b hb=>?_⟩
  ·have e1:((i+1+1:Nat):Int)=((i+1:Nat):Int)+1:=by omega
   rw[e1];exact he'
  ·have Jr:b<s.heap.objs.size:=by
    rcases(show b=e\/b=it by simpa using hb)with z|z
    ·rw[z];exact hel
    ·rw[z];exact hil
   rw[bY (d8 Jr)]
   exact(hf b hb).1
 done:=by
  intro X hP hw hK hc i pins s σ H E I hf st hg
  subst hP hw hK
  obtain⟨⟨old,he⟩,hit,qI⟩:=st
  obtain⟨xs,hq,hx⟩:=hg
  obtain⟨fi,rv,p,hz⟩:=I.list hq
  obtain⟨f0,f1,f2,f3,f4,f5⟩:=hf it (by simp)
  have hl:=rv.length
  exact Wo (I.ok.hd hc) he hit p.isList (by simp;omega) fun h' eb=>⟨rfl,I.turned (t':=s.toks) (fun b o hb q=>eb b o hb q) f0 f1 f3 f4 f5⟩
 self:=fun A i s Q E st h=>let⟨⟨_,he⟩,_⟩:=st;Cv he h
def aeU(K:ah)(ta:TA):TI:=fun σ H R=>ta σ H fun vs H1=>∃a xs,vs=[.ref a]/\cG K H1 a xs/\R (aaz K a) H1
theorem R0{X:Cx}{e:fK}{te:TE}{p kpos agX pos Gd:AB}{KW:List fK}{kk:Nat}{ii:Tok}(hg:Gl X "enumerate")(hm:X.mg "enumerate"=none)(he:PE X e te)
  (h1:b_ [e] X.env=(false,eval e X.env)::b_ [] X.env:=by rfl)(h2:jI pos (b_ [e] X.env)=(false,eval e X.env)::jI pos (b_ [] X.env):=by rfl)(h3:(jI pos (b_ [e] X.env)).any (·.1)=false:=by rfl):
  PI X (.Tuple KW kk Gd) (.Call (.Name "enumerate" p) [e] [⟨some "start",.Constant (.int 1) ii agX,kpos⟩] pos) (aeU X.K (YJ te TN)):=by
 intro pins s σ H R I h
 refine lO (AU I hg hm boot_enumerate ?_)
 refine Jp (jw (aj he (aA (X:=X)) h1 pos pins s σ H _ I h) fun us s1⟨vs,H1,I1,r1,q1⟩=>?_) h2 h3 rfl rfl
 obtain⟨a,xs,ex,hq,q⟩:=q1
 subst ex
 refine jw (Vy (nm:=some "start") (kpos:=kpos) (b9 (X:=X) (i:=1) (j:=ii) (pos:=agX)) (YM (X:=X)) pos pins s1 σ H1 (fun zs H2=>zs=[.int 1]/\H2=H1) I1 ⟨rfl,rfl⟩) fun ws s2⟨zs,H2,I2,rz,e1,e2⟩=>?_
 subst e1 e2
 cases r1 with
 |cons r rr=>
  cases rr
  cases r
  obtain⟨u,rfl,t,rfl⟩:=rz.one
  obtain⟨fi,rv,p',hz⟩:=I2.list hq
  refine Tf p'.isList fun h' he hit hsz hk=>Cv he ?_
  have I3:dO X pins σ H2 {s2 with heap:=h'}:=I2.kept (t':=s2.toks) hk
  refine⟨s2.heap.objs.size+1,[s2.heap.objs.size+1,s2.heap.objs.size],_,_,H2,rfl,I3,UI a (s2.heap.objs.size+1) s2.heap.objs.size,⟨⟨.none,he⟩,hit,acO _⟩,fun b hb=>?_,q⟩
  have WH:s2.heap.objs.size<=b:=by
   rcases(show b=s2.heap.objs.size+1\/b=s2.heap.objs.size by simpa using hb)with z|z
   ·rw[z];exact qN _ _
   ·rw[z];exact aV _
  exact I2.QO WH (I2.dz.fresh WH)
theorem Oc{K:ah}{a:ak}{xs:List V}{g:TG}{tb:TS}{D:KG}{σ:St}{H:Hp}(Pv:Nat->St->Hp->Prop)(h0:Pv 0 σ H)(hl:∀i σ H,i<=xs.length->Pv i σ H->cG K H a xs)(hs:∀i x σ H T,xs[i]?=some x->Pv i σ H->H T=none->g (.ref T) σ (upd H T (.tup [.int ((i+1:Nat):Int),x])) fun σ2 H2=>tb {D with nx:=Pv (i+1),ct:=Pv (i+1),bk:=D.nx} σ2 H2)(hd:∀σ H,Pv xs.length σ H->D.nx σ H):∃W:Nat->Nat->St->Hp->Prop,(∃m,W 0 m σ H)/\∀i m σ H,W i m σ H->((aaz K a).stop i H/\D.nx σ H)\/((aaz K a).go i H/\∃N:St->Hp->Prop,(∀σ' H',N σ' H'->∃m',m'<m/\W (i+1) m' σ' H')/\∀x H',(aaz K a).Qi i H x H'->g x σ H' fun σ2 H2=>tb {D with nx:=N,ct:=N,bk:=D.nx} σ2 H2):=by
 refine⟨fun i m σ H=>m=xs.length-i/\i<=xs.length/\Pv i σ H,⟨xs.length,by simp,bE _,h0⟩,?_⟩
 rintro i m σ H ⟨rfl,hi,p⟩
 have q:=hl i σ H hi p
 by_cases wD:i<xs.length
 ·refine .inr ⟨⟨xs,xs[i],q,by simp[wD]⟩,Pv (i+1),fun σ' H' p'=>⟨xs.length-(i+1),by omega,rfl,wD,p'⟩,fun v H' y=>?_⟩
  obtain⟨T,x,e,hn,e2,y⟩:=y
  subst e e2
  exact hs i x σ H T (y xs q) p hn
 ·have e:i=xs.length:=by omega
  subst e
  exact .inl ⟨⟨xs,q,aV _⟩,hd σ H p⟩
theorem Xk{α β:Type}{f:α->β}{l m:List β}(h:l.Perm m):∀zs:List α,m=zs.map f->∃zs':List α,zs'.Perm zs/\l=zs'.map f:=by
 induction h with
 |nil=>intro zs e;exact⟨zs,List.Perm.refl _,e⟩
 |cons x h ih=>
  intro zs e
  cases zs with
  |nil=>simp at e
  |cons z zs=>
   rw[bg,iE]at e
   obtain⟨zs',p,q⟩:=ih zs e.2
   exact⟨z::zs',List.Perm.cons z p,by rw[bg,<-q,e.1]⟩
 |swap x y l=>
  intro zs e
  cases zs with
  |nil=>simp at e
  |cons z zs=>
   cases zs with
   |nil=>simp at e
   |cons z' zs=>
    rw[bg,bg,iE,iE]at e
    exact⟨z'::z::zs,List.Perm.swap z z' zs,by rw[bg,bg,<-e.1,<-e.2.1,<-e.2.2]⟩
 |trans h1 h2 ih1 ih2=>
  intro zs e
  obtain⟨zs1,p1,q1⟩:=ih2 zs e
  obtain⟨zs2,p2,q2⟩:=ih1 zs1 q1
  exact⟨zs2,p2.trans p1,q2⟩
theorem Py(ps:List Pc)(c:Nat):(mz ps c).length<=ps.length:=by
 unfold mz GK run
 exact bQ (o_ _ _) (by rw[eK,sW];exact aV _)
theorem cD.places{ps:List Pc}{P:List (Nat×Nat)}(h:cD ps P){c:Nat}(hc:c∈nZ ps P):mK (ig ps P c)≠[]/\(mK (ig ps P c)).length<=2*ps.length:=by
 have c1:=(jH.mp hc).1
 have ne:∀{d},d∈lG (bT ps).length->mz ps d≠[]:=fun{d}hd e=>by
  have:=xg (zA hd)
  unfold mz at e
  rw[e]at this
  simp at this
 rcases h.yR c with⟨x,hx,h1⟩|hm
 ·rw[h.ju hx h1]
  show mz ps x.2++mz ps x.1++[]≠[]/\_
  refine⟨fun e=>ne (i8 (h.put x hx)) (by simp at e;exact e.1),?_⟩
  show(mz ps x.2++mz ps x.1++[]).length<=_
  rw[cQ,au]
  have:=Py ps x.1
  have:=Py ps x.2
  omega
 ·rw[iw hm]
  have:=Py ps c
  have nc:=ne c1
  rcases pL c1 with hs|hs|⟨k,hk,hs⟩
  ·rw[tD hs]
   show mz ps c++[]++[]≠[]/\(mz ps c++[]++[]).length<=_
   rw[cQ,cQ]
   exact⟨nc,by omega⟩
  ·rw[tw hs]
   show []++mz ps c++[]≠[]/\([]++mz ps c++[]).length<=_
   rw[cQ,oY]
   exact⟨nc,by omega⟩
  ·rw[nO hs]
   show []++[]++mz ps c≠[]/\([]++[]++mz ps c).length<=_
   rw[oY,oY]
   exact⟨nc,by omega⟩
theorem R3(ps:List Pc)(least:Nat):(JB ps least).length<=2*ps.length:=by
 unfold JB
 simp only
 obtain⟨a,b,_⟩:=Fj ps least (gT (fj ps 1)) ([],gT (fj ps 2))
 have h1:=nL (fj ps 1)
 have h2:=nL (fj ps 2)
 have e1:(fj ps 1).length=ps.length:=by unfold fj;rw[aa]
 have e2:(fj ps 2).length=ps.length:=by unfold fj;rw[aa]
 unfold Dg
 rw[au,aa,a]
 simp only[Mu]
 simp only at b
 omega
theorem GW(ps:List Pc):(qK ps).length<=4*ps.length:=by
 unfold qK
 have Ql:∀n,((bK n).flatMap (ku ps)).length<=n*ps.length:=by
  intro n
  induction n with
  |zero=>simp
  |succ n ih=>
   rw[gB,gJ,au,jm]
   have:(ku ps n).length<=ps.length:=by
    unfold ku
    rw[aa]
    exact bQ (nL _) (by rw[aa];exact aV _)
   rw[Nat.succ_mul]
   omega
 exact Ql 4
section
variable{P:bD}{w:cC}{K:ah}{mg:cM->Option ao}{base:cY}
def Oe(K:ah)(CP C:ak):Sp:=fun vs H Q _=>∃D v1 ps least,vs=[v1,vn least]/\Od H D/\pI K CP (hd H D) v1 ps/\Po ps/\(∀p∈ps,jn p)/\ps.length<=5000/\∀v H',aQ H H'->Dd K C (hd H' D) v (GQ ps least)->Q v H'
theorem adw{R:V->Ch->Prop}:∀{xs:List V}{cs:List Ch},Al R xs cs->∃zs:List (V×Ch),xs=zs.map (·.1)/\cs=zs.map (·.2)/\∀z∈zs,R z.1 z.2
 |_,_,.nil=>⟨[],rfl,rfl,fun z h=>by simp at h⟩
 |_,_,.cons (v:=x) (b:=c) h t=>by
  obtain⟨zs,e1,e2,q⟩:=adw t
  refine⟨(x,c)::zs,by rw[bg,<-e1],by rw[bg,<-e2],fun z hz=>?_⟩
  rcases aW.mp hz with rfl|hz
  ·exact h
  ·exact q z hz
theorem R4{R:V->Ch->Prop}:∀{zs:List (V×Ch)},(∀z∈zs,R z.1 z.2)->Al R (zs.map (·.1)) (zs.map (·.2))
 |[],_=>.nil
 |z::zs,h=>.cons (h z (by simp)) (R4 fun y hy=>h y (by simp[hy]))
theorem Na{CP C:ak}(G:fT K mg)(Df:jL K mg "changes_of" wN ["row","least"])(oB:bG P w K mg base "cuts_puts_and_moves" ["row","least"] 3 (aad K CP C))(LM:bG P w K mg base "paints" ["row"] 3 (RJ K CP C))(UJ:bG P w K mg base "rank" ["change"] 1 (aab K C)):bG P w K mg base "changes_of" ["row","least"] 4 (Oe K CP C):=by
 refine Df.ok MQ (fun vs H Q E⟨_,_,_,_,e,_⟩=>by rw[e];rfl) fun f iB A outer s H vs Q E hr h=>?_
 obtain⟨D,v1,ps,least,rfl,hO,hR,kR,dz,np,k⟩:=h
 refine⟨_,(aJ (bF (Uo UJ hr G.ZA (jx uh (bL oB (hr.mono (by decide)) (aj (pv 0) (aj (pv 1) aA))) (bL LM (hr.mono (by decide)) (aj (pv 0) aA)))))),?_⟩
 refine⟨_,rfl,_,rfl,D,v1,ps,least,rfl,hO,hR,kR,np,fun va H1 s1 c1=>?_⟩
 refine⟨_,rfl,D,v1,ps,rfl,hO.mono s1,hR.mono (aU s1),np,fun vb H2 s2 c2=>?_⟩
 obtain⟨a1,Xl,rfl,g1,g2⟩:=(c1.mono (aU s2)).ex
 obtain⟨b1,R5,rfl,g3,g4⟩:=c2.ex
 have l1:=g2.length
 have l2:=g4.length
 have m1:=R3 ps least
 have m2:=GW ps
 refine⟨a1,b1,Xl,R5,rfl,rfl,aq _ _ g1,aq _ _ g3,nI (by omega),fun q hq=>?_⟩
 have s3:=aQ.new (o:=.lst (Xl++R5)) hq
 have o2:=hO.mono (s1.trans s2)
 have al:Al (Bm K C (hd (upd H2 q (.lst (Xl++R5))) D)) (Xl++R5) (JB ps least++qK ps):=(g2.append g4).imp fun v b h=>Bm.mono _ _ v b (aU s3) h
 obtain⟨zs,e1,e2,hz⟩:=adw al
 have perm:=HW dz kR least
 refine⟨q,Xl++R5,(JB ps least++qK ps).map De,rfl,cG.of aE,by rw[aa,au,au];omega,fun i x p H' Qk hx hp s4 kk=>?_,fun H' q' ys s4 Qj hs=>?_⟩
 ·obtain⟨c,ec,rfl⟩:=mT hp
  obtain⟨c',ec',hc⟩:=al.get hx
  rw[ec]at ec'
  cases ec'
  have Kf:c∈GQ ps least:=perm.mem_iff.mp (aL ec)
  obtain⟨e,he,rfl⟩:=bI.mp Kf
  obtain⟨f1,f2⟩:=(Dr ps least).places he
  exact⟨D,x,_,rfl,(o2.mono s3).mono s4,Bm.mono _ _ _ _ (aU s4) hc,f1,by omega,kk⟩
 ·obtain⟨prs,h1,h2,h3⟩:=hs
  have ez:((JB ps least++qK ps).map De).zip (Xl++R5)=zs.map fun z=>(De z.2,z.1):=by
   rw[e1,e2,aR]
   clear e1 e2 hz h1
   induction zs with
   |nil=>rfl
   |cons z zs ih=>rw[bg,bg,List.zip_cons_cons,bg,ih];rfl
  rw[ez]at h1
  obtain⟨zs',p1,p2⟩:=Xk h1 zs rfl
  have ecs:zs'.map (·.2)=GQ ps least:=by
   refine RV dz kR (least:=least) ?_ ?_
   ·rw[e2];exact p1.map _
   ·rw[p2]at h3
    exact lY.mpr ((lY.mp h3).imp fun h=>h)
  have eys:ys=zs'.map (·.1):=by rw[h2,p2,aR];rfl
  clear h2
  subst eys
  have s5:=(s1.trans s2).trans (s3.trans s4)
  have s6:=aQ.new (o:=.lst (zs'.map (·.1))) Qj
  refine k _ _ (s5.trans s6) ⟨q',_,rfl,iY aE ((hO.mono s5).fresh Qj),?_⟩
  rw[<-ecs]
  exact R4 fun z hz'=>Bm.mono _ _ _ _ (aU (s4.trans s6)) (hz z (p1.mem_iff.mp hz'))
end
def R6(ps:List Pc)(cs:List Ch):List Nat:=(bK ps.length).map (qm cs)
def EO(n:Nat)(cs:List Ch)(c:Ch)(j t:Nat):List Nat:=(bK n).map fun i=>if i∈(c.ie++c.drops).take t then j+1 else qm (cs.take j) i
theorem Xm{n p m:Nat}{f:Nat->Nat}:(((bK n).map f).map vn).set p (vn m)=((bK n).map fun i=>if i=p then m else f i).map vn:=by
 rw[<-List.map_set]
 congr 1
 refine ud fun i=>?_
 rw[List.getElem?_set,aa,eK,aT,aT]
 by_cases hi:i<n
 ·rw[mW hi]
  by_cases e:p=i
  ·subst e
   rw[aG rfl,aG hi]
   simp
  ·rw[aD e]
   simp[iG e]
 ·rw[fu (by rw[eK];omega)]
  by_cases e:p=i
  ·subst e
   rw[aG rfl,aD hi]
   rfl
  ·rw[aD e]
   rfl
theorem UK{n:Nat}{cs:List Ch}{c:Ch}{j t pl:Nat}(h:(c.ie++c.drops)[t]?=some pl):((EO n cs c j t).map vn).set pl (vn (j+1))=(EO n cs c j (t+1)).map vn:=by
 unfold EO
 rw[Xm]
 congr 1
 refine bA fun i _=>?_
 rw[gv h]
 by_cases e:i=pl
 ·rw[aG e,aG (aX.mpr (.inr (by simp[e])))]
 ·rw[aD e]
  by_cases hm:i∈(c.ie++c.drops).take t
  ·rw[aG hm,aG (aX.mpr (.inl hm))]
  ·rw[aD hm,aD fun q=>by
    rcases aX.mp q with q|q
    ·exact hm q
    ·exact e (bJ.mp q)]
theorem Xn{ps:List Pc}{cs:List Ch}(h:JD ps cs){c:Ch}{j:Nat}(hc:cs[j]?=some c):EO ps.length cs c j (c.ie++c.drops).length=(bK ps.length).map (qm (cs.take (j+1))):=by
 unfold EO
 refine bA fun i _=>?_
 rw[cU,h.acq hc]
 unfold Pw
 by_cases e:i∈c.ie++c.drops
 ·rw[aG e,aG (aI e)]
 ·rw[aD e,aD (by rw[aH e];exact aF)]
theorem UL(n:Nat)(cs:List Ch)(c:Ch)(j:Nat):EO n cs c j 0=(bK n).map (qm (cs.take j)):=by
 unfold EO
 refine bA fun i _=>?_
 rw[qu,aD (by simp)]
section
variable{P:bD}{w:cC}{K:ah}{mg:cM->Option ao}{base:cY}
def agY(K:ah)(CP C:ak):Sp:=fun vs H Q _=>∃D v1 v2 ps cs,vs=[v1,v2]/\Od H D/\pI K CP (hd H D) v1 ps/\Dd K C (hd H D) v2 cs/\JD ps cs/\ps.length<=5000/\∀v H',aQ H H'->Dx K (hd H' D) v (dH (R6 ps cs))->Q v H'
theorem R7{l:List Nat}{n:Nat}(hn:l.Nodup)(h:∀i∈l,i<n):l.length<=n:=by
 have e:=vg (n:=n) (f:=fun i=>decide (i∈l)) hn fun i=>⟨fun hi=>⟨h i hi,aI hi⟩,fun q=>f9 q.2⟩
 have:=o_ (fun i=>decide (i∈l)) (bK n)
 rw[eK]at this
 omega
theorem Dv{CP C:ak}(G:fT K mg)(TC:iO K C xP)(Df:jL K mg "numbers_of_pieces" l_ ["row","changes"]):bG P w K mg base "numbers_of_pieces" ["row","changes"] 1 (agY K CP C):=by
 refine Df.ok iM (fun vs H Q E⟨_,_,_,_,_,e,_⟩=>by rw[e];rfl) fun f iB A outer s H vs Q E hr h=>?_
 obtain⟨D,v1,v2,ps,cs,rfl,hO,hR,hC,hS,np,k⟩:=h
 obtain⟨a,acc,rfl,h1,h2⟩:=hR.ex
 obtain⟨b,bcc,rfl,h3,h4⟩:=hC.ex
 have l1:=h2.length
 have l4:=h4.length
 refine⟨_,(aC (Aj (i:=2) (own:=[("piece",6)]) rfl iM.nd rfl rfl (DY rfl rfl rfl rfl) (fE (pv 0)) (gR (by rfl)) (fun _ _ _ _ _=>(cJ (i:=6) iM.nd rfl (by first|exact bz rfl|exact bB rfl))) (fun _ _ _ _ _=>jA) (fun _ _ _ _ _=>b9))
   (aC (jO cA rfl (R0 rfl G.rP (pv 1)) (xy rfl (gQ (cJ (i:=3) iM.nd rfl (by first|exact bz rfl|exact bB rfl)) (gQ (cJ (i:=4) iM.nd rfl (by first|exact bz rfl|exact bB rfl)) su))) (aJ (jO cA rfl (fE (jx uh (bC (K:=K) rfl (pv 4) rfl) (bC (K:=K) rfl (pv 4) rfl))) (cJ (i:=5) iM.nd rfl (by first|exact bz rfl|exact bB rfl)) (aJ (Yw (pv 3) (Yv (pv 2) (pv 5) QW))))))
   (aJ (bF (pv 2))))),?_⟩
 refine⟨_,rfl,a,rfl,⟨_,cG.of (aq _ _ h1)⟩,fun L hL=>?_⟩
 refine sU (R:=fun G v(m:Nat)=>Dx K G v (dn m)) (fun G G' v m s h=>s.dp h) (K:=K) (D:=D) (out:=ps.map fun _=>0) hL hO (cG.of (aq _ _ h1)) (by rw[aa];exact l1) (nI (by rw[aa];omega)) (fun _=>rfl)
  (fun i x m H' D' Qe hi ho s o sd kk=>?_) fun H1 ac s1 h6 h7=>?_
 ·obtain⟨p,_,rfl⟩:=mT ho
  exact kk _ _ (aQ.refl _) (.int _)
 ·have eac:ac=((bK ps.length).map (qm (cs.take 0))).map vn:=by
   rw[vL h7.dx]
   congr 1
   rw[acS,qu]
   have:qm []=fun _=>0:=rfl
   rw[this,acS,eK]
  subst eac
  refine⟨_,rfl,b,_,rfl,cG.of (s1 _ _ (aq _ _ h3)),Oc (K:=K) (a:=b) (xs:=bcc)
   (fun j σ H'=>∃v3 v4 v5,σ=[some (.ref a),some (.ref b),some (.ref L),v3,v4,v5,none]/\aQ H H'/\H' L=some (.lst (((bK ps.length).map (qm (cs.take j))).map vn)))
   ⟨none,none,none,rfl,s1,h6⟩ (fun j σ H' _⟨_,_,_,_,c,_⟩=>cG.of (c _ _ (aq _ _ h3))) ?_ ?_⟩
  ·rintro j y σ H' T hj ⟨v3,v4,v5,rfl,sH,q⟩ hT
   obtain⟨c,ec,hc⟩:=h4.get hj
   have Kf:=aL ec
   obtain⟨ca,Ft,w2,w3,w4,rfl,r1,r2,r3,r4⟩:=hc.ex
   obtain⟨b2,rfl,z2⟩:=i7 r2
   obtain⟨b3,rfl,z3⟩:=i7 r3
   have tT:=aQ.new (o:=.tup [.int ((j+1:Nat):Int),.ref ca]) hT
   have sT:=sH.trans tT
   have lp:c.ie.length<=5000:=bQ (R7 (hS.nP c Kf).1 fun i hi=>(hS.put c Kf i hi).1) np
   have ld:c.drops.length<=5000:=bQ (R7 (hS.nP c Kf).2.1 fun i hi=>(hS.drop c Kf i hi).1) np
   refine⟨T,_,rfl,rN.of aE,rfl,_,_,rfl,_,_,rfl,rfl,?_⟩
   refine⟨_,rfl,ca,C,Ft,_,_,rfl,sT _ _ (aq _ _ r1),TC.cl,TC.no _ (by decide),rfl,_,rfl,ca,C,Ft,_,_,rfl,sT _ _ (aq _ _ r1),TC.cl,TC.no _ (by decide),rfl,b2,b3,_,_,rfl,rfl,sT _ _ (aq _ _ z2),sT _ _ (aq _ _ z3),nI (by rw[aa,aa];omega),fun x hx=>?_⟩
   have exs:c.ie.map vn++c.drops.map vn=(c.ie++c.drops).map vn:=by rw[bu]
   rw[exs]
   have tx:=aQ.new (o:=.lst ((c.ie++c.drops).map vn)) hx
   have sx':=sT.trans tx
   have nxL:x≠L:=fun e=>by
    have:=tT _ _ q
    rw[<-e,hx]at this
    cases this
   refine⟨x,rfl,⟨_,cG.of aE⟩,kq (K:=K) (a:=x) (xs:=(c.ie++c.drops).map vn)
    (fun t σ H3=>∃v5,σ=[some (.ref a),some (.ref b),some (.ref L),some (.int ((j+1:Nat):Int)),some (.ref ca),v5,none]/\aQ H H3/\H3 x=some (.lst ((c.ie++c.drops).map vn))/\H3 L=some (.lst ((EO ps.length cs c j t).map vn)))
    ⟨v5,rfl,sx',aE,by rw[UL];exact tx _ _ (tT _ _ q)⟩ (fun t σ H3 _⟨_,_,_,z,_⟩=>cG.of z) ?_ ?_⟩
   ·rintro t y σ H3 ht ⟨v5,rfl,s3,z,q3⟩
    obtain⟨pl,Z_,rfl⟩:=mT ht
    have Eo:pl<ps.length:=by
     rcases aX.mp (aL Z_)with h|h
     ·exact(hS.put c Kf pl h).1
     ·exact(hS.drop c Kf pl h).1
    refine⟨_,rfl,_,rfl,_,rfl,L,_,_,pl,rfl,rfl,q3,?_,_,rfl,s3.write hL,?_,?_⟩
    ·unfold YO
     have:((EO ps.length cs c j t).map vn).length=ps.length:=by unfold EO;rw[aa,aa,eK]
     rw[aG (by omega),aG (by rw[this];omega)]
     rfl
    ·rw[bY nxL];exact z
    ·rw[aE,<-UK Z_]
     rfl
   ·rintro σ H3 ⟨v5,rfl,s3,z,q3⟩
    rw[aa,Xn hS ec]at q3
    exact⟨_,_,_,rfl,s3,q3⟩
  ·rintro σ H' ⟨v3,v4,v5,rfl,sH,q⟩
   rw[l4,cU]at q
   exact⟨_,rfl,k _ _ sH (.lst (iY q (hO.fresh hL)) (je _))⟩
end
structure aaA(G:Hp)(v:V)(n:Nat)(f:Nat->Nat->Option Nat):Prop where
 ex:∃(a:ak)(ds:List ak),v=.ref a/\G a=some (.lst (ds.map V.ref))/\ds.length=n/\∀i d,ds[i]?=some d->∃dh,G d=some (.dK dh)/\∀k:Nat,vq dh (.inl (k:Int))=(f i k).map vn
theorem aaA.mono{G G':Hp}{v:V}{n:Nat}{f:Nat->Nat->Option Nat}(s:aQ G G')(h:aaA G v n f):aaA G' v n f:=by
 obtain⟨a,ds,e,h1,h2,h3⟩:=h.ex
 exact⟨a,ds,e,s _ _ h1,h2,fun i d q=>let⟨dh,q1,q2⟩:=h3 i d q;⟨dh,s _ _ q1,q2⟩⟩
def LN(cs:List Ch)(c:Ch)(j t i k:Nat):Option Nat:=if i∈c.iC.take t/\c.prop=k then some (j+1)else yT (cs.take j) i k
theorem Xo{ps:List Pc}{cs:List Ch}(h:JD ps cs){c:Ch}{j:Nat}(hc:cs[j]?=some c)(i k:Nat):LN cs c j c.iC.length i k=yT (cs.take (j+1)) i k:=by
 unfold LN
 rw[cU,h.acr hc]
 unfold GR
 by_cases e:i∈c.iC/\c.prop=k
 ·rw[aG e,aG (by rw[aI e.1,aI e.2];rfl)]
 ·rw[aD e,aD (by rw[bx,aM,aM];exact e)]
theorem UM(cs:List Ch)(c:Ch)(j i k:Nat):LN cs c j 0 i k=yT (cs.take j) i k:=by
 unfold LN
 rw[qu,aD (by simp)]
section
variable{P:bD}{w:cC}{K:ah}{mg:cM->Option ao}{base:cY}
def agZ(K:ah)(CP C:ak):Sp:=fun vs H Q _=>∃D v1 v2 ps cs,vs=[v1,v2]/\Od H D/\pI K CP (hd H D) v1 ps/\Dd K C (hd H D) v2 cs/\JD ps cs/\ps.length<=5000/\cs.length<=50000/\∀v H',aQ H H'->aaA (hd H' D) v ps.length (yT cs)->Q v H'
theorem Ck{CP C:ak}(G:fT K mg)(TC:iO K C xP)(Df:jL K mg "numbers_of_entries" lB ["row","changes"]):bG P w K mg base "numbers_of_entries" ["row","changes"] 1 (agZ K CP C):=by
 refine Df.ok iA (fun vs H Q E⟨_,_,_,_,_,e,_⟩=>by rw[e];rfl) fun f iB A outer s H vs Q E hr h=>?_
 obtain⟨D,v1,v2,ps,cs,rfl,hO,hR,hC,hS,np,nc,k⟩:=h
 obtain⟨a,acc,rfl,h1,h2⟩:=hR.ex
 obtain⟨b,bcc,rfl,h3,h4⟩:=hC.ex
 have l1:=h2.length
 have l4:=h4.length
 have hu:=jJ (mZ (by decide:1<=64) _) hr.units
 refine⟨_,(aC (Aj (i:=2) (own:=[("piece",6)]) rfl iA.nd rfl rfl (DY rfl rfl rfl rfl) (fE (pv 0)) (gR (by rfl)) (fun _ _ _ _ _=>(cJ (i:=6) iA.nd rfl (by first|exact bz rfl|exact bB rfl))) (fun _ _ _ _ _=>jA) (fun _ _ _ _ _=>Q_))
   (aC (jO cA rfl (R0 rfl G.rP (pv 1)) (xy rfl (gQ (cJ (i:=3) iA.nd rfl (by first|exact bz rfl|exact bB rfl)) (gQ (cJ (i:=4) iA.nd rfl (by first|exact bz rfl|exact bB rfl)) su))) (aJ (jO cA rfl (fE (bC (K:=K) rfl (pv 4) rfl)) (cJ (i:=5) iA.nd rfl (by first|exact bz rfl|exact bB rfl)) (aJ (VF hu (eX (r:=jP K) dm (pv 2) (pv 5) (fun _ _=>rfl)) (bC (K:=K) rfl (pv 4) rfl) (pv 3) rfl)))))
   (aJ (bF (pv 2))))),?_⟩
 refine⟨_,rfl,a,rfl,⟨_,cG.of (aq _ _ h1)⟩,fun L hL=>?_⟩
 refine Kd (K:=K) (a:=a) (xs:=acc) (fun i H'=>∃ds:List ak,aQ H H'/\H' L=some (.lst (ds.map V.ref))/\ds.length=i/\ds.Nodup/\∀d∈ds,H' d=some (.dK [])/\d≠L/\H d=none)
  ⟨[],aQ.new hL,aE,rfl,dQ,fun d hd=>by simp at hd⟩ (fun i H' _⟨_,c,_⟩=>cG.of (c _ _ (aq _ _ h1))) (fun i x H' hi⟨ds,c,q1,q2,q3,q4⟩=>⟨rfl,?_⟩) fun H1⟨ds,c,q1,q2,q3,q4⟩=>?_
 ·unfold MM
  dsimp only
  rw[aG rfl]
  intro p hp
  have IB:i<acc.length:=(az.mp hi).1
  have npL:p≠L:=fun e=>by rw[e,q1]at hp;cases hp
  refine⟨_,by rw[bY (iG npL)];exact q1,by rw[aa,q2];exact big (by omega),ds++[p],(c.agi hp).write hL,by rw[aE,bu];rfl,by rw[au,q2];rfl,?_,?_⟩
  ·rw[t_]
   refine⟨q3,tU _ _,fun x hx y hy e=>?_⟩
   rw[bJ.mp hy]at e
   rw[<-e,(q4 x hx).1]at hp
   cases hp
  ·intro d hd
   rcases aX.mp hd with hd|hd
   ·obtain⟨r1,r2,r3⟩:=q4 d hd
    refine⟨?_,r2,r3⟩
    rw[bY r2,bY (fun e=>by rw[<-e,r1]at hp;cases hp)]
    exact r1
   ·rw[bJ.mp hd]
    refine⟨by rw[bY npL,aE],npL,wR c hp⟩
 ·refine⟨_,rfl,b,_,rfl,cG.of (c _ _ (aq _ _ h3)),Oc (K:=K) (a:=b) (xs:=bcc)
   (fun j σ H'=>∃v3 v4 v5,σ=[some (.ref a),some (.ref b),some (.ref L),v3,v4,v5,none]/\aQ H H'/\H' L=some (.lst (ds.map V.ref))/\∀i d,ds[i]?=some d->∃dh,H' d=some (.dK dh)/\dh.length<=j/\∀k:Nat,vq dh (.inl (k:Int))=(yT (cs.take j) i k).map vn)
   ⟨none,none,none,rfl,c,q1,fun i d hd=>⟨[],(q4 d (aL hd)).1,aV _,fun k=>rfl⟩⟩ (fun j σ H' _⟨_,_,_,_,c,_⟩=>cG.of (c _ _ (aq _ _ h3))) ?_ ?_⟩
  ·rintro j y σ H' T hj ⟨v3,v4,v5,rfl,sH,qL,qd⟩ hT
   obtain⟨c,ec,hc⟩:=h4.get hj
   have hj2:j<bcc.length:=(az.mp hj).1
   have Kf:=aL ec
   obtain⟨ca,Ft,w2,w3,w4,rfl,r1,r2,r3,r4⟩:=hc.ex
   obtain⟨b4,rfl,z4⟩:=i7 r4
   have tT:=aQ.new (o:=.tup [.int ((j+1:Nat):Int),.ref ca]) hT
   have sT:=sH.trans tT
   refine⟨T,_,rfl,rN.of aE,rfl,_,_,rfl,_,_,rfl,rfl,?_⟩
   refine⟨_,rfl,ca,C,Ft,_,_,rfl,sT _ _ (aq _ _ r1),TC.cl,TC.no _ (by decide),rfl,b4,rfl,⟨_,cG.of (sT _ _ (aq _ _ z4))⟩,kq (K:=K) (a:=b4) (xs:=c.iC.map vn)
    (fun t σ H3=>∃v5,σ=[some (.ref a),some (.ref b),some (.ref L),some (.int ((j+1:Nat):Int)),some (.ref ca),v5,none]/\aQ H H3/\H3 L=some (.lst (ds.map V.ref))/\∀i d,ds[i]?=some d->∃dh,H3 d=some (.dK dh)/\(dh.length<=j+1/\(i∉c.iC.take t->dh.length<=j))/\∀k:Nat,vq dh (.inl (k:Int))=(LN cs c j t i k).map vn)
    ⟨v5,rfl,sT,tT _ _ qL,fun i d hd=>?_⟩ (fun t σ H3 _⟨_,_,s3,_⟩=>cG.of (s3 _ _ (aq _ _ z4))) ?_ ?_⟩
   ·obtain⟨dh,e1,e2,e3⟩:=qd i d hd
    exact⟨dh,tT _ _ e1,⟨by omega,fun _=>e2⟩,fun k=>by rw[UM];exact e3 k⟩
   ·rintro t y σ H3 ht ⟨v5,rfl,s3,qL3,qd3⟩
    obtain⟨pl,Z_,rfl⟩:=mT ht
    have Eo:=(hS.paint c Kf pl (aL Z_)).1
    obtain⟨d,ed⟩:∃d,ds[pl]?=some d:=⟨_,aB (by rw[q2,l1];exact Eo)⟩
    obtain⟨dh,e1,⟨e2,e2'⟩,e3⟩:=qd3 pl d ed
    obtain⟨f1,f2,f3⟩:=q4 d (aL ed)
    have ag0:pl∉c.iC.take t:=fun hm=>by
     obtain⟨m,hm1,hm2⟩:=lJ.mp hm
     have hm3:m<c.iC.length:=by omega
     have:=(Jj hm3 (hS.nP c Kf).2.2).mp (((aB hm3).trans (by rw[hm2])).trans Z_.symm)
     omega
    refine⟨_,rfl,_,rfl,_,rfl,L,_,_,_,rfl,rfl,cG.of qL3,rG (show(ds.map V.ref)[pl]?=some (.ref d) by rw[aT,ed];rfl),_,rfl,ca,C,Ft,_,_,rfl,s3 _ _ (aq _ _ r1),TC.cl,TC.no _ (by decide),rfl,d,_,rfl,WB.k (k:=.inl (c.prop:Int)) e1 (big (by have:=e2' ag0;omega)),_,rfl,s3.write f3,?_,?_⟩
    ·rw[bY (iG f2)];exact qL3
    ·intro i d' J9
     by_cases e:i=pl
     ·subst e
      rw[ed]at J9
      cases J9
      refine⟨_,aE,⟨?_,fun hn=>?_⟩,fun k=>?_⟩
      ·have:=yD dh (.inl (c.prop:Int)) (V.int ((j+1:Nat):Int))
       have:=e2' ag0
       omega
      ·exact absurd (by rw[gv Z_];simp) hn
      ·rw[Q5,e3 k]
       unfold LN
       rw[gv Z_]
       by_cases ek:c.prop=k
       ·rw[aG (by rw[ek]),aG ⟨by simp,ek⟩]
        rfl
       ·rw[aD (fun q=>ek (by have:=SG q;omega)),aD (fun q=>ek q.2),aD (fun q=>ek q.2)]
     ·have nd:d'≠d:=fun q=>e (by
       rw[q]at J9
       exact(Jj (az.mp J9).1 q3).mp (J9.trans ed.symm))
      obtain⟨MY,e1',⟨e5,e6⟩,e7⟩:=qd3 i d' J9
      have QY:i∈c.iC.take (t+1)↔i∈c.iC.take t:=by
       rw[gv Z_,aX,bJ]
       exact⟨fun q=>q.resolve_right e,.inl⟩
      refine⟨MY,by rw[bY nd];exact e1',⟨e5,fun hn=>e6 fun q=>hn (QY.mpr q)⟩,fun k=>?_⟩
      rw[e7 k]
      unfold LN
      simp only[QY]
   ·rintro σ H3 ⟨v5,rfl,s3,qL3,qd3⟩
    refine⟨_,_,_,rfl,s3,qL3,fun i d hd=>?_⟩
    obtain⟨dh,e1,⟨e2,_⟩,e3⟩:=qd3 i d hd
    refine⟨dh,e1,e2,fun k=>?_⟩
    rw[e3 k,aa,Xo hS ec]
  ·rintro σ H' ⟨v3,v4,v5,rfl,sH,qL,qd⟩
   refine⟨_,rfl,k _ _ sH ⟨L,ds,rfl,iY qL (hO.fresh hL),by rw[q2,l1],fun i d hd=>?_⟩⟩
   obtain⟨dh,e1,_,e3⟩:=qd i d hd
   rw[l4,cU]at e3
   exact⟨dh,iY e1 (hO.fresh (q4 d (aL hd)).2.2),e3⟩
end
theorem Of:∀l:List bZ,(jd l).flatten=l
 |[]=>rfl
 |x::r=>by
  have ih:=Of r
  rw[jd]
  split
  ·rename_i y w' ws e
   rw[e]at ih
   split
   ·rw[<-ih];rfl
   ·rw[<-ih];rfl
  ·rw[Jk,ih]
   rfl
theorem I0(g:Nat)(l:List bZ):(tokens g l).flatten=l:=by
 unfold tokens
 split
 ·induction l with
  |nil=>rfl
  |cons x l ih=>rw[bg,Jk,ih];rfl
 ·exact Of l
theorem Eb{ts:List cE}{i:Nat}(h:i<ts.length):(ts.drop i).flatten.length=(ts.getD i []).length+(ts.drop (i+1)).flatten.length:=by
 have e:ts[i]?=some (ts.getD i []):=by rw[aO,aB h];rfl
 rw[mJ e,Jk,au]
theorem aaB{as bs:List cE}(ka:C6 as)(kb:C6 bs):∀n i j,i<=as.length->j<=bs.length->(as.length-i)+(bs.length-j)<=n->((W as bs i j).steps.flatMap pH).length<=(as.drop i).flatten.length+(bs.drop j).flatten.length/\∀p∈(W as bs i j).steps.flatMap pH,MU p.fV:=by
 have okA:∀{i},i<as.length->Bb (as.getD i []):=fun{i}h=>(ka _ (by rw[rm (aB h)];exact kN h)).1
 have okB:∀{i},i<bs.length->Bb (bs.getD i []):=fun{i}h=>(kb _ (by rw[rm (aB h)];exact kN h)).1
 intro n
 induction n with
 |zero=>
  intro i j hi hj hn
  obtain rfl:i=as.length:=by omega
  obtain rfl:j=bs.length:=by omega
  rw[ZU]
  exact⟨bE _,fun p hp=>by simp at hp⟩
 |succ n ih=>
  intro i j hi hj hn
  by_cases h0:i<as.length\/j<bs.length
  ·rcases Pe hi hj h0 with⟨_,h1,h2,_,e⟩|⟨_,h1,e⟩|⟨_,h1,e⟩
   ·obtain⟨q1,q2⟩:=ih (i+1) (j+1) (by omega) (by omega) (by omega)
    rw[e,dY,au,Eb h1,Eb h2]
    refine⟨?_,fun p hp=>?_⟩
    ·have:(pH (.keep (as.getD i []) (bs.getD j []))).length<=(as.getD i []).length:=by
      show(((as.getD i []).zip (bs.getD j [])).map uy).length<=_
      rw[aa,eS]
      omega
     omega
    ·rcases aX.mp hp with hp|hp
     ·obtain⟨z,hz,rfl⟩:=bI.mp hp
      exact okA h1 _ (xm hz).1
     ·exact q2 p hp
   ·obtain⟨q1,q2⟩:=ih (i+1) j (by omega) hj (by omega)
    rw[e,dY,au,Eb h1]
    refine⟨?_,fun p hp=>?_⟩
    ·have:(pH (.drop (as.getD i []))).length=(as.getD i []).length:=aa _
     omega
    ·rcases aX.mp hp with hp|hp
     ·obtain⟨z,hz,rfl⟩:=bI.mp hp
      exact okA h1 _ hz
     ·exact q2 p hp
   ·obtain⟨q1,q2⟩:=ih i (j+1) hi (by omega) (by omega)
    rw[e,dY,au,Eb (ts:=bs) h1]
    refine⟨?_,fun p hp=>?_⟩
    ·have:(pH (.put (bs.getD j []))).length=(bs.getD j []).length:=aa _
     omega
    ·rcases aX.mp hp with hp|hp
     ·obtain⟨z,hz,rfl⟩:=bI.mp hp
      exact okB h1 _ hz
     ·exact q2 p hp
  ·obtain rfl:i=as.length:=by omega
   obtain rfl:j=bs.length:=by omega
   rw[ZU]
   exact⟨bE _,fun p hp=>by simp at hp⟩
def Dy(g:Nat)(lo ln:List bZ):List Pc:=xN (W (tokens g lo.dropLast) (tokens g ln.dropLast) 0 0).steps (pJ lo) (pJ ln)
theorem Xp{l:List bZ}(h:Bb l)(n:1<=l.length):MU (pJ l):=by
 have qI:l≠[]:=fun e=>by rw[e]at n;simp at n
 have e:pJ l=l.getLast qI:=by unfold pJ;rw[Mp qI];rfl
 rw[e]
 exact h _ (Kv qI)
theorem V2{g:Nat}{lo ln:List bZ}(ko:Bb lo)(kn:Bb ln)(n1:1<=lo.length)(n2:1<=ln.length)(m1:lo.length<=2000)(m2:ln.length<=2000):(Dy g lo ln).length<=lo.length+ln.length/\Po (Dy g lo ln)/\(∀p∈Dy g lo ln,jn p)/\1<=(Dy g lo ln).length:=by
 have dl1:lo.dropLast.length<=2000:=by rw[fL];omega
 have dl2:ln.dropLast.length<=2000:=by rw[fL];omega
 have kT1:C6 (tokens g lo.dropLast):=w_ (ko.sub fun z hz=>lW _ hz) dl1
 have kT2:C6 (tokens g ln.dropLast):=w_ (kn.sub fun z hz=>lW _ hz) dl2
 obtain⟨q1,q2⟩:=aaB kT1 kT2 _ 0 0 (bE _) (bE _) (aV _)
 rw[jk,jk,I0,I0,fL,fL]at q1
 refine⟨?_,fun p hp=>?_,HY _ _ _,?_⟩
 ·unfold Dy xN
  rw[au,cZ]
  omega
 ·rcases aX.mp hp with hp|hp
  ·exact q2 p hp
  ·rw[bJ.mp hp]
   exact Xp ko n1
 ·unfold Dy xN
  rw[au,cZ]
  omega
theorem I_{ps:List Pc}(dz:∀p∈ps,jn p)(hR:Po ps)(least:Nat):(GQ ps least).length<=6*ps.length:=by
 rw[<-(HW dz hR least).length_eq,au]
 have:=R3 ps least
 have:=GW ps
 omega
theorem V3(g:Nat)(lo ln:List bZ):IL (tokens g lo.dropLast) (tokens g ln.dropLast) 0 0+lP (pJ lo) (pJ ln)=Qh g (docOf lo) (docOf ln):=by
 unfold Qh
 rw[RC,Fd (bE _)]
 rfl
theorem R8(g least:Nat)(lo ln:List bZ):Ms (Dy g lo ln) (GQ (Dy g lo ln) least) (oz g least (docOf lo) (docOf ln)):=by
 unfold oz
 rw[RC]
 exact UH _ _ _ least
def cmF(v1 v2 v3 v4 v5:V):List (cM×V):=[("row",v1),("changes",v2),("cost",v3),("piece_numbers",v4),("entry_numbers",v5)]
def tF:List cM:=["row","changes","cost","piece_numbers","entry_numbers"]
structure Ja(K:ah)(CP CH C:ak)(G:Hp)(v:V)(ps:List Pc)(cs:List Ch)(cost:Nat):Prop where
 ex:∃a dx v1 v2 v4 v5,v=.ref a/\G a=some (.ins C dx (cmF v1 v2 (vn cost) v4 v5))/\pI K CP G v1 ps/\Dd K CH G v2 cs/\Dx K G v4 (dH (R6 ps cs))/\aaA G v5 ps.length (yT cs)
theorem Ja.mono{K:ah}{CP CH C:ak}{G G':Hp}{v:V}{ps:List Pc}{cs:List Ch}{cost:Nat}(s:aQ G G')(h:Ja K CP CH C G v ps cs cost):Ja K CP CH C G' v ps cs cost:=by
 obtain⟨a,dx,v1,v2,v4,v5,e,h0,h1,h2,h3,h4⟩:=h.ex
 exact⟨a,dx,v1,v2,v4,v5,e,s _ _ h0,h1.mono s,h2.mono s,s.dp h3,h4.mono s⟩
section
variable{P:bD}{w:cC}{K:ah}{mg:cM->Option ao}{base:cY}
def adx(K:ah)(CP CH C:ak):Sp:=fun vs H Q _=>∃D x dx v1 v2 ps cs cost,vs=[.ref x,v1,v2,vn cost]/\Od H D/\D x=false/\H x=some (.ins C dx [])/\pI K CP (hd H (ad D x)) v1 ps/\Dd K CH (hd H (ad D x)) v2 cs/\JD ps cs/\ps.length<=5000/\cs.length<=50000/\
 ∀H',j7 x H H'->Ja K CP CH C (hd H' D) (.ref x) ps cs cost->Q .jX H'
theorem Fv{CP CH C:ak}(G:fT K mg)(T:iO K C tF)(Df:E1 K mg C "Comparison" "Comparison.__init__" kH ["self","row","changes","cost"])(qx:bG P w K mg base "numbers_of_pieces" ["row","changes"] 1 (agY K CP CH))(pM:bG P w K mg base "numbers_of_entries" ["row","changes"] 1 (agZ K CP CH)):t8 P w K mg base C "Comparison" ["self","row","changes","cost"] 2 (adx K CP CH C):=by
 refine Df.ok A5 (fun vs H Q E⟨_,_,_,_,_,_,_,_,e,_⟩=>by rw[e];rfl) fun f iB A outer s H vs Q E hr h=>?_
 obtain⟨D,x,dx,v1,v2,ps,cs,cost,rfl,hO,hDx,hx,hR,hC,hS,np,nc,k⟩:=h
 have oD:Od H (ad D x):=hO.ad hx
 refine⟨_,(aC (iV (pv 0) (pv 1) rfl)
   (aC (iV (pv 0) (pv 2) rfl)
   (aC (iV (pv 0) (pv 3) rfl)
   (aC (iV (pv 0) (bL qx (hr.mono (by decide)) (aj (pv 1) (aj (pv 2) aA))) rfl)
   (aJ (iV (pv 0) (bL pM (hr.mono (by decide)) (aj (pv 1) (aj (pv 2) aA))) rfl)))))),?_⟩
 refine⟨_,rfl,_,rfl,x,C,dx,_,rfl,hx,T.cl,T.no _ (by decide),by simp,?_⟩
 refine⟨_,rfl,_,rfl,x,C,dx,_,rfl,aE,T.cl,T.no _ (by decide),by show 1<1000;decide,?_⟩
 refine⟨_,rfl,_,rfl,x,C,dx,_,rfl,aE,T.cl,T.no _ (by decide),by show 2<1000;decide,?_⟩
 rw[l8,l8]
 have e1:∀o,hd (upd H x o) (ad D x)=hd H (ad D x):=fun o=>Jw
 refine⟨_,rfl,_,rfl,ad D x,v1,v2,ps,cs,rfl,oD.upd,by rw[e1];exact hR,by rw[e1];exact hC,hS,np,fun w4 H1 s1 d1=>?_⟩
 have i1:=s1 _ _ (aE (H:=H) (a:=x) (o:=.ins C dx (gM "cost" (vn cost) (gM "changes" v2 (gM "row" v1 [])))))
 refine⟨_,rfl,x,C,dx,_,rfl,i1,T.cl,T.no _ (by decide),by show 3<1000;decide,?_⟩
 have t1:aQ (hd H (ad D x)) (hd (upd H1 x (.ins C dx (gM "piece_numbers" w4 (gM "cost" (vn cost) (gM "changes" v2 (gM "row" v1 [])))))) (ad D x)):=by
  rw[Jw,<-e1 (.ins C dx (gM "cost" (vn cost) (gM "changes" v2 (gM "row" v1 []))))]
  exact aU s1
 refine⟨_,rfl,_,rfl,ad D x,v1,v2,ps,cs,rfl,(oD.upd.mono s1).upd,hR.mono t1,hC.mono t1,hS,np,nc,fun w5 H2 s2 d2=>?_⟩
 have i2:=s2 _ _ (aE (H:=H1) (a:=x) (o:=.ins C dx (gM "piece_numbers" w4 (gM "cost" (vn cost) (gM "changes" v2 (gM "row" v1 []))))))
 refine⟨_,rfl,x,C,dx,_,rfl,i2,T.cl,T.no _ (by decide),by show 4<1000;decide,?_⟩
 have up:∀{H3:Hp}{o:HO},aQ (hd H3 (ad D x)) (hd (upd H3 x o) D):=fun{H3 o}=>by
  rw[<-Jw (o:=o)]
  exact wu
 have t2:=t1.trans (aU s2)
 refine k _ ?_ ⟨x,dx,v1,v2,w4,w5,rfl,iY aE hDx,(hR.mono t2).mono up,(hC.mono t2).mono up,up.dp ((aU s2).dp (by rw[Jw];exact d1)),d2.mono up⟩
 intro b o eb nb
 rw[bY nb]
 exact s2 _ _ (by rw[bY nb];exact s1 _ _ (by rw[bY nb];exact eb))
end
section
variable{P:bD}{w:cC}{K:ah}{mg:cM->Option ao}{base:cY}
structure R9(K:ah)(G:Hp)(v1 v2:V)(lo ln:List bZ):Prop where
 d1:Dx K G v1 (l6 lo)
 d2:Dx K G v2 (l6 ln)
 k1:Bb lo
 k2:Bb ln
 l1:1<=lo.length
 l2:1<=ln.length
 m1:lo.length<=2000
 m2:ln.length<=2000
theorem R9.mono{G G':Hp}{v1 v2:V}{lo ln:List bZ}(s:aQ G G')(h:R9 K G v1 v2 lo ln):R9 K G' v1 v2 lo ln:=⟨s.dp h.d1,s.dp h.d2,h.k1,h.k2,h.l1,h.l2,h.m1,h.m2⟩
def LO(K:ah)(CP CH C:ak):Sp:=fun vs H Q _=>∃D v1 v2 lo ln g least,vs=[v1,v2,vn g,vn least]/\Od H D/\R9 K (hd H D) v1 v2 lo ln/\g<=1/\
 ∀v H',aQ H H'->Ja K CP CH C (hd H' D) v (Dy g lo ln) (GQ (Dy g lo ln) least) (Qh g (docOf lo) (docOf ln))->Q v H'
def aaC(K:ah):Sp:=fun vs H Q _=>∃D v1 v2 lo ln g,vs=[v1,v2,vn g]/\Od H D/\R9 K (hd H D) v1 v2 lo ln/\g<=1/\∀H',aQ H H'->Q (vn (Qh g (docOf lo) (docOf ln))) H'
theorem Ec{C x dx:ak}{H H1:Hp}(nx:H x=none)(nd:H dx=none)(ne:dx≠x)(s:j7 x (upd (upd H dx (.own x)) x (.ins C dx [])) H1):aQ H H1:=fun b o eb=>by
 have hbx:b≠x:=cW eb nx
 exact s b o (by rw[bY hbx,bY (cW eb nd)];exact eb) hbx
theorem HZ{C x dx:ak}{H:Hp}{D:ak->Bool}(nx:H x=none)(nd:H dx=none)(ne:dx≠x):aQ (hd H D) (hd (upd (upd H dx (.own x)) x (.ins C dx [])) (ad D x)):=by
 rw[<-m8 (D:=D) nx]
 exact aU (aQ.inst nx nd ne)
theorem EB{CS:ak}(G:fT K mg)(Df:jL K mg "distance_between" nh ["old_text","new_text","grain"])(xh:t8 P w K mg base CS "Scripts" ["self","old_text","new_text","grain"] 6 (ZS K CS))(qe:dG P w K mg base CS "least_cost" ["self"] 1 (Pf K CS)):bG P w K mg base "distance_between" ["old_text","new_text","grain"] 8 (aaC K):=by
 refine Df.ok Es (fun vs H Q E⟨_,_,_,_,_,_,e,_⟩=>by rw[e];rfl) fun f iB A outer s H vs Q E hr h=>?_
 obtain⟨D,v1,v2,lo,ln,g,rfl,hO,hT,hg,k⟩:=h
 refine⟨_,(aJ (bF (gZ qe (qJ xh (hr.mono (by decide)) (aj (pv 0) (aj (pv 1) (aj (pv 2) aA)))) (hr.mono (by decide))))),?_⟩
 refine⟨_,rfl,_,rfl,_,rfl,?_⟩
 intro x dx nx nd ne
 have mh:=HZ (C:=CS) (D:=D) nx nd ne
 have hT':=hT.mono mh
 refine⟨D,x,dx,v1,v2,lo,ln,g,rfl,hO.mono (aQ.inst nx nd ne),hO.fresh nx,aE,hT'.d1,hT'.d2,hT.k1,hT.k2,hT.l1,hT.l2,hT.m1,hT.m2,hg,fun H1 sX scr=>⟨rfl,?_⟩⟩
 have s1:=Ec nx nd ne sX
 obtain⟨dx',u1,u2,u3,u4,u5,u6,z0,_⟩:=scr.ex
 refine⟨x,dx',_,rfl,aq _ _ z0,rfl,D,x,_,_,_,rfl,scr,?_⟩
 have:=k H1 s1
 rw[<-V3]at this
 exact this
theorem R_{CS CP CH C:ak}(G:fT K mg)(Df:jL K mg "compared" A6 ["old_text","new_text","grain","least"])(xh:t8 P w K mg base CS "Scripts" ["self","old_text","new_text","grain"] 6 (ZS K CS))(vQ:bG P w K mg base "row_of_pieces" ["old_text","new_text","scripts"] 4 (adi K CS CP))(By:t8 P w K mg base C "Comparison" ["self","row","changes","cost"] 2 (adx K CP CH C))(BA:bG P w K mg base "changes_of" ["row","least"] 4 (Oe K CP CH))(qe:dG P w K mg base CS "least_cost" ["self"] 1 (Pf K CS)):bG P w K mg base "compared" ["old_text","new_text","grain","least"] 8 (LO K CP CH C):=by
 refine Df.ok C0 (fun vs H Q E⟨_,_,_,_,_,_,_,e,_⟩=>by rw[e];rfl) fun f iB A outer s H vs Q E hr h=>?_
 obtain⟨D,v1,v2,lo,ln,g,least,rfl,hO,hT,hg,k⟩:=h
 refine⟨_,(aC (cR (i:=4) C0.nd rfl (by first|exact bz rfl|exact bB rfl) (qJ xh (hr.mono (by decide)) (aj (pv 0) (aj (pv 1) (aj (pv 2) aA)))))
   (aC (cR (i:=5) C0.nd rfl (by first|exact bz rfl|exact bB rfl) (bL vQ (hr.mono (by decide)) (aj (pv 0) (aj (pv 1) (aj (pv 4) aA)))))
   (aJ (bF (qJ By (hr.mono (by decide)) (aj (pv 5) (aj (bL BA (hr.mono (by decide)) (aj (pv 5) (aj (pv 3) aA))) (aj (gZ qe (pv 4) (hr.mono (by decide))) aA)))))))),?_⟩
 refine⟨_,rfl,_,rfl,_,rfl,?_⟩
 intro x dx nx nd ne
 have mh:=HZ (C:=CS) (D:=D) nx nd ne
 have hT':=hT.mono mh
 refine⟨D,x,dx,v1,v2,lo,ln,g,rfl,hO.mono (aQ.inst nx nd ne),hO.fresh nx,aE,hT'.d1,hT'.d2,hT.k1,hT.k2,hT.l1,hT.l2,hT.m1,hT.m2,hg,fun H1 sX scr=>⟨rfl,?_⟩⟩
 have s1:=Ec nx nd ne sX
 have o1:=hO.mono s1
 have hT1:=hT.mono (aU s1)
 have dl1:lo.dropLast.length<=2000:=by rw[fL];have:=hT.m1;omega
 have dl2:ln.dropLast.length<=2000:=by rw[fL];have:=hT.m2;omega
 refine⟨_,rfl,_,rfl,_,rfl,D,v1,v2,x,lo,ln,_,_,_,rfl,o1,hT1.d1,hT1.d2,hT.k1,hT.k2,hT.l1,hT.l2,scr,w_ (hT.k1.sub fun z hz=>lW _ hz) dl1,w_ (hT.k2.sub fun z hz=>lW _ hz) dl2,bQ (ux _ _) dl1,bQ (ux _ _) dl2,fun vr H2 s2 nQ=>?_⟩
 obtain⟨n1,n2,n3,n4⟩:=V2 (g:=g) hT.k1 hT.k2 hT.l1 hT.l2 hT.m1 hT.m2
 have b1:=hT.m1
 have b2:=hT.m2
 refine⟨_,rfl,_,rfl,_,rfl,D,vr,Dy g lo ln,least,rfl,o1.mono s2,nQ,n2,n3,by omega,fun vc H3 s3 hcs=>?_⟩
 have ag6:=scr.mono ((aU s2).trans (aU s3))
 obtain⟨dx',u1,u2,u3,u4,u5,u6,z0,_⟩:=ag6.ex
 refine⟨_,rfl,x,dx',_,rfl,aq _ _ z0,rfl,D,x,_,_,_,rfl,ag6,?_⟩
 intro x2 dx2 nx2 nd2 ne2
 have mh2:=HZ (C:=C) (D:=D) nx2 nd2 ne2
 have ag8:=s1.trans (s2.trans s3)
 have o3:=hO.mono ag8
 have lc:=I_ n3 n2 least
 refine⟨D,x2,dx2,vr,vc,Dy g lo ln,GQ (Dy g lo ln) least,_,rfl,o3.mono (aQ.inst nx2 nd2 ne2),o3.fresh nx2,aE,(nQ.mono (aU s3)).mono mh2,hcs.mono mh2,(R8 g least lo ln).sys,by omega,by omega,fun H4 sX4 ajY=>⟨rfl,k _ _ (ag8.trans (Ec nx2 nd2 ne2 sX4)) ?_⟩⟩
 rw[<-V3]
 exact ajY
end
def acu(K:ah):V->List V->Hp->VK->Prop:=fun x vs H Q=>∃(l:ak)(ns:List Int)(k:Int),x=.ref l/\vs=[.int k]/\cG K H l (ns.map V.int)/\Q (.int ((ns.count k:Nat):Int)) H
theorem H_{X:Cx}:MtM X "list.count" (acu X.K):=by
 intro pins s σ H x vs v us Q I rx rv h
 obtain⟨l,ns,k,rfl,rfl,hq,q⟩:=h
 cases rx
 obtain⟨u,rfl,t,rfl⟩:=rv.one
 obtain⟨fi,r,p,_⟩:=I.list hq
 exact count_list_ints p.isList (TV r) ⟨.int _,H,I.tok _,⟨_,rfl⟩,q⟩
def zC(ds:List bf)(d:bf):Prop:=∃x:bZ,ds=[gS x]/\MU x/\d=dH (iI x)
def Dz(ds:List bf)(d:bf):Prop:=∃l:List bZ,ds=[l6 l]/\Bb l/\l.length<=5000/\d=dH (l.length::l.flatMap iI)
def ER(ds:List bf)(d:bf):Prop:=∃ts:List cE,ds=[Gx ts]/\ts.length<=2000/\d=dH (ts.length::ts.map fun t=>t.length)
theorem GX(l m:List Nat):l.map vn++m.map vn=(l++m).map vn:=by rw[bu]
theorem GY{x:bZ}(h:MU x):(iI x).length=5:=by
 unfold iI
 rw[br,h.four]
theorem Ed:∀{l:List bZ},Bb l->(l.flatMap iI).length=5*l.length
 |[],_=>rfl
 |x::l,h=>by
  rw[dY,au,GY (h x (by simp)),Ed (l:=l) fun y hy=>h y (by simp[hy]),br]
  omega
section
variable{P:bD}{w:cC}{K:ah}{mg:cM->Option ao}{base:cY}
theorem LP(G:fT K mg)(Df:jL K mg "told_letter" uW ["letter"]):bG P w K mg base "told_letter" ["letter"] 1 (qC K zC):=by
 refine Df.ok K0 (iR fun ds d⟨x,e,_⟩=>by rw[e];rfl) fun f iB A outer s H vs Q E hr h=>?_
 obtain⟨D,ds,d,hO,ha,⟨z,rfl,kz,rfl⟩,k⟩:=h
 obtain⟨v,rfl,g1⟩:=ha.one
 obtain⟨a,b,rfl,h3,h4⟩:=uu g1
 refine⟨_,(aJ (bF (jx uh (c_ (aj (eX (r:=Gi K) rD (pv 0) b9 (fun _ _=>rfl)) aA)) (Hv Gj (by rfl) G.Zz boot_list (aj (eX (r:=Gi K) rD (pv 0) b9 (fun _ _=>rfl)) aA))))),?_⟩
 refine⟨_,rfl,a,_,0,_,rfl,rfl,aq.EF h3,rfl,by show 1<=aK;decide,fun x1 GG=>?_⟩
 have t1:=aQ.new (o:=.lst [V.int (z.sign:Int)]) GG
 refine⟨_,rfl,a,_,1,_,rfl,rfl,t1.EF (aq.EF h3),rfl,b,_,rfl,.inr (t1.EF (aq.EF h4)),fun x2 Hj=>?_⟩
 have t2:=aQ.new (o:=.lst (z.look.map vn)) Hj
 refine⟨x1,x2,_,_,rfl,rfl,t2 _ _ aE,aE,nI (by rw[aa,kz.four];show 1+4<=100000;omega),fun q hq=>?_⟩
 have s3:=(t1.trans t2).trans (aQ.new (o:=.lst ([V.int (z.sign:Int)]++z.look.map vn)) hq)
 exact k _ _ s3 (.lst (iY aE ((hO.mono (t1.trans t2)).fresh hq)) (je (iI z)))
theorem Pz(G:fT K mg)(Df:jL K mg "told_text" yL ["text"])(ou:bG P w K mg base "told_letter" ["letter"] 1 (qC K zC)):bG P w K mg base "told_text" ["text"] 2 (qC K Dz):=by
 refine Df.ok A_ (iR fun ds d⟨x,e,_⟩=>by rw[e];rfl) fun f iB A outer s H vs Q E hr h=>?_
 obtain⟨D,ds,d,hO,ha,⟨l,rfl,kl,nl,rfl⟩,k⟩:=h
 obtain⟨v,rfl,g1⟩:=ha.one
 obtain⟨a,xs,rfl,h1,h2⟩:=g1.bV
 have lx:=h2.length
 rw[aa]at lx
 refine⟨_,(aC (cR (i:=1) A_.nd rfl (by first|exact bz rfl|exact bB rfl) (c_ (aj (cS (r:=l5 K) cB (by rfl) G.iN dN (aj (pv 0) aA)) aA)))
   (aC (jO cA rfl (fE (pv 0)) (cJ (i:=2) A_.nd rfl (by first|exact bz rfl|exact bB rfl)) (aJ (eZ (kQ aZ fO fQ pX (pv 1) (aj (bL ou (hr.mono (by decide)) (aj (pv 2) aA)) aA)))))
   (aJ (bF (pv 1))))),?_⟩
 refine⟨_,rfl,a,xs,rfl,.inl (cG.of (aq _ _ h1)),by show 1<=aK;decide,fun L hL=>?_⟩
 have t1:=aQ.new (o:=.lst [V.int (xs.length:Int)]) hL
 refine⟨_,rfl,a,rfl,⟨_,cG.of (t1 _ _ (aq _ _ h1))⟩,kq (K:=K) (a:=a) (xs:=xs)
  (fun i σ H'=>∃v2,σ=[some (.ref a),some (.ref L),v2]/\aQ H H'/\H' L=some (.lst ((l.length::(l.take i).flatMap iI).map vn)))
  ⟨none,rfl,t1,by rw[aE,lx];rfl⟩ (fun i σ H' _⟨_,_,c,_⟩=>cG.of (c _ _ (aq _ _ h1))) ?_ ?_⟩
 ·rintro i y σ H' hi ⟨v2,rfl,sH,q⟩
  obtain⟨d,e1,hy⟩:=h2.get hi
  obtain⟨z,ez,rfl⟩:=mT e1
  have kz:=kl z (aL ez)
  have oH:=hO.mono sH
  refine⟨_,rfl,.inl ⟨rfl,_,cG.of q⟩,_,rfl,D,_,_,oH,.cons ((aU sH).dp hy) .nil,⟨z,rfl,kz,rfl⟩,fun v H2 s2 d2=>?_⟩
  obtain⟨b,rfl,zb⟩:=i7 d2
  have l1:=Ed (l:=l.take i) fun x hx=>kl x (lX hx)
  have l2:=GY kz
  have l3:(l.take i).length<=l.length:=by rw[a_];omega
  refine⟨L,b,_,_,rfl,rfl,s2 _ _ q,aq _ _ zb,nI (by rw[aa,aa,br];omega),_,rfl,(sH.trans s2).write hL,?_⟩
  rw[aE,GX,gv ez,gJ,jm,qE]
 ·rintro σ H' ⟨v2,rfl,sH,q⟩
  rw[lx,cU]at q
  exact⟨_,rfl,k _ _ sH (.lst (iY q (hO.fresh hL)) (je _))⟩
theorem LQ(G:fT K mg)(Df:jL K mg "told_tokens" uX ["tokens"]):bG P w K mg base "told_tokens" ["tokens"] 1 (qC K ER):=by
 refine Df.ok xE (iR fun ds d⟨x,e,_⟩=>by rw[e];rfl) fun f iB A outer s H vs Q E hr h=>?_
 obtain⟨D,ds,d,hO,ha,⟨ts,rfl,nl,rfl⟩,k⟩:=h
 obtain⟨v,rfl,g1⟩:=ha.one
 obtain⟨a,xs,rfl,h1,h2⟩:=g1.bV
 have lx:=h2.length
 rw[aa]at lx
 refine⟨_,(aJ (bF (jx uh (c_ (aj (cS (r:=l5 K) cB (by rfl) G.iN dN (aj (pv 0) aA)) aA)) (vm (own:=[("token",1)]) rfl xE.nd (fE (pv 0)) (gR (by rfl)) (fun _ _ _ _ _=>(cJ (i:=1) xE.nd rfl (by first|exact bz rfl|exact bB rfl))) (fun _ _ _ _ _=>jA) (fun _ _ _ _ _=>(cS (r:=l5 K) cB (by rfl) G.iN dN (aj (pv 1) aA))))))),?_⟩
 refine⟨_,rfl,a,xs,rfl,.inl (cG.of (aq _ _ h1)),by show 1<=aK;decide,fun x1 GG=>?_⟩
 have t1:=aQ.new (o:=.lst [V.int (xs.length:Int)]) GG
 have o1:=hO.mono t1
 refine⟨_,rfl,a,rfl,⟨_,cG.of (t1 _ _ (aq _ _ h1))⟩,fun L hL=>?_⟩
 refine wF (K:=K) (D:=D) (f:=fun d=>match d with|.list l=>dn l.length|d=>d) hL o1 (cG.of (t1 _ _ (aq _ _ h1))) ((aU t1).EG h2) (nI (by rw[aa];omega)) (fun _=>rfl)
   (fun i y d H' D' Qe hd s o hy sd kk=>?_) fun H3 s3 d3=>?_
 ·obtain⟨t,et,rfl⟩:=mT hd
  obtain⟨tb,us,rfl,r1,r2⟩:=hy.bV
  refine⟨_,rfl,tb,us,rfl,.inl (cG.of (aq _ _ r1)),kk _ _ (aQ.refl _) ?_⟩
  rw[r2.length]
  exact .int _
 ·have d3':Dx K (hd H3 D) (.ref L) (dH (fB ts)):=by unfold dH;rw[<-aeA];exact d3
  obtain⟨b,eb,zb⟩:=i7 d3'
  cases eb
  refine⟨x1,L,_,_,rfl,rfl,s3 _ _ aE,aq _ _ zb,nI (by rw[aa];unfold fB;rw[aa];simp;omega),fun q hq=>?_⟩
  have s4:=t1.trans s3
  have e:[V.int (xs.length:Int)]++(fB ts).map vn=(ts.length::ts.map fun t=>t.length).map vn:=by rw[lx];rfl
  rw[e]
  exact k _ _ (s4.trans (aQ.new hq)) (.lst (iY aE ((hO.mono s4).fresh hq)) (je _))
def Sa(K:ah)(CP:ak):Sp:=fun vs H Q _=>∃D v1 ps,vs=[v1]/\Od H D/\pI K CP (hd H D) v1 ps/\ps.length<=5000/\
 ∀v H',aQ H H'->Dx K (hd H' D) v (dH [(ps.filter fun p=>decide (p.eF=0)).length,(ps.filter fun p=>decide (p.eF=1)).length,(ps.filter fun p=>decide (p.eF=2)).length,(ps.map fun p=>p.entries.length).sum])->Q v H'
theorem Fw(ps:List Pc)(f:Nat):((ps.map fun p=>((p.eF:Nat):Int)).count ((f:Nat):Int))=(ps.filter fun p=>decide (p.eF=f)).length:=by
 induction ps with
 |nil=>rfl
 |cons p ps ih=>
  rw[bg,List.count_cons,ih,cK]
  by_cases e:p.eF=f
  ·rw[aG (by rw[e];exact dW _),aG (aI e)];rfl
  ·rw[aD (by rw[i_];omega),aD (by rw[aH e];exact aF)];rfl
theorem aaD(l:List Nat):(l.map fun n:Nat=>(n:Int)).sum=((l.sum:Nat):Int):=by
 induction l with
 |nil=>rfl
 |cons a l ih=>rw[bg,AQ,ih,AQ];omega
theorem acv(l:List Nat):l.map vn=(l.map fun n:Nat=>(n:Int)).map V.int:=by rw[aR];rfl
theorem LR{CP:ak}(G:fT K mg)(T:iO K CP n9)(Df:jL K mg "told_counts" uY ["row"]):bG P w K mg base "told_counts" ["row"] 1 (Sa K CP):=by
 refine Df.ok mH (fun vs H Q E⟨_,_,_,e,_⟩=>by rw[e];rfl) fun f iB A outer s H vs Q E hr h=>?_
 obtain⟨D,v1,ps,rfl,hO,hR,np,k⟩:=h
 obtain⟨a,acc,rfl,h1,h2⟩:=hR.ex
 have l1:=h2.length
 refine⟨_,(aC (Aj (i:=1) (own:=[("piece",3)]) rfl mH.nd rfl rfl (DY rfl rfl rfl rfl) (fE (pv 0)) (gR (by rfl)) (fun _ _ _ _ _=>(cJ (i:=3) mH.nd rfl (by first|exact bz rfl|exact bB rfl))) (fun _ _ _ _ _=>jA) (fun _ _ _ _ _=>(bC (K:=K) rfl (pv 3) rfl)))
   (aC (cR (i:=2) mH.nd rfl (by first|exact bz rfl|exact bB rfl) (cS (r:=aed K) (YY rfl) (by rfl) G.ada boot_sum (aj (vm (own:=[("piece",3)]) rfl mH.nd (fE (pv 0)) (gR (by rfl)) (fun _ _ _ _ _=>(cJ (i:=3) mH.nd rfl (by first|exact bz rfl|exact bB rfl))) (fun _ _ _ _ _=>jA) (fun _ _ _ _ _=>(cS (r:=l5 K) cB (by rfl) G.iN dN (aj (bC (K:=K) rfl (pv 3) rfl) aA)))) aA)))
   (aJ (bF (c_ (aj (kQ aZ AH AI H_ (pv 1) (aj (bW G.ab1) aA)) (aj (kQ aZ AH AI H_ (pv 1) (aj (bW G.Rm) aA)) (aj (kQ aZ AH AI H_ (pv 1) (aj (bW G.PUT) aA)) (aj (pv 2) aA))))))))),?_⟩
 refine⟨_,rfl,a,rfl,⟨_,cG.of (aq _ _ h1)⟩,fun L hL=>?_⟩
 refine sU (R:=fun G v(m:Nat)=>Dx K G v (dn m)) (fun G G' v m s h=>s.dp h) (K:=K) (D:=D) (out:=ps.map (·.eF)) hL hO (cG.of (aq _ _ h1)) (by rw[aa];exact l1) (nI (by rw[aa];omega)) (fun _=>rfl)
  (fun i x m H' D' Qe hi ho s o sd kk=>?_) fun H1 ac s1 h6 h7=>?_
 ·obtain⟨p,ep,rfl⟩:=mT ho
  obtain⟨p',Tj,hp⟩:=h2.get hi
  rw[ep]at Tj
  cases Tj
  obtain⟨b,dx,w2,w3,rfl,r1,_,_⟩:=hp.ex
  exact⟨_,rfl,b,CP,dx,_,_,rfl,aq _ _ (sd _ _ r1),T.cl,T.no _ (by decide),rfl,kk _ _ (aQ.refl _) (.int _)⟩
 ·obtain rfl:=vL h7.dx
  have o1:=hO.mono s1
  have h2':Al (xM K CP (hd H1 D)) acc ps:=h2.imp fun v b h=>xM.mono _ _ v b (aU s1) h
  refine⟨_,rfl,a,rfl,⟨_,cG.of (s1 _ _ (aq _ _ h1))⟩,fun L2 hL2=>?_⟩
  refine sU (R:=fun G v(m:Nat)=>Dx K G v (dn m)) (fun G G' v m s h=>s.dp h) (K:=K) (D:=D) (out:=ps.map fun p=>p.entries.length) hL2 o1 (cG.of (s1 _ _ (aq _ _ h1))) (by rw[aa];exact l1) (nI (by rw[aa];omega)) (fun _=>rfl)
   (fun i x m H' D' Qe hi ho s o sd kk=>?_) fun H2 ac2 s2 g6 g7=>?_
  ·obtain⟨p,ep,rfl⟩:=mT ho
   obtain⟨p',Tj,hp⟩:=h2'.get hi
   rw[ep]at Tj
   cases Tj
   obtain⟨b,dx,w2,w3,rfl,r1,r2,r3⟩:=hp.ex
   obtain⟨c,xs,rfl,h3,h4⟩:=r3.bV
   refine⟨_,rfl,b,CP,dx,_,_,rfl,aq _ _ (sd _ _ r1),T.cl,T.no _ (by decide),rfl,c,xs,rfl,.inl (cG.of (aq _ _ (sd _ _ h3))),kk _ _ (aQ.refl _) ?_⟩
   rw[h4.length,aa]
   exact .int _
  ·obtain rfl:=vL g7.dx
   rw[acv]at g6
   refine⟨L2,_,rfl,cG.of g6,?_⟩
   have q1:=s2 _ _ h6
   have ef:(ps.map fun p=>p.eF).map vn=(ps.map fun p=>((p.eF:Nat):Int)).map V.int:=by rw[aR,aR];rfl
   rw[ef]at q1
   refine⟨_,rfl,.inl ⟨rfl,_,cG.of q1⟩,L,_,_,rfl,rfl,cG.of q1,_,rfl,.inl ⟨rfl,_,cG.of q1⟩,L,_,_,rfl,rfl,cG.of q1,_,rfl,.inl ⟨rfl,_,cG.of q1⟩,L,_,_,rfl,rfl,cG.of q1,_,rfl,by show 4<=aK;decide,fun q hq=>?_⟩
   have ZF:=s1.trans s2
   refine k _ _ (ZF.trans (aQ.new hq)) (.lst (iY aE ((hO.mono ZF).fresh hq)) ?_)
   have c0:(ps.map fun p=>((p.eF:Nat):Int)).count 0=(ps.filter fun p=>decide (p.eF=0)).length:=Fw ps 0
   have c1:(ps.map fun p=>((p.eF:Nat):Int)).count 1=(ps.filter fun p=>decide (p.eF=1)).length:=Fw ps 1
   have c2:(ps.map fun p=>((p.eF:Nat):Int)).count 2=(ps.filter fun p=>decide (p.eF=2)).length:=Fw ps 2
   rw[c0,c1,c2,aaD]
   exact je [_,_,_,_]
end
def Ia(f:Nat->Nat)(es:List (Nat×Nat)):List Nat:=es.length::es.flatMap fun e=>[f e.1,e.1,e.2]
theorem Fx(f:Nat->Nat)(es:List (Nat×Nat)):(Ia f es).length=1+3*es.length:=by
 unfold Ia
 rw[br]
 have:∀l:List (Nat×Nat),(l.flatMap fun e=>[f e.1,e.1,e.2]).length=3*l.length:=by
  intro l
  induction l with
  |nil=>rfl
  |cons e l ih=>rw[dY,au,ih,br];simp;omega
 rw[this]
 omega
def qy(ps:List Pc)(cs:List Ch)(i:Nat):List Nat:=iI (ps.getD i fZ).fV++([if(ps.getD i fZ).eF=2 then qm cs i else 0]++([if(ps.getD i fZ).eF=1 then qm cs i else 0]++Ia (Bv cs i) (ps.getD i fZ).entries))
def Kp(ps:List Pc)(cs:List Ch):List Nat:=ps.length::(bK ps.length).flatMap (qy ps cs)
theorem aaE{p:Pc}(h:jn p):p.entries.length<=4:=by
 rcases h with⟨_,e⟩|⟨_,e⟩
 ·rw[e]
  unfold EJ
  rw[aa]
  exact bQ (o_ _ _) (by decide)
 ·rw[e];exact bE _
theorem UN{ps:List Pc}(cs:List Ch)(hR:Po ps)(dz:∀p∈ps,jn p){i:Nat}(hi:i<ps.length):(qy ps cs i).length<=20:=by
 have hm:=aL (iT hi)
 unfold qy
 rw[au,au,au,GY (hR _ hm),Fx]
 have:=aaE (dz _ hm)
 show 5+(1+(1+(1+3*(ps.getD i fZ).entries.length)))<=20
 omega
theorem Jb{ps:List Pc}(cs:List Ch)(hR:Po ps)(dz:∀p∈ps,jn p):∀n,n<=ps.length->((bK n).flatMap (qy ps cs)).length<=20*n:=by
 intro n
 induction n with
 |zero=>intro _;simp
 |succ n ih=>
  intro h
  rw[gB,gJ,au,jm]
  have:=UN cs hR dz (show n<ps.length by omega)
  have:=ih (by omega)
  omega
theorem Sd(l:List Nat)(m:Nat):l.map vn++[vn m]=(l++[m]).map vn:=by rw[bu];rfl
theorem ady{c:Prop}[Decidable c]{b:Bool}{n m i:Nat}{σ:St}{Q:V->Prop}(hb:b=decide c)(hv:σ[i]?=some (some (vn n)))(h:Q (vn (if c then n else m))):if b=true then(∃v,σ[i]?=some (some v)/\Q v)else Q (vn m):=by
 by_cases hc:c
 ·rw[aG hc]at h
  exact kO (hb.trans (aI hc)) ⟨_,hv,h⟩
 ·rw[aD hc]at h
  exact iL (hb.trans (aH hc)) h
section
variable{P:bD}{w:cC}{K:ah}{mg:cM->Option ao}{base:cY}
def ag9(K:ah):Sp:=fun vs H Q _=>∃(D:ak->Bool)(v1:V)(d:ak)(es:List (Nat×Nat))(f:Nat->Nat)(dh:List (yp×V)),vs=[v1,.ref d]/\Od H D/\Dx K (hd H D) v1 (VN es)/\hd H D d=some (.dK dh)/\es.length<=10/\(∀e∈es,vq dh (.inl (e.1:Int))=some (vn (f e.1)))/\
 ∀v H',aQ H H'->Dx K (hd H' D) v (dH (Ia f es))->Q v H'
theorem JE(G:fT K mg)(Df:jL K mg "told_entries" sM ["entries","numbers"]):bG P w K mg base "told_entries" ["entries","numbers"] 1 (ag9 K):=by
 refine Df.ok qW (fun vs H Q E⟨_,_,_,_,_,_,e,_⟩=>by rw[e];rfl) fun f iB A outer s H vs Q E hr h=>?_
 obtain⟨D,v1,d,es,ff,dh,rfl,hO,de,hd0,ne,hv,k⟩:=h
 obtain⟨a,xs,rfl,h1,h2⟩:=de.bV
 have lx:=h2.length
 rw[aa]at lx
 have hu:=jJ (mZ (by decide:1<=64) _) hr.units
 refine⟨_,(aC (cR (i:=2) qW.nd rfl (by first|exact bz rfl|exact bB rfl) (c_ (aj (cS (r:=l5 K) cB (by rfl) G.iN dN (aj (pv 0) aA)) aA)))
   (aC (jO cA rfl (fE (pv 0)) (xy rfl (gQ (cJ (i:=3) qW.nd rfl (by first|exact bz rfl|exact bB rfl)) (gQ (cJ (i:=4) qW.nd rfl (by first|exact bz rfl|exact bB rfl)) su))) (aJ (eZ (kQ aZ fO fQ pX (pv 2) (aj (c_ (aj (VE hu (pv 1) (pv 3) (fun _ _=>rfl)) (aj (pv 3) (aj (pv 4) aA)))) aA)))))
   (aJ (bF (pv 2))))),?_⟩
 refine⟨_,rfl,a,xs,rfl,.inl (cG.of (aq _ _ h1)),by show 1<=aK;decide,fun L hL=>?_⟩
 have t1:=aQ.new (o:=.lst [V.int (xs.length:Int)]) hL
 refine⟨_,rfl,a,rfl,⟨_,cG.of (t1 _ _ (aq _ _ h1))⟩,kq (K:=K) (a:=a) (xs:=xs)
  (fun i σ H'=>∃v3 v4,σ=[some (.ref a),some (.ref d),some (.ref L),v3,v4]/\aQ H H'/\H' L=some (.lst ((es.length::(es.take i).flatMap fun e=>[ff e.1,e.1,e.2]).map vn)))
  ⟨none,none,rfl,t1,by rw[aE,lx];rfl⟩ (fun i σ H' _⟨_,_,_,c,_⟩=>cG.of (c _ _ (aq _ _ h1))) ?_ ?_⟩
 ·rintro i y σ H' hi ⟨v3,v4,rfl,sH,q⟩
  obtain⟨d',e1,hy⟩:=h2.get hi
  obtain⟨e,ee,rfl⟩:=mT e1
  obtain⟨ta,txs,rfl,u1,u2⟩:=hy.DZ
  obtain⟨y1,y2,rfl,w1,w2⟩:=u2.two
  obtain rfl:=w1.int_inv
  obtain rfl:=w2.int_inv
  have he:=aL ee
  have IB:i<es.length:=(az.mp ee).1
  have gd:Ep H' d (vn e.1) (some (vn (ff e.1))):=by
   have:=Ep.k (k:=.inl (e.1:Int)) (sH _ _ (aq _ _ hd0))
   rw[hv e he]at this
   exact this
  refine⟨ta,_,rfl,sH.EF (aq.EF u1),rfl,_,_,rfl,_,_,rfl,rfl,?_⟩
  refine⟨_,rfl,.inl ⟨rfl,_,cG.of q⟩,_,rfl,_,rfl,d,_,rfl,gd,_,rfl,_,rfl,by show 3<=aK;decide,fun b hb=>?_⟩
  have nbL:L≠b:=fun e=>by rw[e,hb]at q;cases q
  refine⟨L,b,_,_,rfl,rfl,by rw[bY nbL];exact q,aE,?_,_,_,rfl,((sH.trans (aQ.new hb)).write hL),?_⟩
  ·refine nI ?_
   have:=Fx ff (es.take i)
   unfold Ia at this
   rw[br]at this
   rw[aa,br]
   have l3:(es.take i).length<=es.length:=by rw[a_];omega
   simp only[br,Mu]
   omega
  ·rw[aE]
   have e3:[vn (ff e.1),V.int ((e.1:Nat):Int),V.int ((e.2:Nat):Int)]=[ff e.1,e.1,e.2].map vn:=rfl
   rw[e3,GX,gv ee,gJ,jm,qE]
 ·rintro σ H' ⟨v3,v4,rfl,sH,q⟩
  rw[lx,cU]at q
  exact⟨_,rfl,k _ _ sH (.lst (iY q (hO.fresh hL)) (je _))⟩
def ag'(K:ah)(CP CH C:ak):Sp:=fun vs H Q _=>∃D v ps cs cost,vs=[v]/\Od H D/\Ja K CP CH C (hd H D) v ps cs cost/\JD ps cs/\Po ps/\(∀p∈ps,jn p)/\ps.length<=4000/\∀v H',aQ H H'->Dx K (hd H' D) v (dH (Kp ps cs))->Q v H'
theorem Se{CP CH C:ak}(G:fT K mg)(TP:iO K CP n9)(TC:iO K C tF)(Df:jL K mg "told_row" Ba ["comparison"])(ou:bG P w K mg base "told_letter" ["letter"] 1 (qC K zC))(xW:bG P w K mg base "told_entries" ["entries","numbers"] 1 (ag9 K)):bG P w K mg base "told_row" ["comparison"] 2 (ag' K CP CH C):=by
 refine Df.ok vA (fun vs H Q E⟨_,_,_,_,_,e,_⟩=>by rw[e];rfl) fun f iB A outer s H vs Q E hr h=>?_
 obtain⟨D,v,ps,cs,cost,rfl,hO,hC,hS,kR,dz,np,k⟩:=h
 obtain⟨ca,Ft,v1,v2,v4,v5,rfl,c0,c1,c2,c3,c4⟩:=hC.ex
 obtain⟨a,acc,rfl,h1,h2⟩:=c1.ex
 obtain⟨pb,rfl,zp⟩:=i7 c3
 obtain⟨ea,ds,rfl,z1,z2,z3⟩:=c4.ex
 have l1:=h2.length
 have lpn:(R6 ps cs).length=ps.length:=by unfold R6;rw[aa,eK]
 refine⟨_,(aC (cR (i:=1) vA.nd rfl (by first|exact bz rfl|exact bB rfl) (c_ (aj (cS (r:=l5 K) cB (by rfl) G.iN dN (aj (bC (K:=K) rfl (pv 0) rfl) aA)) aA)))
   (aC (jO cA rfl (Ke rfl G.rP (aj (bC (K:=K) rfl (pv 0) rfl) aA)) (xy rfl (gQ (cJ (i:=2) vA.nd rfl (by first|exact bz rfl|exact bB rfl)) (gQ (cJ (i:=3) vA.nd rfl (by first|exact bz rfl|exact bB rfl)) su))) (aC (cR (i:=4) vA.nd rfl (by first|exact bz rfl|exact bB rfl) (eX (r:=jP K) dm (bC (K:=K) rfl (pv 0) rfl) (pv 2) (fun _ _=>rfl)))
   (aC (eZ (kQ aZ fO fQ pX (pv 1) (aj (bL ou (hr.mono (by decide)) (aj (bC (K:=K) rfl (pv 3) rfl) aA)) aA)))
   (aC (eZ (kQ aZ cg cu iK (pv 1) (aj (CG (dB jM (bC (K:=K) rfl (pv 3) rfl) (bW G.PUT) (dZ _)) (pv 4) b9) aA)))
   (aC (eZ (kQ aZ cg cu iK (pv 1) (aj (CG (dB jM (bC (K:=K) rfl (pv 3) rfl) (bW G.Rm) (dZ _)) (pv 4) b9) aA)))
   (aJ (eZ (kQ aZ fO fQ pX (pv 1) (aj (bL xW (hr.mono (by decide)) (aj (bC (K:=K) rfl (pv 3) rfl) (aj (eX (r:=jP K) dm (bC (K:=K) rfl (pv 0) rfl) (pv 2) (fun _ _=>rfl)) aA))) aA)))))))))
   (aJ (bF (pv 1))))),?_⟩
 refine⟨_,rfl,ca,C,Ft,_,_,rfl,aq _ _ c0,TC.cl,TC.no _ (by decide),rfl,a,acc,rfl,.inl (cG.of (aq _ _ h1)),by show 1<=aK;decide,fun L hL=>?_⟩
 have t1:=aQ.new (o:=.lst [V.int (acc.length:Int)]) hL
 refine⟨_,rfl,ca,C,Ft,_,_,rfl,t1 _ _ (aq _ _ c0),TC.cl,TC.no _ (by decide),rfl,a,_,rfl,cG.of (t1 _ _ (aq _ _ h1)),Gp (K:=K) (a:=a) (xs:=acc)
  (fun i σ H'=>∃v2 v3 v4,σ=[some (.ref ca),some (.ref L),v2,v3,v4]/\aQ H H'/\H' L=some (.lst ((ps.length::(bK i).flatMap (qy ps cs)).map vn)))
  ⟨none,none,none,rfl,t1,by rw[aE,l1];rfl⟩ (fun i σ H' _⟨_,_,_,_,c,_⟩=>cG.of (c _ _ (aq _ _ h1))) ?_ ?_⟩
 ·rintro i y σ H' T hi ⟨u2,u3,u4,rfl,sH,q⟩ hT
  obtain⟨p,ep,hp⟩:=h2.get hi
  have IB:i<ps.length:=(az.mp ep).1
  have gp:ps.getD i fZ=p:=by rw[aO,ep];rfl
  have hm:=aL ep
  obtain⟨b,dx,w2,w3,rfl,r1,r2,r3⟩:=hp.ex
  have tT:=aQ.new (o:=.tup [.int ((i:Nat):Int),.ref b]) hT
  have sT:=sH.trans tT
  have qT:=tT _ _ q
  have lr:=Jb cs kR dz i (by omega)
  have epn:((R6 ps cs).map vn)[i]?=some (vn (qm cs i)):=by
   unfold R6
   rw[aT,aT,mW IB]
   rfl
  refine⟨T,_,rfl,rN.of aE,rfl,_,_,rfl,_,_,rfl,rfl,?_⟩
  refine⟨_,rfl,ca,C,Ft,_,_,rfl,sT _ _ (aq _ _ c0),TC.cl,TC.no _ (by decide),rfl,_,rfl,pb,_,_,_,rfl,rfl,cG.of (sT _ _ (aq _ _ zp)),rG epn,?_⟩
  refine⟨_,rfl,.inl ⟨rfl,_,cG.of qT⟩,_,rfl,b,CP,dx,_,_,rfl,sT _ _ (aq _ _ r1),TP.cl,TP.no _ (by decide),rfl,D,_,_,hO.mono sT,.cons ((aU sT).dp r2) .nil,⟨p.fV,rfl,kR p hm,rfl⟩,fun vl H2 s2 d2=>?_⟩
  obtain⟨lb,rfl,zl⟩:=i7 d2
  have ll:=GY (kR p hm)
  have le:=aaE (dz p hm)
  have ZL:=sT.trans s2
  refine⟨L,lb,_,_,rfl,rfl,s2 _ _ qT,aq _ _ zl,nI (by rw[aa,aa,br];omega),?_⟩
  rw[GX]
  have s03:aQ H (upd H2 L (.lst ((ps.length::(bK i).flatMap (qy ps cs)++iI p.fV).map vn))):=ZL.write hL
  generalize hH3:upd H2 L (.lst ((ps.length::(bK i).flatMap (qy ps cs)++iI p.fV).map vn))=H3 at s03⊢
  have q3:H3 L=some (.lst ((ps.length::(bK i).flatMap (qy ps cs)++iI p.fV).map vn)):=by rw[<-hH3,aE]
  clear hH3
  generalize hn:qm cs i=num at *
  have XU:=s03 _ _ (aq _ _ r1)
  refine⟨_,rfl,.inl ⟨rfl,_,cG.of q3⟩,?_⟩
  refine⟨_,rfl,b,CP,dx,_,_,rfl,XU,TP.cl,TP.no _ (by decide),rfl,rfl,_,rfl,?_⟩
  refine ady (c:=p.eF=2) (n:=num) (m:=0) (fH.mpr ⟨fun e=>pD (a:=p.eF) (b:=2) e,fun e=>by rw[e];rfl⟩) rfl ?_
  refine⟨L,_,_,rfl,rfl,q3,big (by rw[aa,au,br];omega),?_⟩
  rw[Sd]
  have s04:=s03.write (o:=.lst ((ps.length::(bK i).flatMap (qy ps cs)++iI p.fV++[if p.eF=2 then num else 0]).map vn)) hL
  generalize hH4:upd H3 L (.lst ((ps.length::(bK i).flatMap (qy ps cs)++iI p.fV++[if p.eF=2 then num else 0]).map vn))=H4 at s04⊢
  have q4:H4 L=some (.lst ((ps.length::(bK i).flatMap (qy ps cs)++iI p.fV++[if p.eF=2 then num else 0]).map vn)):=by rw[<-hH4,aE]
  clear hH4
  refine⟨_,rfl,.inl ⟨rfl,_,cG.of q4⟩,?_⟩
  refine⟨_,rfl,b,CP,dx,_,_,rfl,s04 _ _ (aq _ _ r1),TP.cl,TP.no _ (by decide),rfl,rfl,_,rfl,?_⟩
  refine ady (c:=p.eF=1) (n:=num) (m:=0) (fH.mpr ⟨fun e=>pD (a:=p.eF) (b:=1) e,fun e=>by rw[e];rfl⟩) rfl ?_
  refine⟨L,_,_,rfl,rfl,q4,big (by rw[aa,au,au,br,cZ];omega),?_⟩
  rw[Sd]
  have s05:=s04.write (o:=.lst ((ps.length::(bK i).flatMap (qy ps cs)++iI p.fV++[if p.eF=2 then num else 0]++[if p.eF=1 then num else 0]).map vn)) hL
  generalize hH5:upd H4 L (.lst ((ps.length::(bK i).flatMap (qy ps cs)++iI p.fV++[if p.eF=2 then num else 0]++[if p.eF=1 then num else 0]).map vn))=H5 at s05⊢
  have q5:H5 L=some (.lst ((ps.length::(bK i).flatMap (qy ps cs)++iI p.fV++[if p.eF=2 then num else 0]++[if p.eF=1 then num else 0]).map vn)):=by rw[<-hH5,aE]
  clear hH5
  obtain⟨d,ed⟩:∃d,ds[i]?=some d:=⟨_,aB (by rw[z2];exact IB)⟩
  obtain⟨dh,ek1,ek2⟩:=z3 i d ed
  refine⟨_,rfl,.inl ⟨rfl,_,cG.of q5⟩,?_⟩
  refine⟨_,rfl,b,CP,dx,_,_,rfl,s05 _ _ (aq _ _ r1),TP.cl,TP.no _ (by decide),rfl,_,rfl,ca,C,Ft,_,_,rfl,s05 _ _ (aq _ _ c0),TC.cl,TC.no _ (by decide),rfl,_,rfl,ea,_,_,_,rfl,rfl,cG.of (s05 _ _ (aq _ _ z1)),rG (show(ds.map V.ref)[i]?=some (.ref d) by rw[aT,ed];rfl),?_⟩
  refine⟨D,w3,d,p.entries,Bv cs i,dh,rfl,hO.mono s05,(aU s05).dp r3,aU s05 _ _ ek1,by omega,fun e he=>?_,fun ve H6 s6 d6=>?_⟩
  ·rw[ek2 e.1]
   have hv:=(iP (dz p hm) he).2.2
   rw[hS.RX IB (by rw[gp,hv];rfl)]
   rfl
  ·obtain⟨eb,rfl,ze⟩:=i7 d6
   have lee:=Fx (Bv cs i) p.entries
   refine⟨L,eb,_,_,rfl,rfl,s6 _ _ q5,aq _ _ ze,nI (by rw[aa,aa,au,au,au,br,cZ,cZ];omega),_,_,_,rfl,(s05.trans s6).write hL,?_⟩
   rw[aE,GX,gB,gJ,jm]
   unfold qy
   rw[gp,hn]
   simp only[gO,qE]
 ·rintro σ H' ⟨u2,u3,u4,rfl,sH,q⟩
  rw[l1]at q
  exact⟨_,rfl,k _ _ sH (.lst (iY q (hO.fresh hL)) (je _))⟩
end
def PB(c:Ch):List Nat:=[c.kind,c.ie.length,c.drops.length,c.iC.length]
def PD(cs:List Ch):List Nat:=cs.length::cs.flatMap PB
theorem LS(cs:List Ch):(cs.flatMap PB).length=4*cs.length:=by
 induction cs with
 |nil=>rfl
 |cons c cs ih=>rw[dY,au,ih,br];show 4+_=_;omega
def Kq(p:Pc)(n:Nat)(set:List Nat):Bool:=if p.eF=1 then has set n else if p.eF=2 then !has set n else false
section
variable{P:bD}{w:cC}{K:ah}{mg:cM->Option ao}{base:cY}
def aha(K:ah)(C:ak):Sp:=fun vs H Q _=>∃D v cs,vs=[v]/\Od H D/\Dd K C (hd H D) v cs/\cs.length<=24000/\∀v H',aQ H H'->Dx K (hd H' D) v (dH (PD cs))->Q v H'
theorem JF{C:ak}(G:fT K mg)(T:iO K C xP)(Df:jL K mg "told_changes" sN ["changes"]):bG P w K mg base "told_changes" ["changes"] 1 (aha K C):=by
 refine Df.ok vK (fun vs H Q E⟨_,_,_,e,_⟩=>by rw[e];rfl) fun f iB A outer s H vs Q E hr h=>?_
 obtain⟨D,v,cs,rfl,hO,hC,nc,k⟩:=h
 obtain⟨a,xs,rfl,h1,h2⟩:=hC.ex
 have lx:=h2.length
 refine⟨_,(aC (cR (i:=1) vK.nd rfl (by first|exact bz rfl|exact bB rfl) (c_ (aj (cS (r:=l5 K) cB (by rfl) G.iN dN (aj (pv 0) aA)) aA)))
   (aC (jO cA rfl (fE (pv 0)) (cJ (i:=2) vK.nd rfl (by first|exact bz rfl|exact bB rfl)) (aJ (eZ (kQ aZ fO fQ pX (pv 1) (aj (c_ (aj (bC (K:=K) rfl (pv 2) rfl) (aj (cS (r:=l5 K) cB (by rfl) G.iN dN (aj (bC (K:=K) rfl (pv 2) rfl) aA)) (aj (cS (r:=l5 K) cB (by rfl) G.iN dN (aj (bC (K:=K) rfl (pv 2) rfl) aA)) (aj (cS (r:=l5 K) cB (by rfl) G.iN dN (aj (bC (K:=K) rfl (pv 2) rfl) aA)) aA))))) aA)))))
   (aJ (bF (pv 1))))),?_⟩
 refine⟨_,rfl,a,xs,rfl,.inl (cG.of (aq _ _ h1)),by show 1<=aK;decide,fun L hL=>?_⟩
 have t1:=aQ.new (o:=.lst [V.int (xs.length:Int)]) hL
 refine⟨_,rfl,a,rfl,⟨_,cG.of (t1 _ _ (aq _ _ h1))⟩,kq (K:=K) (a:=a) (xs:=xs)
  (fun i σ H'=>∃v2,σ=[some (.ref a),some (.ref L),v2]/\aQ H H'/\H' L=some (.lst ((cs.length::(cs.take i).flatMap PB).map vn)))
  ⟨none,rfl,t1,by rw[aE,lx];rfl⟩ (fun i σ H' _⟨_,_,c,_⟩=>cG.of (c _ _ (aq _ _ h1))) ?_ ?_⟩
 ·rintro i y σ H' hi ⟨v2,rfl,sH,q⟩
  obtain⟨c,ec,hc⟩:=h2.get hi
  have IB:i<cs.length:=(az.mp ec).1
  obtain⟨ca,Ft,w2,w3,w4,rfl,r1,r2,r3,r4⟩:=hc.ex
  obtain⟨b2,rfl,z2⟩:=i7 r2
  obtain⟨b3,rfl,z3⟩:=i7 r3
  obtain⟨b4,rfl,z4⟩:=i7 r4
  have XU:=sH _ _ (aq _ _ r1)
  refine⟨_,rfl,.inl ⟨rfl,_,cG.of q⟩,?_⟩
  refine⟨_,rfl,ca,C,Ft,_,_,rfl,XU,T.cl,T.no _ (by decide),rfl,_,rfl,ca,C,Ft,_,_,rfl,XU,T.cl,T.no _ (by decide),rfl,b2,_,rfl,.inl (cG.of (sH _ _ (aq _ _ z2))),_,rfl,ca,C,Ft,_,_,rfl,XU,T.cl,T.no _ (by decide),rfl,b3,_,rfl,.inl (cG.of (sH _ _ (aq _ _ z3))),_,rfl,ca,C,Ft,_,_,rfl,XU,T.cl,T.no _ (by decide),rfl,b4,_,rfl,.inl (cG.of (sH _ _ (aq _ _ z4))),by show 4<=aK;decide,fun b hb=>?_⟩
  have nbL:L≠b:=fun e=>by rw[e,hb]at q;cases q
  have l1:=LS (cs.take i)
  have l3:(cs.take i).length<=cs.length:=by rw[a_];omega
  refine⟨L,b,_,_,rfl,rfl,by rw[bY nbL];exact q,aE,nI (by rw[aa,br];show _+4<=_;omega),_,rfl,(sH.trans (aQ.new hb)).write hL,?_⟩
  rw[aE]
  have e3:[vn c.kind,V.int (((c.ie.map vn).length:Nat):Int),V.int (((c.drops.map vn).length:Nat):Int),V.int (((c.iC.map vn).length:Nat):Int)]=(PB c).map vn:=by
   rw[aa,aa,aa];rfl
  rw[e3,GX,gv ec,gJ,jm,qE]
 ·rintro σ H' ⟨v2,rfl,sH,q⟩
  rw[lx,cU]at q
  exact⟨_,rfl,k _ _ sH (.lst (iY q (hO.fresh hL)) (je _))⟩
def ES(H:Hp)(d:ak)(set:List Nat):Prop:=∃dh,H d=some (.dK dh)/\dh.length<=set.length/\∀m:Nat,(vq dh (.inl (m:Int))).isSome=has set m
theorem ES.mono{H H':Hp}{d:ak}{set:List Nat}(s:aQ H H')(h:ES H d set):ES H' d set:=let⟨dh,a,b⟩:=h;⟨dh,s _ _ a,b⟩
def ahb(K:ah)(C:ak):Sp:=fun vs H Q _=>∃D v1 p n d set,vs=[v1,vn n,.ref d]/\xM K C (hd H D) v1 p/\ES H d set/\Q (.bl (Kq p n set)) H
theorem LU{C:ak}(G:fT K mg)(T:iO K C n9)(Df:jL K mg "is_left_out" uZ ["piece","number","accepted"]):bG P w K mg base "is_left_out" ["piece","number","accepted"] 1 (ahb K C):=by
 refine Df.ok K3 (fun vs H Q E⟨_,_,_,_,_,_,e,_⟩=>by rw[e];rfl) fun f iB A outer s H vs Q E hr h=>?_
 obtain⟨D,v1,p,n,d,set,rfl,hp,⟨dh,hk,_,hs⟩,k⟩:=h
 obtain⟨b,dx,w2,w3,rfl,r1,_,_⟩:=hp.ex
 have XU:=aq _ _ r1
 have hu:=jJ (mZ (by decide:1<=64) _) hr.units
 unfold Kq at k
 refine⟨_,(aC (eW (dB jM (bC (K:=K) rfl (pv 0) rfl) (bW G.Rm) (dZ _)) (aJ (bF (Tn (Y6 hu (pv 1) (pv 2))))) cN)
   (aC (eW (dB jM (bC (K:=K) rfl (pv 0) rfl) (bW G.PUT) (dZ _)) (aJ (bF (Tn (WE hu (pv 1) (pv 2))))) cN)
   (aJ (bF QK)))),?_⟩
 refine⟨_,rfl,b,C,dx,_,_,rfl,XU,T.cl,T.no _ (by decide),rfl,rfl,_,rfl,?_⟩
 by_cases e1:p.eF=1
 ·rw[aG e1,<-hs n]at k
  exact kO (aI (by rw[e1];rfl)) ⟨_,rfl,_,rfl,d,_,rfl,Ep.k (k:=.inl (n:Int)) hk,k⟩
 ·rw[aD e1]at k
  refine iL (aH fun e=>e1 (pD (b:=1) e)) ?_
  refine⟨_,rfl,b,C,dx,_,_,rfl,XU,T.cl,T.no _ (by decide),rfl,rfl,_,rfl,?_⟩
  by_cases e2:p.eF=2
  ·rw[aG e2,<-hs n]at k
   exact kO (aI (by rw[e2];rfl)) ⟨_,rfl,_,rfl,d,_,rfl,Ep.k (k:=.inl (n:Int)) hk,k⟩
  ·rw[aD e2]at k
   exact iL (aH fun e=>e2 (pD (b:=2) e)) k
def wX(f:Nat->Nat)(set:List Nat)(es:List (Nat×Nat))(l:List Nat):List Nat:=es.foldl (fun l e=>if has set (f e.1)=true then l.set e.1 e.2 else l) l
theorem PF(f:Nat->Nat)(set:List Nat)(es:List (Nat×Nat))(e:Nat×Nat)(l:List Nat):wX f set (es++[e]) l=if has set (f e.1)=true then(wX f set es l).set e.1 e.2 else wX f set es l:=by
 unfold wX
 rw[lV]
 rfl
theorem Jc(f:Nat->Nat)(set:List Nat):∀(es:List (Nat×Nat))(l:List Nat),(wX f set es l).length=l.length
 |[],l=>rfl
 |e::r,l=>by
  unfold wX
  rw[g9]
  refine(Jc f set r _).trans ?_
  split
  ·rw[xo]
  ·rfl
def ahc(K:ah)(C:ak):Sp:=fun vs H Q _=>∃(D:ak->Bool)(v1:V)(d1 d2:ak)(p:Pc)(f:Nat->Nat)(dh:List (yp×V))(set:List Nat),vs=[v1,.ref d1,.ref d2]/\Od H D/\xM K C (hd H D) v1 p/\H d1=some (.dK dh)/\ES H d2 set/\MU p.fV/\(∀e∈p.entries,e.1<4/\vq dh (.inl (e.1:Int))=some (vn (f e.1)))/\
 ∀v H',aQ H H'->Dx K (hd H' D) v (gS {sign:=p.fV.sign,look:=wX f set p.entries p.fV.look})->Q v H'
theorem GZ{C:ak}(G:fT K mg)(T:iO K C n9)(Df:jL K mg "version_letter" p8 ["piece","numbers","accepted"])(j8:bG P w K mg base "painted_letter" ["letter","prop","value"] 1 (qC K uw)):bG P w K mg base "version_letter" ["piece","numbers","accepted"] 2 (ahc K C):=by
 refine Df.ok lC (fun vs H Q E⟨_,_,_,_,_,_,_,_,e,_⟩=>by rw[e];rfl) fun f iB A outer s H vs Q E hr h=>?_
 obtain⟨D,v1,d1,d2,p,ff,dh,set,rfl,hO,hp,hk,hS,kL,hE,k⟩:=h
 obtain⟨b,dx,w2,w3,rfl,r1,r2,r3⟩:=hp.ex
 obtain⟨a,xs,rfl,h1,h2⟩:=r3.bV
 have lx:=h2.length
 rw[aa]at lx
 have hu:=jJ (mZ (by decide:1<=64) _) hr.units
 have XU:=aq _ _ r1
 refine⟨_,(aC (cR (i:=3) lC.nd rfl (by first|exact bz rfl|exact bB rfl) (bC (K:=K) rfl (pv 0) rfl))
   (aC (jO cA rfl (fE (bC (K:=K) rfl (pv 0) rfl)) (xy rfl (gQ (cJ (i:=4) lC.nd rfl (by first|exact bz rfl|exact bB rfl)) (gQ (cJ (i:=5) lC.nd rfl (by first|exact bz rfl|exact bB rfl)) su))) (aJ (eW (ue (Y6 hu (VE hu (pv 1) (pv 4) (fun _ _=>rfl)) (pv 2))) (aJ (cR (i:=3) lC.nd rfl (by first|exact bz rfl|exact bB rfl) (bL j8 (hr.mono (by decide)) (aj (pv 3) (aj (pv 4) (aj (pv 5) aA)))))) cN)))
   (aJ (bF (pv 3))))),?_⟩
 refine⟨_,rfl,b,C,dx,_,_,rfl,XU,T.cl,T.no _ (by decide),rfl,?_⟩
 refine⟨_,rfl,b,C,dx,_,_,rfl,XU,T.cl,T.no _ (by decide),rfl,a,rfl,⟨_,cG.of (aq _ _ h1)⟩,kq (K:=K) (a:=a) (xs:=xs)
  (fun i σ H'=>∃vl v4 v5,σ=[some (.ref b),some (.ref d1),some (.ref d2),some vl,v4,v5]/\aQ H H'/\Dx K (hd H' D) vl (gS {sign:=p.fV.sign,look:=wX ff set (p.entries.take i) p.fV.look}))
  ⟨w2,none,none,rfl,aQ.refl _,?_⟩ (fun i σ H' _⟨_,_,_,_,c,_⟩=>cG.of (c _ _ (aq _ _ h1))) ?_ ?_⟩
 ·rw[qu]
  exact r2
 ·rintro i y σ H' hi ⟨vl,v4,v5,rfl,sH,q⟩
  obtain⟨d',e1,hy⟩:=h2.get hi
  obtain⟨e,ee,rfl⟩:=mT e1
  obtain⟨ta,txs,rfl,u1,u2⟩:=hy.DZ
  obtain⟨y1,y2,rfl,w1,w2'⟩:=u2.two
  obtain rfl:=w1.int_inv
  obtain rfl:=w2'.int_inv
  have he:=aL ee
  obtain⟨e4,ev⟩:=hE e he
  obtain⟨aoH,ZQ,_,hs⟩:=hS.mono sH
  have gd:Ep H' d1 (vn e.1) (some (vn (ff e.1))):=by
   have:=Ep.k (k:=.inl (e.1:Int)) (sH _ _ hk)
   rw[ev]at this
   exact this
  refine⟨ta,_,rfl,sH.EF (aq.EF u1),rfl,_,_,rfl,_,_,rfl,rfl,?_⟩
  refine⟨_,rfl,_,rfl,d1,_,rfl,gd,_,rfl,d2,_,rfl,Ep.k (k:=.inl ((ff e.1:Nat):Int)) ZQ,_,rfl,?_⟩
  rw[hs,gv ee,PF]
  refine Qn (fun hb=>?_) fun hb=>?_
  ·rw[aG hb]
   refine⟨_,rfl,_,rfl,_,rfl,D,_,_,hO.mono sH,.cons q (.cons (.int _) (.cons (.int _) .nil)),⟨_,e.1,e.2,rfl,⟨(Jc _ _ _ _).trans kL.four,rfl⟩,e4,rfl⟩,fun v H2 s2 d2'=>?_⟩
   exact⟨_,_,_,rfl,sH.trans s2,d2'⟩
  ·rw[aD (by rw[hb];exact aF)]
   exact⟨_,_,_,rfl,sH,q⟩
 ·rintro σ H' ⟨vl,v4,v5,rfl,sH,q⟩
  rw[lx,cU]at q
  exact⟨_,rfl,k _ _ sH q⟩
end
theorem acw(l m:List Nat)(t:Nat):has (l++m) t=(has l t||has m t):=by unfold has;rw[MD]
theorem ES.put{H:Hp}{d:ak}{set:List Nat}(h:ES H d set)(n:Nat)(hs:set.length<100000)(v:V):∃dh,H d=some (.dK dh)/\dh.length<aK/\ES (upd H d (.dK (Gm dh (.inl (n:Int)) v))) d (set++[n]):=by
 obtain⟨dh,a,b,c⟩:=h
 refine⟨dh,a,big (by omega),_,aE,?_,fun m=>?_⟩
 ·have:=yD dh (.inl (n:Int)) v
  rw[au,cZ]
  omega
 ·rw[Q5,acw,Bt]
  by_cases e:n=m
  ·rw[aG (by rw[e]),aI e,Bool.or_true];rfl
  ·rw[aD (fun q=>e (by have:=SG q;omega)),aH e,jK,c m]
section
variable{P:bD}{w:cC}{K:ah}{mg:cM->Option ao}{base:cY}
def spV(K:ah)(CP CH C:ak):Sp:=fun vs H Q _=>∃(D:ak->Bool)(v1 v2:V)(ps:List Pc)(cs:List Ch)(cost:Nat)(set:List Nat),vs=[v1,v2]/\Od H D/\Ja K CP CH C (hd H D) v1 ps cs cost/\JD ps cs/\Po ps/\(∀p∈ps,jn p)/\ps.length<=4000/\Dx K (hd H D) v2 (dH set)/\set.length<=2000/\
 ∀v H',aQ H H'->Dx K (hd H' D) v (l6 (B7 ps cs set))->Q v H'
def Ef(ps:List Pc)(cs:List Ch)(set:List Nat)(i:Nat):List bZ:=((bK i).filter (vh ps cs set)).map (uH ps cs set)
theorem PJ(ps:List Pc)(cs:List Ch)(set:List Nat)(i:Nat):Ef ps cs set (i+1)=Ef ps cs set i++if vh ps cs set i=true then [uH ps cs set i]else []:=by
 unfold Ef
 rw[gB,sf,bu,cK,DW]
 split<;>rfl
theorem Sf(ps:List Pc)(cs:List Ch)(set:List Nat)(i:Nat):(Ef ps cs set i).length<=i:=by
 unfold Ef
 rw[aa]
 exact bQ (o_ _ _) (by rw[eK];exact aV _)
theorem Nb{CP CH C:ak}(G:fT K mg)(TP:iO K CP n9)(TC:iO K C tF)(Df:jL K mg "version_of" wO ["comparison","numbers"])(zD:bG P w K mg base "is_left_out" ["piece","number","accepted"] 1 (ahb K CP))(uI:bG P w K mg base "version_letter" ["piece","numbers","accepted"] 2 (ahc K CP)):bG P w K mg base "version_of" ["comparison","numbers"] 3 (spV K CP CH C):=by
 refine Df.ok oq (fun vs H Q E⟨_,_,_,_,_,_,_,e,_⟩=>by rw[e];rfl) fun f iB A outer s H vs Q E hr h=>?_
 obtain⟨D,v1,v2,ps,cs,cost,set,rfl,hO,hC,hS,kR,dz,np,aj4,ns,k⟩:=h
 obtain⟨ca,Ft,u1,u2,u4,u5,rfl,c0,c1,c2,c3,c4⟩:=hC.ex
 obtain⟨a,acc,rfl,h1,h2⟩:=c1.ex
 obtain⟨pb,rfl,zp⟩:=i7 c3
 obtain⟨ea,ds,rfl,z1,z2,z3⟩:=c4.ex
 obtain⟨sb,rfl,zs⟩:=i7 aj4
 have l1:=h2.length
 have hu:=jJ (mZ (by decide:1<=64) _) hr.units
 refine⟨_,(aC (cR (i:=2) oq.nd rfl (by first|exact bz rfl|exact bB rfl) Q_)
   (aC (jO cA rfl (fE (pv 1)) (cJ (i:=3) oq.nd rfl (by first|exact bz rfl|exact bB rfl)) (aJ (VF hu (pv 2) (pv 3) QK rfl)))
   (aC (cR (i:=4) oq.nd rfl (by first|exact bz rfl|exact bB rfl) (c_ aA))
   (aC (jO cA rfl (Ke rfl G.rP (aj (bC (K:=K) rfl (pv 0) rfl) aA)) (xy rfl (gQ (cJ (i:=5) oq.nd rfl (by first|exact bz rfl|exact bB rfl)) (gQ (cJ (i:=6) oq.nd rfl (by first|exact bz rfl|exact bB rfl)) su))) (aJ (eW (qw (rC (bL zD (hr.mono (by decide)) (aj (pv 6) (aj (eX (r:=jP K) dm (bC (K:=K) rfl (pv 0) rfl) (pv 5) (fun _ _=>rfl)) (aj (pv 2) aA)))) (fun _=>rfl))) (aJ (eZ (kQ aZ cg cu iK (pv 4) (aj (bL uI (hr.mono (by decide)) (aj (pv 6) (aj (eX (r:=jP K) dm (bC (K:=K) rfl (pv 0) rfl) (pv 5) (fun _ _=>rfl)) (aj (pv 2) aA)))) aA)))) cN)))
   (aJ (bF (pv 4))))))),?_⟩
 refine fun A' hA=>?_
 have tA:=aQ.new (o:=.dK []) hA
 refine⟨_,rfl,sb,rfl,⟨_,cG.of (tA _ _ (aq _ _ zs))⟩,kq (K:=K) (a:=sb) (xs:=set.map vn)
  (fun i σ H'=>∃v3,σ=[some (.ref ca),some (.ref sb),some (.ref A'),v3,none,none,none]/\aQ H H'/\ES H' A' (set.take i))
  ⟨none,rfl,tA,[],aE,aV _,fun m=>rfl⟩ (fun i σ H' _⟨_,_,c,_⟩=>cG.of (c _ _ (aq _ _ zs))) ?_ ?_⟩
 ·rintro i y σ H' hi ⟨v3,rfl,sH,q⟩
  obtain⟨n,en,rfl⟩:=mT hi
  have lt:(set.take i).length<=2000:=by rw[a_];omega
  obtain⟨dh,q1,q2,q3⟩:=q.put n (by omega) (.bl true)
  refine⟨_,rfl,_,rfl,A',_,rfl,WB.k (k:=.inl (n:Int)) q1 q2,_,rfl,sH.write hA,?_⟩
  rw[gv en]
  exact q3
 ·rintro σ H1 ⟨v3,rfl,s1,q⟩
  rw[aa,cU]at q
  have o1:=hO.mono s1
  refine⟨bE _,fun L hL=>?_⟩
  have nAL:A'≠L:=fun e=>by
   obtain⟨dh,q1,_⟩:=q
   rw[e,hL]at q1
   cases q1
  have tL:=aQ.new (o:=.lst []) hL
  refine⟨_,rfl,ca,C,Ft,_,_,rfl,tL _ _ (s1 _ _ (aq _ _ c0)),TC.cl,TC.no _ (by decide),rfl,a,_,rfl,cG.of (tL _ _ (s1 _ _ (aq _ _ h1))),Gp (K:=K) (a:=a) (xs:=acc)
   (fun i σ H'=>∃v5 v6,σ=[some (.ref ca),some (.ref sb),some (.ref A'),v3,some (.ref L),v5,v6]/\yt K D H1 H' L ((Ef ps cs set i).map gS))
   ⟨none,none,rfl,yt.start o1 hL⟩ (fun i σ H' _⟨_,_,_,c⟩=>cG.of (c.same _ _ (s1 _ _ (aq _ _ h1)))) ?_ ?_⟩
  ·rintro i y σ H' T hi ⟨v5,v6,rfl,c⟩ hT
   obtain⟨p,ep,hp⟩:=h2.get hi
   have IB:i<ps.length:=(az.mp ep).1
   have gp:ps.getD i fZ=p:=by rw[aO,ep];rfl
   have hm:=aL ep
   have tT:=aQ.new (o:=.tup [.int ((i:Nat):Int),y]) hT
   have cT:=c.skip tT
   have sT:=s1.trans cT.same
   have sd:aQ (hd H D) (hd (upd H' T (.tup [.int ((i:Nat):Int),y])) (ad D L)):=(aU s1).trans (by rw[<-m8 hL];exact aU cT.same)
   have epn:((R6 ps cs).map vn)[i]?=some (vn (qm cs i)):=by
    unfold R6
    rw[aT,aT,mW IB]
    rfl
   obtain⟨d,ed⟩:∃d,ds[i]?=some d:=⟨_,aB (by rw[z2];exact IB)⟩
   obtain⟨dh,ek1,ek2⟩:=z3 i d ed
   have qT:ES (upd H' T (.tup [.int ((i:Nat):Int),y])) A' set:=q.mono cT.same
   have lv:=Sf ps cs set i
   refine⟨T,_,rfl,rN.of aE,rfl,_,_,rfl,_,_,rfl,rfl,?_⟩
   refine⟨_,rfl,_,rfl,ca,C,Ft,_,_,rfl,sT _ _ (aq _ _ c0),TC.cl,TC.no _ (by decide),rfl,_,rfl,pb,_,_,_,rfl,rfl,cG.of (sT _ _ (aq _ _ zp)),rG epn,_,rfl,D,y,p,qm cs i,A',set,rfl,xM.mono _ _ _ _ (aU sT) hp,qT,?_⟩
   have ahd:(!Kq p (qm cs i) set)=vh ps cs set i:=by
    unfold Kq vh
    rw[gp]
    by_cases e1:p.eF=1
    ·rw[aG e1,aG e1,hS.Ea IB (.inl (by rw[gp];exact e1))]
    ·rw[aD e1,aD e1]
     by_cases e2:p.eF=2
     ·rw[aG e2,aG e2,hS.Ea IB (.inr (by rw[gp];exact e2)),Bool.not_not]
     ·rw[aD e2,aD e2];rfl
   refine⟨_,rfl,?_⟩
   dsimp only
   rw[ahd,PJ]
   refine Qn (fun hb=>?_) fun hb=>?_
   ·rw[aG hb]
    obtain⟨agV,b1,_⟩:=cT.ex
    refine⟨_,rfl,.inl ⟨rfl,_,cG.of b1⟩,_,rfl,_,rfl,ca,C,Ft,_,_,rfl,sT _ _ (aq _ _ c0),TC.cl,TC.no _ (by decide),rfl,_,rfl,ea,_,_,_,rfl,rfl,cG.of (sT _ _ (aq _ _ z1)),rG (show(ds.map V.ref)[i]?=some (.ref d) by rw[aT,ed];rfl),_,rfl,?_⟩
    refine⟨ad D L,y,d,A',p,Bv cs i,dh,set,rfl,cT.odL,xM.mono _ _ _ _ sd hp,sT _ _ (aq _ _ ek1),qT,kR p hm,fun e he=>?_,fun vl H2 s2 d2=>?_⟩
    ·obtain⟨_,e1,e2⟩:=iP (dz p hm) he
     refine⟨?_,?_⟩
     ·unfold adK at e1
      simp at e1
      omega
     ·rw[ek2 e.1,hS.RX IB (by rw[gp,e2];rfl)]
      rfl
    ·obtain⟨R5,g1,g2,g3⟩:=cT.push hL s2 d2 (by rw[aa];exact big (by omega))
     refine⟨L,R5,_,rfl,rfl,g1,g2,_,_,rfl,?_⟩
     rw[bu]
     have:uH ps cs set i={sign:=p.fV.sign,look:=wX (Bv cs i) set p.entries p.fV.look}:=by
      unfold uH
      rw[gp]
      rfl
     rw[this]
     exact g3
   ·rw[aD (by rw[hb];exact aF),cQ]
    exact⟨_,_,rfl,cT⟩
  ·rintro σ H' ⟨v5,v6,rfl,c⟩
   have q2:=c.done hL o1
   rw[l1]at q2
   exact⟨_,rfl,k _ _ (s1.trans c.same) q2⟩
end
def Cm(l:List Int):bf:=.list (l.map jS)
theorem V4{K:ah}{H:Hp}:∀{l:List Int}{vs:List V},bN K H vs (l.map jS)->vs=l.map V.int
 |[],_,.nil=>rfl
 |n::l,_,.cons a r=>by rw[bg,<-V4 r,a.int_inv]
theorem BB{K:ah}{H:Hp}:∀l:List Int,bN K H (l.map V.int) (l.map jS)
 |[]=>.nil
 |n::l=>.cons (.int n) (BB l)
theorem qf{K:ah}{H:Hp}{v:V}{l:List Int}(h:Dx K H v (Cm l)):∃b,v=.ref b/\H b=some (.lst (l.map V.int)):=by
 obtain⟨b,xs,rfl,h1,h2⟩:=h.bV
 rw[V4 h2]at h1
 exact⟨b,rfl,h1⟩
theorem Xq(l:List Nat):Cm (l.map acT)=dH l:=by unfold Cm dH;rw[aR];rfl
theorem aaF{K:ah}{H H':Hp}{r a C dx:ak}{fs:List (cM×V)}{xs:List V}(hr:H r=some (.ins C dx fs))(s:j7 r H H')(h:cG K H a xs):cG K H' a xs:=by
 rcases h with(h|⟨o,h⟩)|h
 ·exact .inl (.inl (s _ _ h fun e=>by rw[e,hr]at h;cases h))
 ·exact .inl (.inr ⟨o,s _ _ h fun e=>by rw[e,hr]at h;cases h⟩)
 ·exact .inr h
def rdF(a:ak)(p:Nat):List (cM×V):=[("calls",.ref a),("place",vn p)]
def DA:List cM:=["calls","place"]
section
variable{P:bD}{w:cC}{K:ah}{mg:cM->Option ao}{base:cY}
def ahe(C:ak):Sp:=fun vs H Q _=>∃x dx a,vs=[.ref x,.ref a]/\H x=some (.ins C dx [])/\Q .jX (upd H x (.ins C dx (rdF a 0)))
theorem LV{C:ak}(T:iO K C DA)(Df:E1 K mg C "CallReader" "CallReader.__init__" kI ["self","calls"]):t8 P w K mg base C "CallReader" ["self","calls"] 1 (ahe C):=by
 refine Df.ok A7 (fun vs H Q E⟨_,_,_,e,_⟩=>by rw[e];rfl) fun f iB A outer s H vs Q E hr h=>?_
 obtain⟨x,dx,a,rfl,hx,k⟩:=h
 refine⟨_,(aC (iV (pv 0) (pv 1) rfl)
   (aJ (iV (pv 0) b9 rfl))),?_⟩
 refine⟨_,rfl,_,rfl,x,C,dx,_,rfl,hx,T.cl,T.no _ (by decide),by simp,?_⟩
 refine⟨_,rfl,x,C,dx,_,rfl,aE,T.cl,T.no _ (by decide),by show 1<1000;decide,?_⟩
 rw[l8]
 exact k
structure Ib(K:ah)(C:ak)(H:Hp)(r a:ak)(ns:List Int)(p:Nat):Prop where
 ex:∃dx,H r=some (.ins C dx (rdF a p))
 sq:cG K H a (ns.map V.int)
def aaG(K:ah)(C:ak):Sp:=fun vs H Q _=>∃r a ns p,vs=[.ref r]/\Ib K C H r a ns p/\Q (.bl (decide (p<ns.length))) H
theorem Sg{C:ak}(G:fT K mg)(T:iO K C DA)(Df:iZ K C "has_more" "CallReader.has_more" kJ ["self"]):dG P w K mg base C "has_more" ["self"] 1 (aaG K C):=by
 refine Df.ok A8 (fun vs H Q E⟨_,_,_,_,e,_⟩=>by rw[e];rfl) fun f iB A outer s H vs Q E hr h=>?_
 obtain⟨r,a,ns,p,rfl,hR,k⟩:=h
 obtain⟨dx,h1⟩:=hR.ex
 refine⟨_,(aJ (bF (AW xB (bC (K:=K) rfl (pv 0) rfl) (cS (r:=l5 K) cB (by rfl) G.iN dN (aj (bC (K:=K) rfl (pv 0) rfl) aA)) (dZ _)))),?_⟩
 refine⟨_,rfl,r,C,dx,_,_,rfl,h1,T.cl,T.no _ (by decide),rfl,_,rfl,r,C,dx,_,_,rfl,h1,T.cl,T.no _ (by decide),rfl,a,_,rfl,.inl hR.sq,_,_,rfl,rfl,?_⟩
 have e:decide ((p:Int)<(((ns.map V.int).length:Nat):Int))=decide (p<ns.length):=by rw[aa];exact fH.mpr (by omega)
 show Q (.bl (decide ((p:Int)<(((ns.map V.int).length:Nat):Int)))) H
 rw[e]
 exact k
def Xr(K:ah)(C:ak):Sp:=fun vs H Q _=>∃D r a ns p m,vs=[.ref r,vn m]/\Od H D/\D r=true/\Ib K C H r a ns p/\p+m<=ns.length/\ns.length<=100000/\
 ∀v H',j7 r H H'->Ib K C H' r a ns (p+m)->Dx K (hd H' D) v (Cm ((ns.drop p).take m))->Q v H'
theorem acz(ns:List Int)(p m:Nat)(h:p+m<=ns.length):Cf (ns.map V.int) (some (p:Int)) (some ((p:Int)+(m:Int)))=((ns.drop p).take m).map V.int:=by
 unfold Cf
 have e1:HT.tZ (ns.map V.int).length 0 (some (p:Int))=p:=by
  show(if(p:Int)<0 then((p:Int)+((ns.map V.int).length:Int)).toNat else min (p:Int).toNat (ns.map V.int).length)=p
  rw[aD (by omega),aa]
  omega
 have e2:HT.tZ (ns.map V.int).length (ns.map V.int).length (some ((p:Int)+(m:Int)))=p+m:=by
  show(if(p:Int)+(m:Int)<0 then((p:Int)+(m:Int)+((ns.map V.int).length:Int)).toNat else min ((p:Int)+(m:Int)).toNat (ns.map V.int).length)=p+m
  rw[aD (by omega),aa]
  omega
 rw[e1,e2,Nat.add_sub_cancel_left,AR,AS]
theorem JG{C:ak}(G:fT K mg)(T:iO K C DA)(Df:iZ K C "read_numbers" "CallReader.read_numbers" jo ["self","amount"]):dG P w K mg base C "read_numbers" ["self","amount"] 1 (Xr K C):=by
 refine Df.ok pA (fun vs H Q E⟨_,_,_,_,_,_,e,_⟩=>by rw[e];rfl) fun f iB A outer s H vs Q E hr h=>?_
 obtain⟨D,r,a,ns,p,m,rfl,hO,hD,hR,hl,hb,k⟩:=h
 obtain⟨dx,h1⟩:=hR.ex
 refine⟨_,(aC (cR (i:=2) pA.nd rfl (by first|exact bz rfl|exact bB rfl) (bC (K:=K) rfl (pv 0) rfl))
   (aC (iV (pv 0) (jx oA (pv 2) (pv 1)) rfl)
   (aJ (bF (k9 (r:=Jq K) qP (bC (K:=K) rfl (pv 0) rfl) (k8 (pv 2)) (k8 (jx oA (pv 2) (pv 1)))))))),?_⟩
 refine⟨_,rfl,r,C,dx,_,_,rfl,h1,T.cl,T.no _ (by decide),rfl,?_⟩
 refine⟨_,rfl,_,rfl,_,_,rfl,rfl,_,rfl,r,C,dx,_,rfl,h1,T.cl,T.no _ (by decide),by show 2<1000;decide,?_⟩
 have sX:∀o,j7 r H (upd H r o):=fun o b u e n=>by rw[bY n];exact e
 have sq1:=aaF h1 (sX (.ins C dx (gM "place" (.int ((p:Int)+(m:Int))) (rdF a p)))) hR.sq
 refine⟨_,rfl,r,C,dx,_,_,rfl,aE,T.cl,T.no _ (by decide),rfl,_,rfl,_,rfl,_,rfl,_,rfl,_,_,rfl,rfl,_,rfl,a,_,rfl,sq1,fun q hq=>?_⟩
 rw[acz ns p m hl]
 have ei:((p:Int)+(m:Int))=((p+m:Nat):Int):=by omega
 have hi:upd H r (.ins C dx (gM "place" (.int ((p:Int)+(m:Int))) (rdF a p))) r=some (.ins C dx (rdF a (p+m))):=by rw[aE,ei];rfl
 have tq:=aQ.new (o:=.lst (((ns.drop p).take m).map V.int)) hq
 have sXq:j7 r H (upd (upd H r (.ins C dx (gM "place" (.int ((p:Int)+(m:Int))) (rdF a p)))) q (.lst (((ns.drop p).take m).map V.int))):=(sX _).trans (sx tq)
 refine k _ _ sXq ⟨⟨dx,tq _ _ hi⟩,aaF h1 sXq hR.sq⟩ (.lst (iY aE (hO.upd.fresh hq)) (BB _))
def aaH(K:ah)(C:ak):Sp:=fun vs H Q _=>∃D r a ns p z,vs=[.ref r]/\Od H D/\D r=true/\Ib K C H r a ns p/\ns[p]?=some z/\ns.length<=100000/\∀H',j7 r H H'->Ib K C H' r a ns (p+1)->Q (.int z) H'
theorem LW{C:ak}(G:fT K mg)(Df:iZ K C "read_number" "CallReader.read_number" jB ["self"])(eT:dG P w K mg base C "read_numbers" ["self","amount"] 1 (Xr K C)):dG P w K mg base C "read_number" ["self"] 2 (aaH K C):=by
 refine Df.ok yu (fun vs H Q E⟨_,_,_,_,_,_,e,_⟩=>by rw[e];rfl) fun f iB A outer s H vs Q E hr h=>?_
 obtain⟨D,r,a,ns,p,z,rfl,hO,hD,hR,hz,hb,k⟩:=h
 obtain⟨dx,h1⟩:=hR.ex
 have hp:p<ns.length:=(az.mp hz).1
 refine⟨_,(aJ (bF (eX (r:=jP K) dm (eE eT (pv 0) (hr.mono (by decide)) (aj b9 aA)) b9 (fun _ _=>rfl)))),?_⟩
 refine⟨_,rfl,r,dx,_,rfl,h1,rfl,D,r,a,ns,p,1,rfl,hO,hD,hR,by omega,hb,fun v H1 s1 R1 d1=>?_⟩
 obtain⟨b,rfl,zb⟩:=qf d1
 have e:(ns.drop p).take 1=[z]:=by rw[mJ hz];rfl
 rw[e]at zb
 exact⟨b,_,0,_,rfl,rfl,cG.of (aq _ _ zb),rfl,k _ s1 R1⟩
def aeV(K:ah)(C:ak):Sp:=fun vs H Q _=>∃D r a ns p m,vs=[.ref r]/\Od H D/\D r=true/\Ib K C H r a ns p/\ns[p]?=some ((m:Nat):Int)/\p+1+m<=ns.length/\ns.length<=100000/\
 ∀v H',j7 r H H'->Ib K C H' r a ns (p+1+m)->Dx K (hd H' D) v (Cm ((ns.drop (p+1)).take m))->Q v H'
theorem Sh{C:ak}(G:fT K mg)(Df:iZ K C "read_row" "CallReader.read_row" kK ["self"])(eT:dG P w K mg base C "read_numbers" ["self","amount"] 1 (Xr K C))(gw:dG P w K mg base C "read_number" ["self"] 2 (aaH K C)):dG P w K mg base C "read_row" ["self"] 3 (aeV K C):=by
 refine Df.ok A9 (fun vs H Q E⟨_,_,_,_,_,_,e,_⟩=>by rw[e];rfl) fun f iB A outer s H vs Q E hr h=>?_
 obtain⟨D,r,a,ns,p,m,rfl,hO,hD,hR,hz,hl,hb,k⟩:=h
 obtain⟨dx,h1⟩:=hR.ex
 refine⟨_,(aJ (bF (eE eT (pv 0) (hr.mono (by decide)) (aj (gZ gw (pv 0) (hr.mono (by decide))) aA)))),?_⟩
 refine⟨_,rfl,r,dx,_,rfl,h1,rfl,?_⟩
 refine⟨_,rfl,r,dx,_,rfl,h1,rfl,D,r,a,ns,p,_,rfl,hO,hD,hR,hz,hb,fun H1 s1 R1=>?_⟩
 obtain⟨dx',h2⟩:=R1.ex
 have o1:Od H1 D:=fun b hb hn=>by
  by_cases e:b=r
  ·rw[e,h2]at hn;cases hn
  ·cases q:H b with
   |none=>exact hO b hb q
   |some o=>rw[s1 b o q e]at hn;cases hn
 exact⟨D,r,a,ns,p+1,m,rfl,o1,hD,R1,hl,hb,fun v H2 s2 R2 d2=>k _ _ (s1.trans s2) R2 d2⟩
end
section
variable{X:Cx}{a b c d:fK}{ta tb tc td:TE}{pos:AB}
def V5(r r' r'':R2)(ta tb tc td:TE):TE:=fun σ H Q=>ta σ H fun x H1=>tb σ H1 fun y H2=>r x y H2 fun z H3=>∃k,z=.bl k/\
 (if k=true then tc σ H3 fun u H4=>r' y u H4 fun z2 H5=>∃k2,z2=.bl k2/\(if k2=true then td σ H5 fun w' H6=>r'' u w' H6 Q else Q (.bl false) H5)else Q (.bl false) H3)
theorem Og{op YD aeW:Qv}{r r' r'':R2}(ho:Ka X (jh op) r)(SQ:Ka X (jh YD) r')(aj5:Ka X (jh aeW) r'')(ha:PE X a ta)(hb:PE X b tb)(hc:PE X c tc)(hd:PE X d td)
  (hm:lastMarks [op,YD,aeW] [b,c,d]=false:=by with_unfolding_all rfl):PT X (.Compare a [op,YD,aeW] [b,c,d] pos) (YC (V5 r r' r'' ta tb tc td)):=by
 intro pins s σ H Q I h
 refine isTrue_chain (jw (ha pins s σ H _ I h) fun v s1⟨x,H1,I1,r1,q1⟩=>test_link (jw (hb pins s1 σ H1 _ I1 q1) fun u s2⟨y,H2,I2,r2,q2⟩=>jw (ho pins s2 σ H2 x y v u _ I2 r1 r2 q2) fun e0 s3⟨z,H3,I3,r3,k,e,q3⟩=>?_)) hm
 subst e
 cases r3
 refine gj ?_
 cases k with
 |false=>
  obtain⟨k',e',q'⟩:=q3
  cases e'
  exact ite_ff ⟨H3,I3,q'⟩
 |true=>
  refine ite_tt (test_link (jw (hc pins s3 σ H3 _ I3 q3) fun u2 s4⟨y2,H4,I4,r4,q4⟩=>jw (SQ pins s4 σ H4 y y2 u u2 _ I4 r2 r4 q4) fun e1 s5⟨z2,H5,I5,r5,k2,e2,q5⟩=>?_))
  subst e2
  cases r5
  refine gj ?_
  cases k2 with
  |false=>
   obtain⟨k',e',q'⟩:=q5
   cases e'
   exact ite_ff ⟨H5,I5,q'⟩
  |true=>
   refine ite_tt (test_last (jw (hd pins s5 σ H5 _ I5 q5) fun w' s6⟨z',H6,I6,r6,q6⟩=>jw (aj5 pins s6 σ H6 y2 z' u2 w' _ I6 r4 r6 q6) fun d' s7⟨z3,H7,I7,r7,k3,e3,q7⟩=>?_))
   subst e3
   cases r7
   exact gj ⟨H7,I7,q7⟩
end
theorem Oh{p q r:Int->Int->Bool}{ta tb tc td:TE}{σ:St}{a b c d:Int}{H:Hp}{Q:VK}(ha:Val ta σ H (.int a))(hb:Val tb σ H (.int b))(hc:Val tc σ H (.int c))(hd:Val td σ H (.int d))(h:Q (.bl (p a b&&(q b c&&r c d))) H):V5 (XQ fun i j=>.bl (p i j)) (XQ fun i j=>.bl (q i j)) (XQ fun i j=>.bl (r i j)) ta tb tc td σ H Q:=by
 refine ha _ (hb _ ⟨a,b,rfl,rfl,_,rfl,Qn (fun e=>hc _ ⟨b,c,rfl,rfl,_,rfl,Qn (fun e2=>hd _ ⟨c,d,rfl,rfl,?_⟩) fun e2=>?_⟩) fun e=>?_⟩)
 ·rw[e,g8,e2,g8]at h
  exact h
 ·rw[e,g8,e2,qt]at h
  exact h
 ·rw[e,qt]at h
  exact h
def Eg(ds:List bf)(d:bf):Prop:=∃z:Int,ds=[.int z]/\d=.bool (bX z 0 1)
def yU(l:List Int):Int:=if l.all fS=false then -2 else if 120<l.length then -5 else 0
def Ic(ds:List bf)(d:bf):Prop:=∃l:List Int,ds=[Cm l]/\l.length<=2000/\d=.int (yU l)
section
variable{P:bD}{w:cC}{K:ah}{mg:cM->Option ao}{base:cY}
theorem EC(G:fT K mg)(Df:jL K mg "refusal_of_signs" ni ["signs"])(rS:bG P w K mg base "are_signs" ["numbers"] 2 (qC K C2)):bG P w K mg base "refusal_of_signs" ["signs"] 3 (qC K Ic):=by
 refine Df.ok Et (iR fun ds d⟨x,e,_⟩=>by rw[e];rfl) fun f iB A outer s H vs Q E hr h=>?_
 obtain⟨D,ds,d,hO,ha,⟨l,rfl,nl,rfl⟩,k⟩:=h
 obtain⟨v,rfl,g1⟩:=ha.one
 obtain⟨b,rfl,zb⟩:=qf g1
 refine⟨_,(aC (eW (qw (rC (bL rS (hr.mono (by decide)) (aj (pv 0) aA)) (fun _=>rfl))) (aJ (bF (bW G.j6))) cN)
   (aC (eW (dB YB (cS (r:=l5 K) cB (by rfl) G.iN dN (aj (pv 0) aA)) (bW G.rF) (dZ _)) (aJ (bF (bW G.K4))) cN)
   (aJ (bF b9)))),?_⟩
 refine⟨_,rfl,D,_,_,hO,.cons g1 .nil,⟨l,rfl,nl,rfl⟩,fun v1 H1 s1 d1=>?_⟩
 obtain rfl:=d1.zg
 refine⟨_,rfl,?_⟩
 dsimp only
 unfold yU at k
 cases hs:l.all fS with
 |false=>
  rw[aG hs]at k
  exact kO rfl (k _ _ s1 (.int _))
 |true=>
  rw[aD (by rw[hs];decide)]at k
  refine iL rfl ?_
  refine⟨_,rfl,b,_,rfl,.inl (cG.of (s1 _ _ (aq _ _ zb))),_,_,rfl,rfl,_,rfl,?_⟩
  rw[aa]
  by_cases h:120<l.length
  ·rw[aG h]at k
   exact kO (aI (by omega)) (k _ _ s1 (.int _))
  ·rw[aD h]at k
   exact iL (aH (by omega)) (k _ _ s1 (.int _))
theorem UO(G:fT K mg)(Df:jL K mg "is_text" D5 ["w"]):bG P w K mg base "is_text" ["w"] 1 (qC K Eg):=by
 refine Df.ok T8 (iR fun ds d⟨x,e,_⟩=>by rw[e];rfl) fun f iB A outer s H vs Q E hr h=>?_
 obtain⟨D,ds,d,hO,ha,⟨z,rfl,rfl⟩,k⟩:=h
 obtain⟨v,rfl,hv⟩:=ha.one
 obtain rfl:=hv.int_inv
 refine⟨_,(aJ (bF (AW NJ (pv 0) (CM (aj (bW G.K5) (aj (bW G.Zt) aA))) (by with_unfolding_all rfl)))),?_⟩
 refine⟨_,rfl,by show 2<=aK;decide,fun p hp=>⟨p,_,rfl,.inr (rN.of aE),rfl,rfl,k _ _ (aQ.new hp) ?_⟩⟩
 have e:(if false=true then !inV (V.int z) [.int 0,.int 1]else inV (V.int z) [.int 0,.int 1])=bX z 0 1:=by
  show((0:Int)==z||((1:Int)==z||false))=(decide (0<=z)&&decide (z<=1))
  rw[jK,jr,xr,i_,i_,bx,aM,aM]
  omega
 rw[e]
 exact .bl _
end
structure qz(K:ah)(G:Hp)(v:V)(d:Doc):Prop where
 dx:Dx K G v (l6 (whole d))
 ok:Bb (whole d)
 len:d.inner.length<=120
theorem qz.mono{K:ah}{G G':Hp}{v:V}{d:Doc}(s:aQ G G')(h:qz K G v d):qz K G' v d:=⟨s.dp h.dx,h.ok,h.len⟩
theorem j9(d:Doc):(whole d).length=d.inner.length+1:=by unfold whole;rw[au];rfl
theorem yV(d:Doc):docOf (whole d)=d:=by
 unfold adL whole
 rw[Wj,List.getLast?_concat]
 rfl
theorem DB{l:List bZ}(h:1<=l.length):whole (docOf l)=l:=by
 have qI:l≠[]:=fun e=>by rw[e]at h;simp at h
 unfold whole adL
 show l.dropLast++[l.getLast?.getD (cO vj)]=l
 rw[Mp qI]
 exact fJ qI
def PM(K:ah)(CP CH CC:ak)(G:Hp)(v:V):Option Mm->Prop
 |none=>v=.jX
 |some w=>∃ps cs cost,Ja K CP CH CC G v ps cs cost/\Ms ps cs w/\Po ps/\(∀p∈ps,jn p)/\1<=ps.length/\ps.length<=242/\(ps.getD (ps.length-1) fZ).eF=0/\cs.length<=6*ps.length
theorem PM.mono{K:ah}{CP CH CC:ak}{G G':Hp}{v:V}{o:Option Mm}(s:aQ G G')(h:PM K CP CH CC G v o):PM K CP CH CC G' v o:=by
 cases o with
 |none=>exact h
 |some w=>
  obtain⟨ps,cs,cost,h1,h2⟩:=h
  exact⟨ps,cs,cost,h1.mono s,h2⟩
def dkF(v1 v2 v3:V):List (cM×V):=[("old_text",v1),("new_text",v2),("comparison",v3)]
def iQ:List cM:=["old_text","new_text","comparison"]
structure gG(K:ah)(CP CH CC C:ak)(H:Hp)(D:ak->Bool)(d:ak)(st:Vk):Prop where
 ex:∃dx v1 v2 v3,H d=some (.ins C dx (dkF v1 v2 v3))/\qz K (hd H D) v1 st.old/\qz K (hd H D) v2 st.new/\PM K CP CH CC (hd H D) v3 st.held
section
variable{K:ah}{CP CH CC C:ak}{H H':Hp}{D:ak->Bool}{d:ak}{st:Vk}
theorem gG.mono(s:aQ H H')(h:gG K CP CH CC C H D d st):gG K CP CH CC C H' D d st:=by
 obtain⟨dx,v1,v2,v3,h0,h1,h2,h3⟩:=h.ex
 exact⟨dx,v1,v2,v3,s _ _ h0,h1.mono (aU s),h2.mono (aU s),h3.mono (aU s)⟩
theorem gG.hold{dx:ak}{u1 u2:V}{o n:Doc}(hD:D d=true)(t1:qz K (hd H D) u1 o)(t2:qz K (hd H D) u2 n):gG K CP CH CC C (upd H d (.ins C dx (dkF u1 u2 .jX))) D d {old:=o,new:=n,held:=none}:=by
 have e:hd (upd H d (.ins C dx (dkF u1 u2 .jX))) D=hd H D:=qk hD
 exact⟨dx,u1,u2,.jX,aE,by rw[e];exact t1,by rw[e];exact t2,rfl⟩
def Xs(K:ah)(CP CH CC C:ak)(Q:VK)(H:Hp)(D:ak->Bool)(d:ak)(st:Vk)(c:SM):Prop:=
 ∀v H',j7 d H H'->gG K CP CH CC C H' D d (bS st c).1->Dx K (hd H' D) v (Cm (dF (bS st c).2))->(dF (bS st c).2).length<=6000->Q v H'
theorem Xs.fin{Q:VK}{c:SM}{J8:Vk}{XW:Answer}{xs:List V}{q:ak}(o:Xs K CP CH CC C Q H D d st c)(oD:Od H' D)(s:j7 d H H')(lQ:bS st c=(J8,XW))(h:gG K CP CH CC C H' D d J8)(hq:H' q=none)(e:xs=(dF XW).map V.int)(hb:(dF XW).length<=6000:=by exact Wk rfl):Q (.ref q) (upd H' q (.lst xs)):=by
 unfold Xs at o
 rw[lQ]at o
 refine o _ _ (s.trans (sx (aQ.new hq))) (h.mono (aQ.new hq)) ?_ hb
 rw[e]
 exact .lst (iY aE (oD.fresh hq)) (BB _)
theorem Od.x{x:ak}{o:HO}(h:Od H D)(s:j7 x H H')(hx:H' x=some o):Od H' D:=fun b hb hn=>by
 by_cases e:b=x
 ·rw[e,hx]at hn;cases hn
 ·cases q:H b with
  |none=>exact h b hb q
  |some o'=>rw[s b o' q e]at hn;cases hn
end
theorem JH{H:Hp}{d:ak}{o:HO}:j7 d H (upd H d o):=fun b u e n=>by rw[bY n];exact e
section
variable{P:bD}{w:cC}{K:ah}{mg:cM->Option ao}{base:cY}{CP CH CC C:ak}
def BC(C:ak):Sp:=fun vs H Q _=>∃d dx v1 v2 v3 u1 u2,vs=[.ref d,u1,u2]/\H d=some (.ins C dx (dkF v1 v2 v3))/\Q .jX (upd H d (.ins C dx (dkF u1 u2 .jX)))
theorem Nc(T:iO K C iQ)(Df:iZ K C "hold_texts" "Desk.hold_texts" oO ["self","old_text","new_text"]):dG P w K mg base C "hold_texts" ["self","old_text","new_text"] 1 (BC C):=by
 refine Df.ok E5 (fun vs H Q E⟨_,_,_,_,_,_,_,e,_⟩=>by rw[e];rfl) fun f iB A outer s H vs Q E hr h=>?_
 obtain⟨d,dx,v1,v2,v3,u1,u2,rfl,hx,k⟩:=h
 refine⟨_,(aC (iV (pv 0) (pv 1) rfl)
   (aC (iV (pv 0) (pv 2) rfl)
   (aJ (iV (pv 0) xx rfl)))),?_⟩
 refine⟨_,rfl,_,rfl,d,C,dx,_,rfl,hx,T.cl,T.no _ (by decide),by show 3<1000;decide,?_⟩
 refine⟨_,rfl,_,rfl,d,C,dx,_,rfl,aE,T.cl,T.no _ (by decide),by show 3<1000;decide,?_⟩
 refine⟨_,rfl,d,C,dx,_,rfl,aE,T.cl,T.no _ (by decide),by show 3<1000;decide,?_⟩
 rw[l8,l8]
 exact k
theorem zE{l:List Int}(h:l.all fS=true):Cm l=dH (l.map y9):=by
 unfold Cm dH
 rw[aR]
 congr 1
 refine bA fun z hz=>?_
 have:=vI.mp h z hz
 unfold fS at this
 rw[xr,bx,i_,aM,aM]at this
 show jS z=jS ((z.toNat:Nat):Int)
 congr 1
 omega
theorem G0(l:List Nat):Bb (l.map cO++[cO 10]):=fun x hx=>by
 rcases aX.mp hx with h|h
 ·obtain⟨n,_,rfl⟩:=bI.mp h
  exact⟨rfl,rfl⟩
 ·rw[bJ.mp h]
  exact⟨rfl,rfl⟩
theorem Eh{G:Hp}{v:V}{d:Doc}(h:qz K G v d):∃a xs,v=.ref a/\G a=some (.lst xs)/\xs.length=d.inner.length+1:=by
 obtain⟨a,xs,e,h1,h2⟩:=h.dx.bV
 refine⟨a,xs,e,h1,?_⟩
 rw[h2.length,aa,j9]
def Jd(K:ah)(CP CH CC C:ak)(c:List Int->SM):Sp:=fun vs H Q _=>∃D d st v l,vs=[.ref d,v]/\Od H D/\D d=true/\gG K CP CH CC C H D d st/\Dx K (hd H D) v (Cm l)/\l.length<=2000/\Xs K CP CH CC C Q H D d st (c l)
theorem UP(G:fT K mg)(T:iO K C iQ)(Df:iZ K C "set_old" "Desk.set_old" sO ["self","signs"])(jv:bG P w K mg base "refusal_of_signs" ["signs"] 3 (qC K Ic))(jC:bG P w K mg base "plain_text" ["signs"] 2 (qC K wQ))(dg:dG P w K mg base C "hold_texts" ["self","old_text","new_text"] 1 (BC C)):dG P w K mg base C "set_old" ["self","signs"] 4 (Jd K CP CH CC C .old):=by
 refine Df.ok BZ (fun vs H Q E⟨_,_,_,_,_,e,_⟩=>by rw[e];rfl) fun f iB A outer s H vs Q E hr h=>?_
 obtain⟨D,d,st,v,l,rfl,hO,hD,hK,dl,nl,o⟩:=h
 refine⟨_,(aC (cR (i:=2) BZ.nd rfl (by first|exact bz rfl|exact bB rfl) (bL jv (hr.mono (by decide)) (aj (pv 1) aA)))
   (aC (eW (dB xB (pv 2) b9 (dZ _)) (aJ (bF (c_ (aj (pv 2) aA)))) cN)
   (aC (eZ (eE dg (pv 0) (hr.mono (by decide)) (aj (bL jC (hr.mono (by decide)) (aj (pv 1) aA)) (aj (bC (K:=K) rfl (pv 0) rfl) aA))))
   (aJ (bF (c_ (aj (cS (r:=l5 K) cB (by rfl) G.iN dN (aj (bC (K:=K) rfl (pv 0) rfl) aA)) aA))))))),?_⟩
 refine⟨_,rfl,D,_,_,hO,.cons dl .nil,⟨l,rfl,nl,rfl⟩,fun vr H1 s1 d1=>?_⟩
 obtain rfl:=d1.int_inv
 have AJ:=hK.mono s1
 have o1:=hO.mono s1
 obtain⟨dx,v1,v2,v3,h0,t1,t2,t3⟩:=AJ.ex
 refine⟨_,rfl,_,_,rfl,rfl,_,rfl,?_⟩
 cases ha:l.all fS with
 |false=>
  have er:yU l=-2:=by unfold yU;rw[aG ha]
  have lQ:bS st (.old l)=(st,.refused 2):=by show made st l Jl=_;unfold made;rw[aG ha]
  rw[er]
  refine kO rfl ⟨_,rfl,by show 1<=aK;decide,fun q hq=>o.fin o1 (sx s1) lQ AJ hq rfl⟩
 |true=>
  by_cases hb:120<l.length
  ·have er:yU l=-5:=by unfold yU;rw[aD (by rw[ha];decide),aG hb]
   have lQ:bS st (.old l)=(st,.refused 5):=by show made st l Jl=_;unfold made SN;rw[aD (by rw[ha];decide),aG hb]
   rw[er]
   refine kO rfl ⟨_,rfl,by show 1<=aK;decide,fun q hq=>o.fin o1 (sx s1) lQ AJ hq rfl⟩
  ·have er:yU l=0:=by unfold yU;rw[aD (by rw[ha];decide),aD hb]
   have lQ:bS st (.old l)=(Jl st {inner:=letters l,last:=cO vj},.told [l.length+1]):=by show made st l Jl=_;unfold made SN;rw[aD (by rw[ha];decide),aD hb]
   rw[er]
   refine iL rfl ?_
   refine⟨_,rfl,d,dx,_,rfl,h0,rfl,_,rfl,D,_,_,o1,.cons ((aU s1).dp dl) .nil,⟨l.map y9,by rw[zE ha],by rw[aa];exact nl,rfl⟩,fun vt H2 s2 d2=>?_⟩
   have h02:=s2 _ _ h0
   refine⟨_,rfl,d,C,dx,_,_,rfl,h02,T.cl,T.no _ (by decide),rfl,d,dx,v1,v2,v3,_,_,rfl,h02,?_⟩
   have ew:(l.map y9).map cO++[cO 10]=whole {inner:=letters l,last:=cO vj}:=by unfold whole letters;rw[aR];rfl
   have tt:qz K (hd H2 D) vt {inner:=letters l,last:=cO vj}:=⟨by rw[<-ew];exact d2,by rw[<-ew];exact G0 _,by unfold letters;rw[aa];omega⟩
   obtain⟨ta,txs,rfl,z1,z2⟩:=Eh tt
   have nta:ta≠d:=fun e=>by rw[e]at z1;have:=(rE z1).2;rw[hD]at this;cases this
   have oK:=hO.mono (s1.trans s2)
   refine⟨_,rfl,d,C,dx,_,_,rfl,aE,T.cl,T.no _ (by decide),rfl,ta,txs,rfl,.inl (cG.of (by rw[bY nta];exact aq _ _ z1)),by show 1<=aK;decide,fun q hq=>?_⟩
   refine o.fin oK.upd ((sx (s1.trans s2)).trans JH) lQ (gG.hold hD tt (t2.mono (aU s2))) hq ?_
   rw[z2]
   show [V.int ((((letters l).length+1:Nat)):Int)]=[V.int (((l.length+1:Nat)):Int)]
   unfold letters
   rw[aa]
end
section
variable{P:bD}{w:cC}{K:ah}{mg:cM->Option ao}{base:cY}{CP CH CC C:ak}
theorem UQ(G:fT K mg)(T:iO K C iQ)(Df:iZ K C "set_new" "Desk.set_new" sP ["self","signs"])(jv:bG P w K mg base "refusal_of_signs" ["signs"] 3 (qC K Ic))(jC:bG P w K mg base "plain_text" ["signs"] 2 (qC K wQ))(dg:dG P w K mg base C "hold_texts" ["self","old_text","new_text"] 1 (BC C)):dG P w K mg base C "set_new" ["self","signs"] 4 (Jd K CP CH CC C .new):=by
 refine Df.ok B0 (fun vs H Q E⟨_,_,_,_,_,e,_⟩=>by rw[e];rfl) fun f iB A outer s H vs Q E hr h=>?_
 obtain⟨D,d,st,v,l,rfl,hO,hD,hK,dl,nl,o⟩:=h
 refine⟨_,(aC (cR (i:=2) B0.nd rfl (by first|exact bz rfl|exact bB rfl) (bL jv (hr.mono (by decide)) (aj (pv 1) aA)))
   (aC (eW (dB xB (pv 2) b9 (dZ _)) (aJ (bF (c_ (aj (pv 2) aA)))) cN)
   (aC (eZ (eE dg (pv 0) (hr.mono (by decide)) (aj (bC (K:=K) rfl (pv 0) rfl) (aj (bL jC (hr.mono (by decide)) (aj (pv 1) aA)) aA))))
   (aJ (bF (c_ (aj (cS (r:=l5 K) cB (by rfl) G.iN dN (aj (bC (K:=K) rfl (pv 0) rfl) aA)) aA))))))),?_⟩
 refine⟨_,rfl,D,_,_,hO,.cons dl .nil,⟨l,rfl,nl,rfl⟩,fun vr H1 s1 d1=>?_⟩
 obtain rfl:=d1.int_inv
 have AJ:=hK.mono s1
 have o1:=hO.mono s1
 obtain⟨dx,v1,v2,v3,h0,t1,t2,t3⟩:=AJ.ex
 refine⟨_,rfl,_,_,rfl,rfl,_,rfl,?_⟩
 cases ha:l.all fS with
 |false=>
  have er:yU l=-2:=by unfold yU;rw[aG ha]
  have lQ:bS st (.new l)=(st,.refused 2):=by show made st l Cy=_;unfold made;rw[aG ha]
  rw[er]
  refine kO rfl ⟨_,rfl,by show 1<=aK;decide,fun q hq=>o.fin o1 (sx s1) lQ AJ hq rfl⟩
 |true=>
  by_cases hb:120<l.length
  ·have er:yU l=-5:=by unfold yU;rw[aD (by rw[ha];decide),aG hb]
   have lQ:bS st (.new l)=(st,.refused 5):=by show made st l Cy=_;unfold made SN;rw[aD (by rw[ha];decide),aG hb]
   rw[er]
   refine kO rfl ⟨_,rfl,by show 1<=aK;decide,fun q hq=>o.fin o1 (sx s1) lQ AJ hq rfl⟩
  ·have er:yU l=0:=by unfold yU;rw[aD (by rw[ha];decide),aD hb]
   have lQ:bS st (.new l)=(Cy st {inner:=letters l,last:=cO vj},.told [l.length+1]):=by show made st l Cy=_;unfold made SN;rw[aD (by rw[ha];decide),aD hb]
   rw[er]
   refine iL rfl ?_
   refine⟨_,rfl,d,dx,_,rfl,h0,rfl,_,rfl,d,C,dx,_,_,rfl,h0,T.cl,T.no _ (by decide),rfl,_,rfl,D,_,_,o1,.cons ((aU s1).dp dl) .nil,⟨l.map y9,by rw[zE ha],by rw[aa];exact nl,rfl⟩,fun vt H2 s2 d2=>?_⟩
   have h02:=s2 _ _ h0
   refine⟨d,dx,v1,v2,v3,_,_,rfl,h02,?_⟩
   have ew:(l.map y9).map cO++[cO 10]=whole {inner:=letters l,last:=cO vj}:=by unfold whole letters;rw[aR];rfl
   have tt:qz K (hd H2 D) vt {inner:=letters l,last:=cO vj}:=⟨by rw[<-ew];exact d2,by rw[<-ew];exact G0 _,by unfold letters;rw[aa];omega⟩
   obtain⟨ta,txs,rfl,z1,z2⟩:=Eh tt
   have nta:ta≠d:=fun e=>by rw[e]at z1;have:=(rE z1).2;rw[hD]at this;cases this
   have oK:=hO.mono (s1.trans s2)
   refine⟨_,rfl,d,C,dx,_,_,rfl,aE,T.cl,T.no _ (by decide),rfl,ta,txs,rfl,.inl (cG.of (by rw[bY nta];exact aq _ _ z1)),by show 1<=aK;decide,fun q hq=>?_⟩
   refine o.fin oK.upd ((sx (s1.trans s2)).trans JH) lQ (gG.hold hD (t1.mono (aU s2)) tt) hq ?_
   rw[z2]
   show [V.int ((((letters l).length+1:Nat)):Int)]=[V.int (((l.length+1:Nat)):Int)]
   unfold letters
   rw[aa]
def sp0(K:ah)(CP CH CC C:ak)(c:SM):Sp:=fun vs H Q _=>∃D d st,vs=[.ref d]/\Od H D/\D d=true/\gG K CP CH CC C H D d st/\Xs K CP CH CC C Q H D d st c
theorem Ie{H:Hp}{D:ak->Bool}{a d:ak}{o:HO}(h:hd H D a=some o)(hD:D d=true):a≠d:=fun e=>by
 rw[e]at h
 have:=(rE h).2
 rw[hD]at this
 cases this
theorem Sj(G:fT K mg)(T:iO K C iQ)(Df:iZ K C "copy_old" "Desk.copy_old" qY ["self"])(dg:dG P w K mg base C "hold_texts" ["self","old_text","new_text"] 1 (BC C)):dG P w K mg base C "copy_old" ["self"] 2 (sp0 K CP CH CC C .copy):=by
 refine Df.ok HF (fun vs H Q E⟨_,_,_,e,_⟩=>by rw[e];rfl) fun f iB A outer s H vs Q E hr h=>?_
 obtain⟨D,d,st,rfl,hO,hD,hK,o⟩:=h
 obtain⟨dx,v1,v2,v3,h0,t1,t2,t3⟩:=hK.ex
 obtain⟨a,xs,rfl,h1,h2⟩:=t1.dx.bV
 refine⟨_,(aC (eZ (eE dg (pv 0) (hr.mono (by decide)) (aj (bC (K:=K) rfl (pv 0) rfl) (aj (Hv Gj (by rfl) G.Zz boot_list (aj (bC (K:=K) rfl (pv 0) rfl) aA)) aA))))
   (aJ (bF (c_ (aj (cS (r:=l5 K) cB (by rfl) G.iN dN (aj (bC (K:=K) rfl (pv 0) rfl) aA)) aA))))),?_⟩
 refine⟨_,rfl,d,dx,_,rfl,h0,rfl,_,rfl,d,C,dx,_,_,rfl,h0,T.cl,T.no _ (by decide),rfl,_,rfl,d,C,dx,_,_,rfl,h0,T.cl,T.no _ (by decide),rfl,a,_,rfl,.inl (cG.of (aq _ _ h1)),fun b hb=>?_⟩
 have tb:=aQ.new (o:=.lst xs) hb
 have tt:qz K (hd (upd H b (.lst xs)) D) (.ref b) st.old:=⟨.lst (iY aE (hO.fresh hb)) ((aU tb).EG h2),t1.ok,t1.len⟩
 refine⟨d,dx,_,_,_,_,_,rfl,tb _ _ h0,?_⟩
 have nb:b≠d:=fun e=>by rw[e,h0]at hb;cases hb
 refine⟨_,rfl,d,C,dx,_,_,rfl,aE,T.cl,T.no _ (by decide),rfl,b,xs,rfl,.inl (cG.of (by rw[bY nb,aE])),by show 1<=aK;decide,fun q hq=>?_⟩
 refine o.fin (hO.mono tb).upd ((sx tb).trans JH) rfl (gG.hold hD (t1.mono (aU tb)) tt) hq ?_
 rw[h2.length,aa,j9]
 rfl
theorem Nd(G:fT K mg)(T:iO K C iQ)(Df:iZ K C "swap_texts" "Desk.swap_texts" oR ["self"])(dg:dG P w K mg base C "hold_texts" ["self","old_text","new_text"] 1 (BC C)):dG P w K mg base C "swap_texts" ["self"] 2 (sp0 K CP CH CC C .swap):=by
 refine Df.ok E6 (fun vs H Q E⟨_,_,_,e,_⟩=>by rw[e];rfl) fun f iB A outer s H vs Q E hr h=>?_
 obtain⟨D,d,st,rfl,hO,hD,hK,o⟩:=h
 obtain⟨dx,v1,v2,v3,h0,t1,t2,t3⟩:=hK.ex
 obtain⟨a,xs,rfl,h1,h2⟩:=Eh t2
 refine⟨_,(aC (eZ (eE dg (pv 0) (hr.mono (by decide)) (aj (bC (K:=K) rfl (pv 0) rfl) (aj (bC (K:=K) rfl (pv 0) rfl) aA))))
   (aJ (bF (c_ (aj (cS (r:=l5 K) cB (by rfl) G.iN dN (aj (bC (K:=K) rfl (pv 0) rfl) aA)) aA))))),?_⟩
 refine⟨_,rfl,d,dx,_,rfl,h0,rfl,_,rfl,d,C,dx,_,_,rfl,h0,T.cl,T.no _ (by decide),rfl,_,rfl,d,C,dx,_,_,rfl,h0,T.cl,T.no _ (by decide),rfl,d,dx,_,_,_,_,_,rfl,h0,?_⟩
 refine⟨_,rfl,d,C,dx,_,_,rfl,aE,T.cl,T.no _ (by decide),rfl,a,xs,rfl,.inl (cG.of (by rw[bY (Ie h1 hD)];exact aq _ _ h1)),by show 1<=aK;decide,fun q hq=>?_⟩
 refine o.fin hO.upd JH rfl (gG.hold hD t2 t1) hq ?_
 rw[h2]
 rfl
def PN(K:ah)(CP CH CC C:ak):Sp:=fun vs H Q _=>∃D d st z,vs=[.ref d,.int z]/\gG K CP CH CC C H D d st/\∀v,qz K (hd H D) v (if z=0 then st.old else st.new)->Q v H
theorem LX(G:fT K mg)(T:iO K C iQ)(Df:iZ K C "text_called" "Desk.text_called" nj ["self","w"]):dG P w K mg base C "text_called" ["self","w"] 1 (PN K CP CH CC C):=by
 refine Df.ok Eu (fun vs H Q E⟨_,_,_,_,e,_⟩=>by rw[e];rfl) fun f iB A outer s H vs Q E hr h=>?_
 obtain⟨D,d,st,z,rfl,hK,k⟩:=h
 obtain⟨dx,v1,v2,v3,h0,t1,t2,t3⟩:=hK.ex
 refine⟨_,(aJ (bF (CG (dB jM (pv 1) (bW G.K5) (dZ _)) (bC (K:=K) rfl (pv 0) rfl) (bC (K:=K) rfl (pv 0) rfl)))),?_⟩
 refine⟨_,rfl,rfl,_,rfl,?_⟩
 by_cases hz:z=0
 ·rw[aG hz]at k
  exact kO (aI (by rw[hz])) ⟨_,rfl,d,C,dx,_,_,rfl,h0,T.cl,T.no _ (by decide),rfl,k _ t1⟩
 ·rw[aD hz]at k
  exact iL (aH fun e=>hz (V.int.inj e)) ⟨_,rfl,d,C,dx,_,_,rfl,h0,T.cl,T.no _ (by decide),rfl,k _ t2⟩
def sp1(K:ah)(CP CH CC C:ak)(c:Int->SM):Sp:=fun vs H Q _=>∃D d st z,vs=[.ref d,.int z]/\Od H D/\D d=true/\gG K CP CH CC C H D d st/\Xs K CP CH CC C Q H D d st (c z)
def sp2(K:ah)(CP CH CC C:ak)(c:Int->Int->SM):Sp:=fun vs H Q _=>∃D d st y z,vs=[.ref d,.int y,.int z]/\Od H D/\D d=true/\gG K CP CH CC C H D d st/\Xs K CP CH CC C Q H D d st (c y z)
theorem Xs.told{H H':Hp}{D:ak->Bool}{d:ak}{st:Vk}{Q:VK}{c:SM}{l:List Nat}{v:V}(o:Xs K CP CH CC C Q H D d st c)(s:aQ H H')(lQ:bS st c=(st,.told l))(hK:gG K CP CH CC C H D d st)(h:Dx K (hd H' D) v (dH l))(hb:l.length<=6000):Q v H':=by
 unfold Xs at o
 rw[lQ]at o
 refine o _ _ (sx s) (hK.mono s) ?_ (by show(l.map acT).length<=6000;rw[aa];exact hb)
 show Dx K (hd H' D) v (Cm (l.map acT))
 rw[Xq]
 exact h
theorem DC{z:Int}(h:bX z 0 1=true):z=0\/z=1:=by
 unfold bX at h
 rw[bx,aM,aM]at h
 omega
theorem UR{z:Int}(h:bX z 0 1=false):z≠0/\z≠1:=by
 unfold bX at h
 rw[Ej,decide_eq_false_iff_not,decide_eq_false_iff_not]at h
 omega
theorem PR(G:fT K mg)(Df:iZ K C "tell_text" "Desk.tell_text" p_ ["self","w"])(qg:bG P w K mg base "is_text" ["w"] 1 (qC K Eg))(jD:dG P w K mg base C "text_called" ["self","w"] 1 (PN K CP CH CC C))(rT:bG P w K mg base "told_text" ["text"] 2 (qC K Dz)):dG P w K mg base C "tell_text" ["self","w"] 3 (sp1 K CP CH CC C .text):=by
 refine Df.ok Gv (fun vs H Q E⟨_,_,_,_,e,_⟩=>by rw[e];rfl) fun f iB A outer s H vs Q E hr h=>?_
 obtain⟨D,d,st,z,rfl,hO,hD,hK,o⟩:=h
 refine⟨_,(aC (eW (qw (rC (bL qg (hr.mono (by decide)) (aj (pv 1) aA)) (fun _=>rfl))) (aJ (bF (c_ (aj (bW G.j6) aA)))) cN)
   (aJ (bF (bL rT (hr.mono (by decide)) (aj (eE jD (pv 0) (hr.mono (by decide)) (aj (pv 1) aA)) aA))))),?_⟩
 refine⟨_,rfl,D,_,_,hO,.cons (.int _) .nil,⟨z,rfl,rfl⟩,fun vb H1 s1 d1=>?_⟩
 obtain rfl:=d1.zg
 refine⟨_,rfl,?_⟩
 dsimp only
 have AJ:=hK.mono s1
 have o1:=hO.mono s1
 cases hw:bX z 0 1 with
 |false=>
  obtain⟨n0,n1⟩:=UR hw
  have lQ:bS st (.text z)=(st,.refused 2):=by
   show(st,if z=0 then QE (whole st.old)else if z=1 then QE (whole st.new)else .refused 2)=_
   rw[aD n0,aD n1]
  exact kO rfl ⟨by show 1<=aK;decide,fun q hq=>o.fin o1 (sx s1) lQ AJ hq rfl⟩
 |true=>
  refine iL rfl ?_
  obtain⟨dx,v1,v2,v3,h0,t1,t2,t3⟩:=AJ.ex
  refine⟨_,rfl,d,dx,_,rfl,h0,rfl,_,rfl,D,d,st,z,rfl,AJ,fun vt tt=>?_⟩
  refine⟨D,_,_,o1,.cons tt.dx .nil,⟨_,rfl,tt.ok,by rw[j9];have:=tt.len;omega,rfl⟩,fun v2 H2 s2 d2=>?_⟩
  refine o.told (s1.trans s2) ?_ hK d2 (by rw[br,Ed tt.ok,j9];have:=tt.len;omega)
  show(st,if z=0 then QE (whole st.old)else if z=1 then QE (whole st.new)else .refused 2)=_
  rcases DC hw with e|e
  ·rw[aG e,aG e];rfl
  ·rw[aD (by omega),aG e,aD (by omega)];rfl
end
section
variable{P:bD}{w:cC}{K:ah}{mg:cM->Option ao}{base:cY}{CP CH CC C:ak}
theorem V6{z:Int}(h:z=0\/z=1):((z.toNat:Nat):Int)=z/\z.toNat<=1:=by omega
theorem LY(G:fT K mg)(Df:iZ K C "tell_tokens" "Desk.tell_tokens" nF ["self","w","grain"])(qg:bG P w K mg base "is_text" ["w"] 1 (qC K Eg))(nR:bG P w K mg base "is_grain" ["number"] 1 (qC K Be))(jD:dG P w K mg base C "text_called" ["self","w"] 1 (PN K CP CH CC C))(pG:bG P w K mg base "tokens_of" ["text","grain"] 3 (qC K C5))(zF:bG P w K mg base "told_tokens" ["tokens"] 1 (qC K ER)):dG P w K mg base C "tell_tokens" ["self","w","grain"] 4 (sp2 K CP CH CC C .tokens):=by
 refine Df.ok Ex (fun vs H Q E⟨_,_,_,_,_,e,_⟩=>by rw[e];rfl) fun f iB A outer s H vs Q E hr h=>?_
 obtain⟨D,d,st,y,z,rfl,hO,hD,hK,o⟩:=h
 have lQ:∀a,(if(bX y 0 1&&bX z 0 1)=false then mR 2 else .told ((tokens z.toNat (if y=0 then st.old else st.new).inner).length::(tokens z.toNat (if y=0 then st.old else st.new).inner).map fun x=>x.length))=a->bS st (.tokens y z)=(st,a):=fun a e=>by rw[<-e];rfl
 refine⟨_,(aC (eW (PW.pt (KH (qw (rC (bL qg (hr.mono (by decide)) (aj (pv 1) aA)) (fun _=>rfl))) (Hs (qw (rC (bL nR (hr.mono (by decide)) (aj (pv 2) aA)) (fun _=>rfl)))))) (aJ (bF (c_ (aj (bW G.j6) aA)))) cN)
   (aJ (bF (bL zF (hr.mono (by decide)) (aj (bL pG (hr.mono (by decide)) (aj (eE jD (pv 0) (hr.mono (by decide)) (aj (pv 1) aA)) (aj (pv 2) aA))) aA))))),?_⟩
 refine⟨_,rfl,D,_,_,hO,.cons (.int _) .nil,⟨y,rfl,rfl⟩,fun vb H1 s1 d1=>?_⟩
 obtain rfl:=d1.zg
 refine⟨_,rfl,?_⟩
 dsimp only
 have AJ:=hK.mono s1
 have o1:=hO.mono s1
 cases hw:bX y 0 1 with
 |false=>
  exact kO rfl (kO rfl ⟨by show 1<=aK;decide,fun q hq=>o.fin o1 (sx s1) (lQ (.refused 2) (by rw[hw];exact aG rfl)) AJ hq rfl⟩)
 |true=>
  refine iL rfl ?_
  refine⟨_,rfl,D,_,_,o1,.cons (.int _) .nil,⟨z,rfl,rfl⟩,fun vb H2 s2 d2=>?_⟩
  obtain rfl:=d2.zg
  refine⟨_,rfl,?_⟩
  dsimp only
  have ZF:=s1.trans s2
  have hK2:=hK.mono ZF
  have o2:=hO.mono ZF
  cases hg:bX z 0 1 with
  |false=>
   exact kO rfl ⟨by show 1<=aK;decide,fun q hq=>o.fin o2 (sx ZF) (lQ (.refused 2) (by rw[hw,hg];exact aG rfl)) hK2 hq rfl⟩
  |true=>
   refine iL rfl ?_
   obtain⟨dx,v1,v2,v3,h0,t1,t2,t3⟩:=hK2.ex
   obtain⟨e1,e2⟩:=V6 (DC hg)
   refine⟨_,rfl,d,dx,_,rfl,h0,rfl,_,rfl,D,d,st,y,rfl,hK2,fun vt tt=>?_⟩
   have wl:=j9 (if y=0 then st.old else st.new)
   have tl:=tt.len
   refine⟨_,rfl,D,_,_,o2,.cons tt.dx (.cons (by rw[<-e1];exact .int _) .nil),⟨_,z.toNat,rfl,e2,by omega,rfl⟩,fun vk H3 s3 d3=>?_⟩
   have dl:(whole (if y=0 then st.old else st.new)).dropLast=(if y=0 then st.old else st.new).inner:=by unfold whole;rw[Wj]
   rw[dl]at d3
   refine⟨D,_,_,o2.mono s3,.cons d3 .nil,⟨_,rfl,bQ (ux _ _) (by omega),rfl⟩,fun v4 H4 s4 d4=>?_⟩
   exact o.told (ZF.trans (s3.trans s4)) (lQ _ (by rw[hw,hg];rfl)) hK d4 (by rw[br,aa];have:=ux z.toNat (if y=0 then st.old else st.new).inner;omega)
theorem Sk(G:fT K mg)(T:iO K C iQ)(Df:iZ K C "distance" "Desk.distance" q_ ["self","grain"])(nR:bG P w K mg base "is_grain" ["number"] 1 (qC K Be))(rJ:bG P w K mg base "distance_between" ["old_text","new_text","grain"] 8 (aaC K)):dG P w K mg base C "distance" ["self","grain"] 9 (sp1 K CP CH CC C .distance):=by
 refine Df.ok HH (fun vs H Q E⟨_,_,_,_,e,_⟩=>by rw[e];rfl) fun f iB A outer s H vs Q E hr h=>?_
 obtain⟨D,d,st,z,rfl,hO,hD,hK,o⟩:=h
 refine⟨_,(aC (eW (qw (rC (bL nR (hr.mono (by decide)) (aj (pv 1) aA)) (fun _=>rfl))) (aJ (bF (c_ (aj (bW G.j6) aA)))) cN)
   (aJ (bF (c_ (aj (bL rJ (hr.mono (by decide)) (aj (bC (K:=K) rfl (pv 0) rfl) (aj (bC (K:=K) rfl (pv 0) rfl) (aj (pv 1) aA)))) aA))))),?_⟩
 refine⟨_,rfl,D,_,_,hO,.cons (.int _) .nil,⟨z,rfl,rfl⟩,fun vb H1 s1 d1=>?_⟩
 obtain rfl:=d1.zg
 refine⟨_,rfl,?_⟩
 dsimp only
 have AJ:=hK.mono s1
 have o1:=hO.mono s1
 cases hw:bX z 0 1 with
 |false=>
  have lQ:bS st (.distance z)=(st,.refused 2):=by
   show(st,if bX z 0 1=false then mR 2 else _)=_
   rw[aG hw]
  exact kO rfl ⟨by show 1<=aK;decide,fun q hq=>o.fin o1 (sx s1) lQ AJ hq rfl⟩
 |true=>
  refine iL rfl ?_
  obtain⟨dx,v1,v2,v3,h0,t1,t2,t3⟩:=AJ.ex
  obtain⟨e1,e2⟩:=V6 (DC hw)
  have n1:=t1.len
  have n2:=t2.len
  have w1:=j9 st.old
  have w2:=j9 st.new
  refine⟨_,rfl,d,C,dx,_,_,rfl,h0,T.cl,T.no _ (by decide),rfl,_,rfl,d,C,dx,_,_,rfl,h0,T.cl,T.no _ (by decide),rfl,_,rfl,D,v1,v2,whole st.old,whole st.new,z.toNat,by rw[<-e1];rfl,o1,⟨t1.dx,t2.dx,t1.ok,t2.ok,by omega,by omega,by omega,by omega⟩,e2,fun H2 s2=>?_⟩
  have lQ:bS st (.distance z)=(st,.told [Qh z.toNat st.old st.new]):=by
   show(st,if bX z 0 1=false then mR 2 else .told [Qh z.toNat st.old st.new])=_
   rw[aD (by rw[hw];decide)]
  rw[yV,yV]
  exact⟨by show 1<=aK;decide,fun q hq=>o.fin (o1.mono s2) (sx (s1.trans s2)) lQ (AJ.mono s2) hq rfl⟩
theorem LZ(G:fT K mg)(T:iO K C iQ)(TC:iO K CC tF)(Df:iZ K C "tell_counts" "Desk.tell_counts" nD ["self"])(zG:bG P w K mg base "told_counts" ["row"] 1 (Sa K CP)):dG P w K mg base C "tell_counts" ["self"] 2 (sp0 K CP CH CC C .counts):=by
 refine Df.ok Ew (fun vs H Q E⟨_,_,_,e,_⟩=>by rw[e];rfl) fun f iB A outer s H vs Q E hr h=>?_
 obtain⟨D,d,st,rfl,hO,hD,hK,o⟩:=h
 obtain⟨dx,v1,v2,v3,h0,t1,t2,t3⟩:=hK.ex
 refine⟨_,(aC (eW (ue (CF (bC (K:=K) rfl (pv 0) rfl))) (aJ (bF (c_ (aj (bW G.u7) aA)))) cN)
   (aJ (bF (bL zG (hr.mono (by decide)) (aj (bC (K:=K) rfl (bC (K:=K) rfl (pv 0) rfl) rfl) aA))))),?_⟩
 refine⟨_,rfl,d,C,dx,_,_,rfl,h0,T.cl,T.no _ (by decide),rfl,_,rfl,?_⟩
 cases hh:st.held with
 |none=>
  rw[hh]at t3
  have e3:v3=.jX:=t3
  subst e3
  have lQ:bS st .counts=(st,.refused 4):=by show mO st _=_;unfold mO;rw[hh]
  exact kO rfl ⟨by show 1<=aK;decide,fun q hq=>o.fin hO (sx (aQ.refl _)) lQ hK hq rfl⟩
 |some wk=>
  rw[hh]at t3
  obtain⟨ps,cs,cost,c1,r1,kR,dz,n1,n2,_⟩:=t3
  obtain⟨ca,Ft,u1,u2,u4,u5,rfl,c0,c11,c12,c13,c14⟩:=c1.ex
  refine iL rfl ?_
  refine⟨_,rfl,d,C,dx,_,_,rfl,h0,T.cl,T.no _ (by decide),rfl,ca,CC,Ft,_,_,rfl,aq _ _ c0,TC.cl,TC.no _ (by decide),rfl,D,u1,ps,rfl,hO,c11,by omega,fun v H1 s1 d1=>?_⟩
  rw[<-r1.counts dz]at d1
  exact o.told s1 (by show mO st _=_;unfold mO;rw[hh]) hK d1 (by rw[r1.counts dz];exact Wk rfl)
theorem L0{ps:List Pc}{cs:List Ch}{wk:Mm}(r:Ms ps cs wk)(dz:∀p∈ps,jn p):Kp ps cs=wk.row.length::wk.row.flatMap Yg:=by
 unfold Kp
 rw[r.len,r.row,vJ]
 congr 1
 refine kE fun i hi=>?_
 have hi:=cH.mp hi
 unfold qy Yg oW iI Ia
 simp only
 have ep:∀es:List (Nat×Nat),((es.map fun e=>({change:=Bv cs i e.1,prop:=e.1,value:=e.2}:fW)).flatMap fun e=>[e.change,e.prop,e.value])=es.flatMap fun e=>[Bv cs i e.1,e.1,e.2]:=fun es=>by rw[vJ]
 rw[ep,aa]
 rcases Ms.Xf dz hi with⟨h,_⟩|⟨h|h,_⟩
 ·rw[aD (by omega),aD (by omega),aD (by omega),aD (by omega)]
  simp
 ·rw[aD (by omega),aG h,aD (by omega),aG h,r.sys.Ea hi (.inl h)]
  simp
 ·rw[aG h,aD (by omega),aG h,aD (by omega),r.sys.Ea hi (.inr h)]
  simp
theorem Sl(G:fT K mg)(T:iO K C iQ)(Df:iZ K C "tell_row" "Desk.tell_row" qZ ["self"])(Fy:bG P w K mg base "told_row" ["comparison"] 2 (ag' K CP CH CC)):dG P w K mg base C "tell_row" ["self"] 3 (sp0 K CP CH CC C .row):=by
 refine Df.ok HG (fun vs H Q E⟨_,_,_,e,_⟩=>by rw[e];rfl) fun f iB A outer s H vs Q E hr h=>?_
 obtain⟨D,d,st,rfl,hO,hD,hK,o⟩:=h
 obtain⟨dx,v1,v2,v3,h0,t1,t2,t3⟩:=hK.ex
 refine⟨_,(aC (eW (ue (CF (bC (K:=K) rfl (pv 0) rfl))) (aJ (bF (c_ (aj (bW G.u7) aA)))) cN)
   (aJ (bF (bL Fy (hr.mono (by decide)) (aj (bC (K:=K) rfl (pv 0) rfl) aA))))),?_⟩
 refine⟨_,rfl,d,C,dx,_,_,rfl,h0,T.cl,T.no _ (by decide),rfl,_,rfl,?_⟩
 cases hh:st.held with
 |none=>
  rw[hh]at t3
  have e3:v3=.jX:=t3
  subst e3
  have lQ:bS st .row=(st,.refused 4):=by show mO st _=_;unfold mO;rw[hh]
  exact kO rfl ⟨by show 1<=aK;decide,fun q hq=>o.fin hO (sx (aQ.refl _)) lQ hK hq rfl⟩
 |some wk=>
  rw[hh]at t3
  obtain⟨ps,cs,cost,c1,r1,kR,dz,n1,n2,_⟩:=t3
  obtain⟨ca,Ft,u1,u2,u4,u5,rfl,_⟩:=c1.ex
  refine iL rfl ?_
  refine⟨_,rfl,d,C,dx,_,_,rfl,h0,T.cl,T.no _ (by decide),rfl,D,_,ps,cs,cost,rfl,hO,c1,r1.sys,kR,dz,by omega,fun v H1 s1 d1=>?_⟩
  rw[L0 r1 dz]at d1
  exact o.told s1 (by show mO st _=_;unfold mO;rw[hh]) hK d1 (by rw[<-L0 r1 dz];unfold Kp;rw[br];have:=Jb cs kR dz ps.length (aV _);omega)
theorem Oi{ps:List Pc}{cs:List Ch}{wk:Mm}(r:Ms ps cs wk)(dz:∀p∈ps,jn p):PD cs=wk.kinds.length::(numbersOf wk).flatMap (Vatrkf.toldChange wk):=by
 unfold PD numbersOf
 rw[r.kinds,aa,vJ]
 congr 1
 have e:cs=(bK cs.length).map fun i=>cs.getD i ⟨0,[],[],[],0⟩:=by
  refine ud fun i=>?_
  rw[aT]
  by_cases h:i<cs.length
  ·rw[mW h,ow,aO,aB h];rfl
  ·rw[fu (by omega),fu (by rw[eK];omega)];rfl
 conv=>lhs;rw[e]
 rw[vJ]
 refine kE fun i hi=>?_
 have hi:=cH.mp hi
 have hc:cs[i]?=some (cs.getD i ⟨0,[],[],[],0⟩):=by rw[aO,aB hi];rfl
 rw[r.change dz hc]
 rfl
theorem V7{ps:List Pc}{cs:List Ch}{wk:Mm}(r:Ms ps cs wk):wk.kinds.length=cs.length:=by rw[r.kinds,aa]
theorem JI(G:fT K mg)(T:iO K C iQ)(TC:iO K CC tF)(Df:iZ K C "tell_changes" "Desk.tell_changes" mj ["self"])(xX:bG P w K mg base "told_changes" ["changes"] 1 (aha K CH)):dG P w K mg base C "tell_changes" ["self"] 2 (sp0 K CP CH CC C .changes):=by
 refine Df.ok C1 (fun vs H Q E⟨_,_,_,e,_⟩=>by rw[e];rfl) fun f iB A outer s H vs Q E hr h=>?_
 obtain⟨D,d,st,rfl,hO,hD,hK,o⟩:=h
 obtain⟨dx,v1,v2,v3,h0,t1,t2,t3⟩:=hK.ex
 refine⟨_,(aC (eW (ue (CF (bC (K:=K) rfl (pv 0) rfl))) (aJ (bF (c_ (aj (bW G.u7) aA)))) cN)
   (aJ (bF (bL xX (hr.mono (by decide)) (aj (bC (K:=K) rfl (bC (K:=K) rfl (pv 0) rfl) rfl) aA))))),?_⟩
 refine⟨_,rfl,d,C,dx,_,_,rfl,h0,T.cl,T.no _ (by decide),rfl,_,rfl,?_⟩
 cases hh:st.held with
 |none=>
  rw[hh]at t3
  have e3:v3=.jX:=t3
  subst e3
  have lQ:bS st .changes=(st,.refused 4):=by show mO st _=_;unfold mO;rw[hh]
  exact kO rfl ⟨by show 1<=aK;decide,fun q hq=>o.fin hO (sx (aQ.refl _)) lQ hK hq rfl⟩
 |some wk=>
  rw[hh]at t3
  obtain⟨ps,cs,cost,c1,r1,kR,dz,n1,n2,_,n3⟩:=t3
  obtain⟨ca,Ft,u1,u2,u4,u5,rfl,c0,c11,c12,c13,c14⟩:=c1.ex
  refine iL rfl ?_
  refine⟨_,rfl,d,C,dx,_,_,rfl,h0,T.cl,T.no _ (by decide),rfl,ca,CC,Ft,_,_,rfl,aq _ _ c0,TC.cl,TC.no _ (by decide),rfl,D,u2,cs,rfl,hO,c12,by omega,fun v H1 s1 d1=>?_⟩
  rw[Oi r1 dz]at d1
  exact o.told s1 (by show mO st _=_;unfold mO;rw[hh]) hK d1 (by rw[<-Oi r1 dz];unfold PD;rw[br,LS];omega)
end
theorem G1{n:Nat}{dflt p:Nat}(h:p<=n):HT.tZ n dflt (some (p:Int))=p:=by
 show(if(p:Int)<0 then((p:Int)+(n:Int)).toNat else min (p:Int).toNat n)=p
 rw[aD (by omega)]
 omega
theorem US(xs:List V)(p:Nat)(h:p<=xs.length):Cf xs none (some (p:Int))=xs.take p:=by
 unfold Cf
 rw[HT.F8,G1 h]
 simp
theorem L1(xs:List V)(p:Nat)(h:p<=xs.length):Cf xs (some (p:Int)) none=xs.drop p:=by
 unfold Cf
 rw[HT.F8,G1 h]
 exact kg (by rw[b7];exact aV _)
theorem aaI(xs:List V)(p q:Nat)(h1:p<=q)(h:q<=xs.length):Cf xs (some (p:Int)) (some (q:Int))=(xs.drop p).take (q-p):=by
 unfold Cf
 rw[G1 h,G1 (bQ h1 h)]
theorem bN.tak{K:ah}{G:Hp}:∀{vs:List V}{ds:List bf}(n:Nat),bN K G vs ds->bN K G (vs.take n) (ds.take n)
 |_,_,0,_=>.nil
 |_,_,_+1,.nil=>.nil
 |_,_,n+1,.cons h t=>.cons h (bN.tak n t)
theorem bN.dro{K:ah}{G:Hp}:∀{vs:List V}{ds:List bf}(n:Nat),bN K G vs ds->bN K G (vs.drop n) (ds.drop n)
 |_,_,0,h=>h
 |_,_,_+1,.nil=>.nil
 |_,_,n+1,.cons _ t=>bN.dro n t
theorem bN.app{K:ah}{G:Hp}:∀{vs ws:List V}{ds es:List bf},bN K G vs ds->bN K G ws es->bN K G (vs++ws) (ds++es)
 |_,_,_,_,.nil,h=>h
 |_,_,_,_,.cons a t,h=>.cons a (bN.app t h)
section
variable{P:bD}{w:cC}{K:ah}{mg:cM->Option ao}{base:cY}{CP CH CC C:ak}
def adA(K:ah)(CP CH CC C:ak):Sp:=fun vs H Q _=>∃D d st p v l,vs=[.ref d,.int p,v]/\Od H D/\D d=true/\gG K CP CH CC C H D d st/\Dx K (hd H D) v (Cm l)/\l.length<=2000/\Xs K CP CH CC C Q H D d st (.put p l)
theorem aaJ(p:Int)(n:Nat):(decide (0<=p)&&decide (p<(n:Int)))=Ho p n:=rfl
theorem Fz{d:Doc}{p:Nat}(h:p<=d.inner.length):(whole d).take p=d.inner.take p/\(whole d).drop p=d.inner.drop p++[d.last]:=by
 unfold whole
 exact⟨List.take_append_of_le_length h,List.drop_append_of_le_length h⟩
theorem PU(G:fT K mg)(T:iO K C iQ)(Df:iZ K C "put_signs" "Desk.put_signs" p9 ["self","p","signs"])(rS:bG P w K mg base "are_signs" ["numbers"] 2 (qC K C2))(jQ:bG P w K mg base "plain_letters" ["signs"] 1 (qC K vM))(dg:dG P w K mg base C "hold_texts" ["self","old_text","new_text"] 1 (BC C)):dG P w K mg base C "put_signs" ["self","p","signs"] 4 (adA K CP CH CC C):=by
 refine Df.ok yM (fun vs H Q E⟨_,_,_,_,_,_,e,_⟩=>by rw[e];rfl) fun f iB A outer s H vs Q E hr h=>?_
 obtain⟨D,d,st,p,v,l,rfl,hO,hD,hK,dl,nl,o⟩:=h
 obtain⟨dx,v1,v2,v3,h0,t1,t2,t3⟩:=hK.ex
 obtain⟨a,xs,rfl,h1,h2⟩:=t2.dx.bV
 have lx:xs.length=size st.new:=by rw[h2.length,aa,j9];rfl
 obtain⟨sb,rfl,zs⟩:=qf dl
 have lQ:∀r,(if Ho p (size st.new)=false then(st,mR 1)
   else if(l.isEmpty|| !l.all fS)=true then(st,.refused 2)
   else if SN<st.new.inner.length+l.length then(st,.refused 5)
   else(Cy st {st.new with inner:=st.new.inner.take p.toNat++(letters l++st.new.inner.drop p.toNat)},.told [size {st.new with inner:=st.new.inner.take p.toNat++(letters l++st.new.inner.drop p.toNat)}]))=r->bS st (.put p l)=r:=fun r e=>by rw[<-e];rfl
 refine⟨_,(aC (cR (i:=3) yM.nd rfl (by first|exact bz rfl|exact bB rfl) (bC (K:=K) rfl (pv 0) rfl))
   (aC (eW (qw (CL qH xB b9 (pv 1) (cS (r:=l5 K) cB (by rfl) G.iN dN (aj (pv 3) aA)))) (aJ (bF (c_ (aj (bW G.zq) aA)))) cN)
   (aC (eW (PW.pt (KH (dB jM (cS (r:=l5 K) cB (by rfl) G.iN dN (aj (pv 2) aA)) b9 (dZ _)) (Hs (qw (rC (bL rS (hr.mono (by decide)) (aj (pv 2) aA)) (fun _=>rfl)))))) (aJ (bF (c_ (aj (bW G.j6) aA)))) cN)
   (aC (eW (dB YB (jx oA (jx Tt (cS (r:=l5 K) cB (by rfl) G.iN dN (aj (pv 3) aA)) b9) (cS (r:=l5 K) cB (by rfl) G.iN dN (aj (pv 2) aA))) (bW G.rF) (dZ _)) (aJ (bF (c_ (aj (bW G.K4) aA)))) cN)
   (aC (eZ (eE dg (pv 0) (hr.mono (by decide)) (aj (bC (K:=K) rfl (pv 0) rfl) (aj (jx uh (jx uh (k9 (r:=Jq K) qP (pv 3) sC (k8 (pv 1))) (bL jQ (hr.mono (by decide)) (aj (pv 2) aA))) (k9 (r:=Jq K) qP (pv 3) (k8 (pv 1)) sC)) aA))))
   (aJ (bF (c_ (aj (cS (r:=l5 K) cB (by rfl) G.iN dN (aj (bC (K:=K) rfl (pv 0) rfl) aA)) aA))))))))),?_⟩
 refine⟨_,rfl,d,C,dx,_,_,rfl,h0,T.cl,T.no _ (by decide),rfl,?_⟩
 refine sG vy (yE rfl) (fun _ r=>⟨_,rfl,a,xs,rfl,.inl (cG.of (aq _ _ h1)),r⟩) ⟨_,rfl,?_⟩
 dsimp only
 rw[lx,aaJ]
 cases hb:Ho p (size st.new)with
 |false=>exact kO rfl ⟨by show 1<=aK;decide,fun q hq=>o.fin hO (sx (aQ.refl _)) (lQ (st,.refused 1) (by rw[hb];exact aG rfl)) hK hq rfl⟩
 |true=>
  have hbp:0<=p/\p<(size st.new:Int):=by
   unfold Ho at hb
   rw[bx,aM,aM]at hb
   exact hb
  refine iL rfl ?_
  refine⟨_,rfl,sb,_,rfl,.inl (cG.of (aq _ _ zs)),rfl,_,rfl,?_⟩
  rw[aa]
  by_cases hl0:l.length=0
  ·have he:l.isEmpty=true:=by rw[List.isEmpty_iff];exact mY.mp hl0
   refine kO (aI (by rw[hl0];rfl)) (kO rfl ⟨by show 1<=aK;decide,fun q hq=>o.fin hO (sx (aQ.refl _)) (lQ (st,.refused 2) (by rw[hb,aD (by decide),he];exact aG rfl)) hK hq rfl⟩)
  ·have he:l.isEmpty=false:=by
    cases l with
    |nil=>exact absurd rfl hl0
    |cons _ _=>rfl
   refine iL (aH fun e=>hl0 (pD (b:=0) e)) ?_
   refine⟨_,rfl,D,_,_,hO,.cons dl .nil,⟨l,rfl,nl,rfl⟩,fun vb H1 s1 d1=>?_⟩
   obtain rfl:=d1.zg
   refine⟨_,rfl,?_⟩
   dsimp only
   have AJ:=hK.mono s1
   have o1:=hO.mono s1
   cases ha:l.all fS with
   |false=>exact kO rfl ⟨by show 1<=aK;decide,fun q hq=>o.fin o1 (sx s1) (lQ (st,.refused 2) (by rw[hb,aD (by decide),he,ha];exact aG rfl)) AJ hq rfl⟩
   |true=>
    refine iL rfl ?_
    refine⟨_,rfl,a,xs,rfl,.inl (cG.of (s1 _ _ (aq _ _ h1))),_,_,rfl,rfl,_,rfl,sb,_,rfl,.inl (cG.of (s1 _ _ (aq _ _ zs))),_,_,rfl,rfl,_,_,rfl,rfl,_,rfl,?_⟩
    rw[aa,lx]
    have esz:(size st.new:Int)=(st.new.inner.length:Int)+1:=by unfold size;omega
    by_cases hm:SN<st.new.inner.length+l.length
    ·refine kO (aI (by unfold SN at hm;omega)) ⟨by show 1<=aK;decide,fun q hq=>o.fin o1 (sx s1) (lQ (st,.refused 5) (by rw[hb,aD (by decide),he,ha,aD (by decide)];exact aG hm)) AJ hq rfl⟩
    ·refine iL (aH (by unfold SN at hm;omega)) ?_
     obtain⟨n,rfl⟩:∃n:Nat,p=(n:Int):=⟨p.toNat,by omega⟩
     have hn:n<=st.new.inner.length:=by unfold size at hbp;omega
     have hnx:n<=xs.length:=by rw[lx];unfold size;omega
     have h01:=s1 _ _ h0
     have h2':=(aU s1).EG h2
     have h1':=s1 _ _ (aq _ _ h1)
     refine⟨_,rfl,d,dx,_,rfl,h01,rfl,_,rfl,d,C,dx,_,_,rfl,h01,T.cl,T.no _ (by decide),rfl,_,rfl,_,rfl,_,rfl,a,_,rfl,cG.of h1',fun x1 GG=>?_⟩
     rw[US xs n hnx]
     have e1:=aQ.new (o:=.lst (xs.take n)) GG
     refine⟨_,rfl,D,_,_,o1.mono e1,.cons ((aU (s1.trans e1)).dp dl) .nil,⟨l.map y9,by rw[zE ha],by rw[aa];exact nl,rfl⟩,fun vl H2 s2 d2=>?_⟩
     obtain⟨x2,ys,rfl,y1,y2⟩:=d2.bV
     have ly:=y2.length
     rw[aa,aa,aa]at ly
     have lxs:xs.length<=121:=by rw[lx];unfold size;have:=t2.len;omega
     refine⟨x1,x2,_,_,rfl,rfl,s2 _ _ aE,aq _ _ y1,nI (by rw[a_];omega),fun x3 hx3=>?_⟩
     have e3:=aQ.new (o:=.lst (xs.take n++ys)) hx3
     have W2:=(s1.trans e1).trans (s2.trans e3)
     refine⟨_,rfl,_,rfl,_,rfl,a,_,rfl,cG.of (W2 _ _ (aq _ _ h1)),fun x4 hx4=>?_⟩
     rw[L1 xs n hnx]
     have e4:=aQ.new (o:=.lst (xs.drop n)) hx4
     refine⟨x3,x4,_,_,rfl,rfl,e4 _ _ aE,aE,nI (by rw[au,a_,b7];omega),fun x5 hx5=>?_⟩
     have e5:=aQ.new (o:=.lst (xs.take n++ys++xs.drop n)) hx5
     have s15:=W2.trans (e4.trans e5)
     have o5:=hO.mono (W2.trans e4)
     have h05:=s15 _ _ h0
     obtain⟨w1,w2⟩:=Fz hn
     have ew:(whole st.new).take n++(l.map y9).map cO++(whole st.new).drop n=whole {st.new with inner:=st.new.inner.take n++(letters l++st.new.inner.drop n)}:=by
      rw[w1,w2]
      unfold whole letters
      simp only[aR,gO]
      rfl
     have tt:qz K (hd (upd (upd (upd H2 x3 (.lst (xs.take n++ys))) x4 (.lst (xs.drop n))) x5 (.lst (xs.take n++ys++xs.drop n))) D) (.ref x5) {st.new with inner:=st.new.inner.take n++(letters l++st.new.inner.drop n)}:=by
      refine⟨?_,?_,?_⟩
      ·rw[<-ew]
       refine .lst (iY aE (o5.fresh hx5)) ?_
       rw[bu,bu,AR,AS]
       exact bN.app (bN.app (bN.tak n ((aU s15).EG h2)) ((aU (e3.trans (e4.trans e5))).EG y2)) (bN.dro n ((aU s15).EG h2))
      ·rw[<-ew]
       intro x hx
       rcases aX.mp hx with hx|hx
       ·rcases aX.mp hx with hx|hx
        ·exact t2.ok x (lX hx)
        ·obtain⟨m,_,rfl⟩:=bI.mp hx
         exact⟨rfl,rfl⟩
       ·exact t2.ok x (wC hx)
      ·show(st.new.inner.take n++(letters l++st.new.inner.drop n)).length<=120
       unfold letters
       rw[au,au,aa,a_,b7]
       unfold SN at hm
       omega
     refine⟨d,dx,_,_,_,_,_,rfl,h05,?_⟩
     have n5:x5≠d:=fun e=>by rw[e]at hx5;rw[(W2.trans e4) _ _ h0]at hx5;cases hx5
     refine⟨_,rfl,d,C,dx,_,_,rfl,aE,T.cl,T.no _ (by decide),rfl,x5,_,rfl,.inl (cG.of (by rw[bY n5,aE])),by show 1<=aK;decide,fun q hq=>?_⟩
     have hs:bS st (.put (n:Int) l)=(Cy st {st.new with inner:=st.new.inner.take n++(letters l++st.new.inner.drop n)},.told [size {st.new with inner:=st.new.inner.take n++(letters l++st.new.inner.drop n)}]):=lQ _ (by rw[hb,aD (by decide),he,ha,aD (by decide),aD hm];rfl)
     refine o.fin (hO.mono s15).upd ((sx s15).trans JH) hs (gG.hold hD (t1.mono (aU s15)) tt) hq ?_
     show [V.int (((xs.take n++ys++xs.drop n).length:Nat):Int)]=[V.int (((size {st.new with inner:=st.new.inner.take n++(letters l++st.new.inner.drop n)}:Nat)):Int)]
     have:(xs.take n++ys++xs.drop n).length=size {st.new with inner:=st.new.inner.take n++(letters l++st.new.inner.drop n)}:=by
      unfold size letters
      rw[au,au,au,au,aa,a_,b7,a_,b7,lx]
      unfold size
      omega
     rw[this]
theorem L5(G:fT K mg)(T:iO K C iQ)(Df:iZ K C "cut_letters" "Desk.cut_letters" nu ["self","p","q"])(dg:dG P w K mg base C "hold_texts" ["self","old_text","new_text"] 1 (BC C)):dG P w K mg base C "cut_letters" ["self","p","q"] 2 (sp2 K CP CH CC C .cut):=by
 refine Df.ok wA (fun vs H Q E⟨_,_,_,_,_,e,_⟩=>by rw[e];rfl) fun f iB A outer s H vs Q E hr h=>?_
 obtain⟨D,d,st,p,qq,rfl,hO,hD,hK,o⟩:=h
 obtain⟨dx,v1,v2,v3,h0,t1,t2,t3⟩:=hK.ex
 obtain⟨a,xs,rfl,h1,h2⟩:=t2.dx.bV
 have lx:xs.length=size st.new:=by rw[h2.length,aa,j9];rfl
 have lQ:∀r,(if jy p qq (size st.new-1)=false then(st,mR 1)else(Cy st {st.new with inner:=st.new.inner.take p.toNat++st.new.inner.drop qq.toNat},.told [size {st.new with inner:=st.new.inner.take p.toNat++st.new.inner.drop qq.toNat}]))=r->bS st (.cut p qq)=r:=fun r e=>by rw[<-e];rfl
 refine⟨_,(aC (cR (i:=3) wA.nd rfl (by first|exact bz rfl|exact bB rfl) (bC (K:=K) rfl (pv 0) rfl))
   (aC (eW (qw (Og qH xB xB b9 (pv 1) (pv 2) (cS (r:=l5 K) cB (by rfl) G.iN dN (aj (pv 3) aA)))) (aJ (bF (c_ (aj (bW G.zq) aA)))) cN)
   (aC (eZ (eE dg (pv 0) (hr.mono (by decide)) (aj (bC (K:=K) rfl (pv 0) rfl) (aj (jx uh (k9 (r:=Jq K) qP (pv 3) sC (k8 (pv 1))) (k9 (r:=Jq K) qP (pv 3) (k8 (pv 2)) sC)) aA))))
   (aJ (bF (c_ (aj (cS (r:=l5 K) cB (by rfl) G.iN dN (aj (bC (K:=K) rfl (pv 0) rfl) aA)) aA))))))),?_⟩
 refine⟨_,rfl,d,C,dx,_,_,rfl,h0,T.cl,T.no _ (by decide),rfl,?_⟩
 refine Oh vy (yE rfl) (yE rfl) (fun _ r=>⟨_,rfl,a,xs,rfl,.inl (cG.of (aq _ _ h1)),r⟩) ⟨_,rfl,?_⟩
 dsimp only
 have eb:(decide ((0:Int)<=p)&&(decide (p<qq)&&decide (qq<((xs.length:Nat):Int))))=jy p qq (size st.new-1):=by
  unfold jy
  rw[lx]
  congr 2
  exact fH.mpr (by unfold size;omega)
 rw[eb]
 cases hb:jy p qq (size st.new-1)with
 |false=>exact kO rfl ⟨by show 1<=aK;decide,fun q hq=>o.fin hO (sx (aQ.refl _)) (lQ (st,.refused 1) (by rw[hb];exact aG rfl)) hK hq rfl⟩
 |true=>
  have hbp:0<=p/\p<qq/\qq<=((size st.new-1:Nat):Int):=by
   unfold jy at hb
   rw[bx,bx,aM,aM,aM]at hb
   exact hb
  refine iL rfl ?_
  obtain⟨n,rfl⟩:∃n:Nat,p=(n:Int):=⟨p.toNat,by omega⟩
  obtain⟨m,rfl⟩:∃m:Nat,qq=(m:Int):=⟨qq.toNat,by omega⟩
  have hn:n<=st.new.inner.length:=by unfold size at hbp;omega
  have hm:m<=st.new.inner.length:=by unfold size at hbp;omega
  have hnx:n<=xs.length:=by rw[lx];unfold size;omega
  have hmx:m<=xs.length:=by rw[lx];unfold size;omega
  have lxs:xs.length<=121:=by rw[lx];unfold size;have:=t2.len;omega
  refine⟨_,rfl,d,dx,_,rfl,h0,rfl,_,rfl,d,C,dx,_,_,rfl,h0,T.cl,T.no _ (by decide),rfl,_,rfl,_,rfl,_,rfl,a,_,rfl,cG.of (aq _ _ h1),fun x1 GG=>?_⟩
  rw[US xs n hnx]
  have e1:=aQ.new (o:=.lst (xs.take n)) GG
  refine⟨_,rfl,_,rfl,_,rfl,a,_,rfl,cG.of (e1 _ _ (aq _ _ h1)),fun x2 Hj=>?_⟩
  rw[L1 xs m hmx]
  have e2:=aQ.new (o:=.lst (xs.drop m)) Hj
  refine⟨x1,x2,_,_,rfl,rfl,e2 _ _ aE,aE,nI (by rw[a_,b7];omega),fun x3 hx3=>?_⟩
  have e3:=aQ.new (o:=.lst (xs.take n++xs.drop m)) hx3
  have s3:=(e1.trans e2).trans e3
  have o3:=hO.mono (e1.trans e2)
  obtain⟨w1,_⟩:=Fz hn
  obtain⟨_,w2⟩:=Fz hm
  have ew:(whole st.new).take n++(whole st.new).drop m=whole {st.new with inner:=st.new.inner.take n++st.new.inner.drop m}:=by
   rw[w1,w2]
   unfold whole
   simp only[gO]
  have tt:qz K (hd (upd (upd (upd H x1 (.lst (xs.take n))) x2 (.lst (xs.drop m))) x3 (.lst (xs.take n++xs.drop m))) D) (.ref x3) {st.new with inner:=st.new.inner.take n++st.new.inner.drop m}:=by
   refine⟨?_,?_,?_⟩
   ·rw[<-ew]
    refine .lst (iY aE (o3.fresh hx3)) ?_
    rw[bu,AR,AS]
    exact bN.app (bN.tak n ((aU s3).EG h2)) (bN.dro m ((aU s3).EG h2))
   ·rw[<-ew]
    intro x hx
    rcases aX.mp hx with hx|hx
    ·exact t2.ok x (lX hx)
    ·exact t2.ok x (wC hx)
   ·show(st.new.inner.take n++st.new.inner.drop m).length<=120
    rw[au,a_,b7]
    have:=t2.len
    omega
  refine⟨d,dx,_,_,_,_,_,rfl,s3 _ _ h0,?_⟩
  have n3:x3≠d:=fun e=>by rw[e,(e1.trans e2) _ _ h0]at hx3;cases hx3
  refine⟨_,rfl,d,C,dx,_,_,rfl,aE,T.cl,T.no _ (by decide),rfl,x3,_,rfl,.inl (cG.of (by rw[bY n3,aE])),by show 1<=aK;decide,fun q hq=>?_⟩
  have hs:bS st (.cut (n:Int) (m:Int))=(Cy st {st.new with inner:=st.new.inner.take n++st.new.inner.drop m},.told [size {st.new with inner:=st.new.inner.take n++st.new.inner.drop m}]):=lQ _ (by rw[hb,aD (by decide)];rfl)
  refine o.fin (hO.mono s3).upd ((sx s3).trans JH) hs (gG.hold hD (t1.mono (aU s3)) tt) hq ?_
  show [V.int (((xs.take n++xs.drop m).length:Nat):Int)]=[V.int (((size {st.new with inner:=st.new.inner.take n++st.new.inner.drop m}:Nat)):Int)]
  have:(xs.take n++xs.drop m).length=size {st.new with inner:=st.new.inner.take n++st.new.inner.drop m}:=by
   unfold size
   rw[au,au,a_,b7,a_,b7,lx]
   unfold size
   omega
  rw[this]
end
def UT(k v:Nat)(d:bf):Option bf:=match d with
 |.tuple [_,.tuple l]=>if fh (l.getD k .none) (dn v)=true then none else some d
 |_=>none
theorem Xu{l:List Nat}{k:Nat}(h:k<l.length):(l.map dn).getD k .none=dn (l.getD k 0):=by
 rw[aO,aO,aT,aB h]
 rfl
theorem Oj{x:bZ}(hx:MU x){k v:Nat}(hk:k<4):UT k v (gS x)=if x.look.getD k 0=v then none else some (gS x):=by
 show(if fh ((x.look.map dn).getD k .none) (dn v)=true then none else some (gS x))=_
 rw[Xu (by rw[hx.four];exact hk),Uc]
 by_cases h:x.look.getD k 0=v
 ·rw[aG (aI h),aG h]
 ·rw[aD (by rw[aH h];exact aF),aD h]
theorem L6{k v:Nat}(hk:k<4):∀{l:List bZ},Bb l->((l.map gS).filterMap (UT k v)).length=(l.filter fun x=> !(x.look.getD k 0==v)).length
 |[],_=>rfl
 |x::l,h=>by
  rw[bg,rB,Oj (h x (by simp)) hk,cK]
  have ih:=L6 hk (l:=l) (v:=v) fun y hy=>h y (by simp[hy])
  by_cases e:x.look.getD k 0=v
  ·rw[aG e,e,dW,aD (by decide)]
   exact ih
  ·rw[aD e,h_ e,aG (by decide)]
   show _+1=_+1
   rw[ih]
section
variable{P:bD}{w:cC}{K:ah}{mg:cM->Option ao}{base:cY}{CP CH CC C:ak}
def V8(K:ah)(CP CH CC C:ak):Sp:=fun vs H Q _=>∃D d st y p q k v,vs=[.ref d,.int y,.int p,.int q,.int k,.int v]/\Od H D/\D d=true/\gG K CP CH CC C H D d st/\Xs K CP CH CC C Q H D d st (.paint y p q k v)
theorem Ig(G:fT K mg)(T:iO K C iQ)(Df:iZ K C "paint_letters" "Desk.paint_letters" lD ["self","w","p","q","k","v"])(qg:bG P w K mg base "is_text" ["w"] 1 (qC K Eg))(jD:dG P w K mg base C "text_called" ["self","w"] 1 (PN K CP CH CC C))(j8:bG P w K mg base "painted_letter" ["letter","prop","value"] 1 (qC K uw))(dg:dG P w K mg base C "hold_texts" ["self","old_text","new_text"] 1 (BC C)):dG P w K mg base C "paint_letters" ["self","w","p","q","k","v"] 3 (V8 K CP CH CC C):=by
 refine Df.ok gF (fun vs H Q E⟨_,_,_,_,_,_,_,_,e,_⟩=>by rw[e];rfl) fun f iB A outer s H vs Q E hr h=>?_
 obtain⟨D,d,st,y,p,qq,kk,vv,rfl,hO,hD,hK,o⟩:=h
 have lQ:∀r,(if(bX y 0 1&&(bX kk 0 3&&bX vv 0 99))=false then(st,mR 2)
   else if jy p qq (size (if y=0 then st.old else st.new))=false then(st,.refused 1)
   else(if y=0 then Jl st (Nv p.toNat qq.toNat kk.toNat vv.toNat (if y=0 then st.old else st.new))else Cy st (Nv p.toNat qq.toNat kk.toNat vv.toNat (if y=0 then st.old else st.new)),.told [((((whole (if y=0 then st.old else st.new)).take qq.toNat).drop p.toNat).filter fun x=> !(x.look.getD kk.toNat 0==vv.toNat)).length]))=r->bS st (.paint y p qq kk vv)=r:=fun r e=>by rw[<-e];rfl
 refine⟨_,(aC (eW (PW.pt (KH (qw (rC (bL qg (hr.mono (by decide)) (aj (pv 1) aA)) (fun _=>rfl))) (KH (qw (CL qH xB b9 (pv 4) (bW G.E7))) (Hs (qw (CL qH qH b9 (pv 5) (bW G.MR))))))) (aJ (bF (c_ (aj (bW G.j6) aA)))) cN)
   (aC (cR (i:=6) gF.nd rfl (by first|exact bz rfl|exact bB rfl) (eE jD (pv 0) (hr.mono (by decide)) (aj (pv 1) aA)))
   (aC (eW (qw (Og qH xB qH b9 (pv 2) (pv 3) (cS (r:=l5 K) cB (by rfl) G.iN dN (aj (pv 6) aA)))) (aJ (bF (c_ (aj (bW G.zq) aA)))) cN)
   (aC (Aj (i:=7) (own:=[("letter",9)]) rfl gF.nd rfl rfl (DY rfl rfl rfl rfl) (fE (k9 (r:=Jq K) qP (pv 6) (k8 (pv 2)) (k8 (pv 3)))) (gR (by rfl)) (fun _ _ _ _ _=>(cJ (i:=9) gF.nd rfl (by first|exact bz rfl|exact bB rfl))) (fun _ _ _ _ _=>(VB (dB Vv (eX (r:=Gi K) rD (eX (r:=Gi K) rD (pv 9) b9 (fun _ _=>rfl)) (pv 4) (fun _ _=>rfl)) (pv 5) (dZ _)))) (fun _ _ _ _ _=>(pv 9)))
   (aC (cR (i:=8) gF.nd rfl (by first|exact bz rfl|exact bB rfl) (jx uh (jx uh (k9 (r:=Jq K) qP (pv 6) sC (k8 (pv 2))) (vm (own:=[("letter",9)]) rfl gF.nd (fE (k9 (r:=Jq K) qP (pv 6) (k8 (pv 2)) (k8 (pv 3)))) (gR (by rfl)) (fun _ _ _ _ _=>(cJ (i:=9) gF.nd rfl (by first|exact bz rfl|exact bB rfl))) (fun _ _ _ _ _=>jA) (fun _ _ _ _ _=>(bL j8 (hr.mono (by decide)) (aj (pv 9) (aj (pv 4) (aj (pv 5) aA))))))) (k9 (r:=Jq K) qP (pv 6) (k8 (pv 3)) sC)))
   (aC (eW (dB jM (pv 1) (bW G.K5) (dZ _)) (aJ (eZ (eE dg (pv 0) (hr.mono (by decide)) (aj (pv 8) (aj (bC (K:=K) rfl (pv 0) rfl) aA))))) (aJ (eZ (eE dg (pv 0) (hr.mono (by decide)) (aj (bC (K:=K) rfl (pv 0) rfl) (aj (pv 8) aA))))))
   (aJ (bF (c_ (aj (cS (r:=l5 K) cB (by rfl) G.iN dN (aj (pv 7) aA)) aA)))))))))),?_⟩
 refine⟨_,rfl,D,_,_,hO,.cons (.int _) .nil,⟨y,rfl,rfl⟩,fun vb H1 s1 d1=>?_⟩
 obtain rfl:=d1.zg
 refine⟨_,rfl,?_⟩
 dsimp only
 have AJ:=hK.mono s1
 have o1:=hO.mono s1
 cases hw:bX y 0 1 with
 |false=>exact kO rfl (kO rfl ⟨by show 1<=aK;decide,fun q hq=>o.fin o1 (sx s1) (lQ (st,.refused 2) (by rw[hw];exact aG rfl)) AJ hq rfl⟩)
 |true=>
  refine iL rfl ?_
  refine sG vy (yE rfl) vy ⟨_,rfl,?_⟩
  dsimp only
  have ek:(decide ((0:Int)<=kk)&&decide (kk<4))=bX kk 0 3:=by
   unfold bX
   congr 1
   exact fH.mpr (by omega)
  rw[ek]
  cases hk:bX kk 0 3 with
  |false=>exact kO rfl (kO rfl ⟨by show 1<=aK;decide,fun q hq=>o.fin o1 (sx s1) (lQ (st,.refused 2) (by rw[hw,hk];exact aG rfl)) AJ hq rfl⟩)
  |true=>
   refine iL rfl ?_
   refine sG vy (yE rfl) vy ⟨_,rfl,?_⟩
   dsimp only
   have ev:(decide ((0:Int)<=vv)&&decide (vv<=99))=bX vv 0 99:=rfl
   rw[ev]
   cases hv:bX vv 0 99 with
   |false=>exact kO rfl ⟨by show 1<=aK;decide,fun q hq=>o.fin o1 (sx s1) (lQ (st,.refused 2) (by rw[hw,hk,hv];exact aG rfl)) AJ hq rfl⟩
   |true=>
    refine iL rfl ?_
    have hkb:0<=kk/\kk<=3:=by
     unfold bX at hk
     rw[bx,aM,aM]at hk
     exact hk
    have hvb:0<=vv/\vv<=99:=by
     unfold bX at hv
     rw[bx,aM,aM]at hv
     exact hv
    obtain⟨k,rfl⟩:∃k:Nat,kk=(k:Int):=⟨kk.toNat,by omega⟩
    obtain⟨v,rfl⟩:∃v:Nat,vv=(v:Int):=⟨vv.toNat,by omega⟩
    have hk4:k<4:=by omega
    obtain⟨dx,v1,v2,v3,h0,t1,t2,t3⟩:=AJ.ex
    refine⟨_,rfl,d,dx,_,rfl,h0,rfl,_,rfl,D,d,st,y,rfl,AJ,fun vt tt=>?_⟩
    generalize aoK:(if y=0 then st.old else st.new)=vH at tt lQ
    obtain⟨a,xs,rfl,h1,h2⟩:=tt.dx.bV
    have lx:xs.length=size vH:=by rw[h2.length,aa,j9];rfl
    refine Oh vy (yE rfl) (yE rfl) (fun _ r=>⟨_,rfl,a,xs,rfl,.inl (cG.of (aq _ _ h1)),r⟩) ⟨_,rfl,?_⟩
    dsimp only
    have eb:(decide ((0:Int)<=p)&&(decide (p<qq)&&decide (qq<=((xs.length:Nat):Int))))=jy p qq (size vH):=by rw[lx];rfl
    rw[eb]
    have e0:¬(bX y 0 1&&(bX (k:Int) 0 3&&bX (v:Int) 0 99))=false:=by rw[hw,hk,hv];decide
    cases hb:jy p qq (size vH)with
    |false=>exact kO rfl ⟨by show 1<=aK;decide,fun q hq=>o.fin o1 (sx s1) (lQ (st,.refused 1) (by rw[aD e0,hb];exact aG rfl)) AJ hq rfl⟩
    |true=>
     have hbp:0<=p/\p<qq/\qq<=(size vH:Int):=by
      unfold jy at hb
      rw[bx,bx,aM,aM,aM]at hb
      exact hb
     refine iL rfl ?_
     obtain⟨n,rfl⟩:∃n:Nat,p=(n:Int):=⟨p.toNat,by omega⟩
     obtain⟨m,rfl⟩:∃m:Nat,qq=(m:Int):=⟨qq.toNat,by omega⟩
     have hmx:m<=xs.length:=by rw[lx];omega
     have hnm:n<m:=by omega
     have lxs:xs.length<=121:=by rw[lx];unfold size;have:=tt.len;omega
     have lw:(whole vH).length=xs.length:=by rw[h2.length,aa]
     have aj9:((whole vH).take m).drop n=((whole vH).drop n).take (m-n):=by rw[List.drop_take]
     refine⟨_,rfl,_,rfl,_,rfl,_,rfl,_,rfl,a,_,rfl,cG.of (aq _ _ h1),fun x1 GG=>?_⟩
     rw[aaI xs n m (qM hnm) hmx]
     have e1:=aQ.new (o:=.lst ((xs.drop n).take (m-n))) GG
     have oe1:=o1.mono e1
     have aeZ:∀{H2:Hp},aQ H1 H2->bN K (hd H2 D) ((xs.drop n).take (m-n)) ((((whole vH).take m).drop n).map gS):=fun{H2}s2=>by
      rw[aj9,AR,AS]
      exact bN.tak _ (bN.dro _ ((aU s2).EG h2))
     have okm:Bb (((whole vH).take m).drop n):=fun x hx=>tt.ok x (lX (wC hx))
     have lm:((xs.drop n).take (m-n)).length<=121:=by rw[a_,b7];omega
     have lmw:(((whole vH).take m).drop n).length<=121:=by rw[b7,a_];omega
     refine⟨x1,rfl,⟨_,cG.of aE⟩,fun L hL=>?_⟩
     refine T4 (K:=K) (D:=D) (g:=UT k v) hL oe1 (cG.of aE) (aeZ e1) (nI (by rw[aa];omega)) (fun _=>rfl) (fun i x dd H' D' Ny Nn hdd ss oo hx sd ky kn=>?_) fun H2 s2 acA=>?_
     ·obtain⟨z,ez,rfl⟩:=mT hdd
      have kz:=okm z (aL ez)
      obtain⟨za,zb,rfl,u1,u2⟩:=uu hx
      rw[Oj kz hk4]at ky kn
      refine⟨_,rfl,za,_,1,_,rfl,rfl,aq.EF u1,rfl,_,rfl,zb,_,_,_,rfl,rfl,aq.EF u2,NY (getD_some (d:=0) (by rw[kz.four];exact hk4)),_,rfl,rfl,_,rfl,?_⟩
      by_cases e:z.look.getD k 0=v
      ·exact iL (by rw[aI (by rw[e];rfl)];rfl) (kn (aG e) _ (aQ.refl _))
      ·exact kO (by rw[show decide (vn (z.look.getD k 0)=V.int (v:Int))=false from aH (fun q=>e (pD q))];rfl) ⟨_,rfl,ky _ (aD e) _ _ (aQ.refl _) hx⟩
     ·obtain⟨oL,oxs,eoL,oz1,oz2⟩:=acA.bV
      cases eoL
      have ahk:oxs.length=((((whole vH).take m).drop n).filter fun x=> !(x.look.getD k 0==v)).length:=by rw[oz2.length,L6 hk4 okm]
      have ZL:=e1.trans s2
      have o2:=o1.mono ZL
      refine⟨_,rfl,_,rfl,_,rfl,a,_,rfl,cG.of (ZL _ _ (aq _ _ h1)),fun x2 Hj=>?_⟩
      rw[US xs n (by omega)]
      have e2:=aQ.new (o:=.lst (xs.take n)) Hj
      have s03:=ZL.trans e2
      refine⟨_,rfl,_,rfl,_,rfl,_,rfl,_,rfl,a,_,rfl,cG.of (s03 _ _ (aq _ _ h1)),fun x3 hx3=>?_⟩
      rw[aaI xs n m (qM hnm) hmx]
      have e3:=aQ.new (o:=.lst ((xs.drop n).take (m-n))) hx3
      have s04:=s03.trans e3
      have o4:=o1.mono s04
      refine⟨x3,rfl,⟨_,cG.of aE⟩,fun L2 hL2=>?_⟩
      refine sU (R:=fun G v(x:bZ)=>Dx K G v (gS x)) (fun G G' v m s h=>s.dp h) (K:=K) (D:=D) (out:=(((whole vH).take m).drop n).map fun x=>An x k v) hL2 o4 (cG.of aE) (by have q:=(aeZ s04).length;rw[aa]at q;rw[aa];exact q) (nI (by rw[aa];omega)) (fun _=>rfl)
       (fun i x mm H' D' Qe hi ho ss oo sd kc=>?_) fun H5 ac s5 z5 al5=>?_
      ·obtain⟨z,ez,rfl⟩:=mT ho
       have kz:=okm z (aL ez)
       obtain⟨dd,ed,hz⟩:=(aeZ s04).get hi
       obtain⟨z',ez',rfl⟩:=mT ed
       rw[ez]at ez'
       cases ez'
       exact⟨_,rfl,_,rfl,_,rfl,D',_,_,oo,.cons (sd.dp hz) (.cons (.int _) (.cons (.int _) .nil)),⟨z,k,v,rfl,kz,hk4,rfl⟩,kc⟩
      ·have dac:=al5.dx
       have lac:ac.length<=121:=by rw[dac.length,aa,aa];exact lmw
       have s05:=s04.trans s5
       refine⟨x2,L2,_,_,rfl,rfl,s5 _ _ (e3 _ _ aE),z5,nI (by rw[a_];omega),fun x4 hx4=>?_⟩
       have e4:=aQ.new (o:=.lst (xs.take n++ac)) hx4
       have s06:=s05.trans e4
       refine⟨_,rfl,_,rfl,_,rfl,a,_,rfl,cG.of (s06 _ _ (aq _ _ h1)),fun x5 hx5=>?_⟩
       rw[L1 xs m hmx]
       have e5:=aQ.new (o:=.lst (xs.drop m)) hx5
       have s07:=s06.trans e5
       refine⟨x4,x5,_,_,rfl,rfl,e5 _ _ aE,aE,nI (by rw[au,a_,b7];omega),fun x6 hx6=>?_⟩
       have e6:=aQ.new (o:=.lst (xs.take n++ac++xs.drop m)) hx6
       have s08:=s07.trans e6
       have o7:=o1.mono s07
       generalize hH8:upd (upd (upd H5 x4 (.lst (xs.take n++ac))) x5 (.lst (xs.drop m))) x6 (.lst (xs.take n++ac++xs.drop m))=H8 at s08 e6⊢
       have z8:H8 x6=some (.lst (xs.take n++ac++xs.drop m)):=by rw[<-hH8,aE]
       have s58:aQ H5 H8:=e4.trans (e5.trans e6)
       have o8:=o1.mono s08
       have ll:(whole vH).take n++((((whole vH).take m).drop n).map (fun x=>An x k v)++(whole vH).drop m)=whole (Nv n m k v vH):=by
        unfold Nv
        rw[DB]
        ·rfl
        ·rw[au,au,aa,b7,a_,a_,b7]
         omega
       have tp:qz K (hd H8 D) (.ref x6) (Nv n m k v vH):=by
        refine⟨?_,?_,?_⟩
        ·rw[<-ll]
         refine .lst (iY z8 (o7.fresh hx6)) ?_
         rw[gO]
         show bN K (hd H8 D) (xs.take n++(ac++xs.drop m)) (((whole vH).take n++((((whole vH).take m).drop n).map (fun x=>An x k v)++(whole vH).drop m)).map gS)
         rw[bu,bu,AR (f:=gS) (l:=whole vH) (i:=n),AS (f:=gS) (l:=whole vH) (i:=m)]
         exact bN.app (bN.tak n ((aU s08).EG h2)) (bN.app ((aU s58).EG dac) (bN.dro m ((aU s08).EG h2)))
        ·rw[<-ll]
         intro x hx
         rcases aX.mp hx with hx|hx
         ·exact tt.ok x (lX hx)
         ·rcases aX.mp hx with hx|hx
          ·obtain⟨z,hz,rfl⟩:=bI.mp hx
           have kz:=okm z hz
           exact⟨by unfold An;show(z.look.set k v).length=4;rw[xo];exact kz.four,kz.tags⟩
          ·exact tt.ok x (wC hx)
        ·have q:=congrArg AD ll
         rw[j9,au,au,aa,b7,a_,a_,b7]at q
         omega
       have h08:=s08 _ _ h0
       have n6:x6≠d:=fun e=>by rw[e,s07 _ _ h0]at hx6;cases hx6
       have noL:L≠d:=Ie oz1 hD
       have oz8:H8 L=some (.lst oxs):=s58 _ _ (s5 _ _ (e3 _ _ (e2 _ _ (aq _ _ oz1))))
       have s18:=s1.trans s08
       refine⟨_,rfl,rfl,_,rfl,?_⟩
       by_cases hy:y=0
       ·refine kO (aI (by rw[hy])) ?_
        refine⟨_,rfl,d,dx,_,rfl,h08,rfl,_,rfl,_,rfl,d,C,dx,_,_,rfl,h08,T.cl,T.no _ (by decide),rfl,d,dx,_,_,_,_,_,rfl,h08,?_⟩
        refine⟨_,rfl,L,oxs,rfl,.inl (cG.of (by rw[bY noL];exact oz8)),by show 1<=aK;decide,fun q hq=>?_⟩
        refine o.fin o8.upd ((sx s18).trans JH) (lQ (Jl st (Nv n m k v vH),.told [((((whole vH).take m).drop n).filter fun x=> !(x.look.getD k 0==v)).length]) (by rw[aD e0,hb,aD (by decide),aG hy];rfl)) (gG.hold hD tp (t2.mono (aU s08))) hq ?_
        rw[ahk]
        rfl
       ·refine iL (aH fun e=>hy (V.int.inj e)) ?_
        refine⟨_,rfl,d,dx,_,rfl,h08,rfl,_,rfl,d,C,dx,_,_,rfl,h08,T.cl,T.no _ (by decide),rfl,_,rfl,d,dx,_,_,_,_,_,rfl,h08,?_⟩
        refine⟨_,rfl,L,oxs,rfl,.inl (cG.of (by rw[bY noL];exact oz8)),by show 1<=aK;decide,fun q hq=>?_⟩
        refine o.fin o8.upd ((sx s18).trans JH) (lQ (Cy st (Nv n m k v vH),.told [((((whole vH).take m).drop n).filter fun x=> !(x.look.getD k 0==v)).length]) (by rw[aD e0,hb,aD (by decide),aD hy];rfl)) (gG.hold hD (t1.mono (aU s08)) tp) hq ?_
        rw[ahk]
        rfl
end
def tG(st:Vk)(l:List Int):Int:=match st.held with
 |none=>-4
 |some wk=>if acU wk l=false then -2 else 0
section
variable{P:bD}{w:cC}{K:ah}{mg:cM->Option ao}{base:cY}{CP CH CC C:ak}
theorem PV(G:fT K mg)(T:iO K C iQ)(Df:E1 K mg C "Desk" "Desk.__init__" qX ["self"])(jC:bG P w K mg base "plain_text" ["signs"] 2 (qC K wQ)):t8 P w K mg base C "Desk" ["self"] 3 (fun vs H Q _=>∃D x dx,vs=[.ref x]/\Od H D/\D x=false/\H x=some (.ins C dx [])/\∀H',j7 x H H'->gG K CP CH CC C H' (ad D x) x tW->Q .jX H'):=by
 refine Df.ok HE (fun vs H Q E⟨_,_,_,e,_⟩=>by rw[e];rfl) fun f iB A outer s H vs Q E hr h=>?_
 obtain⟨D,x,dx,rfl,hO,hDx,hx,k⟩:=h
 have oD:Od H (ad D x):=hO.ad hx
 have ew:([]:List Nat).map cO++[cO 10]=whole emptyDoc:=rfl
 refine⟨_,(aC (iV (pv 0) (bL jC (hr.mono (by decide)) (aj (c_ aA) aA)) rfl)
   (aC (iV (pv 0) (bL jC (hr.mono (by decide)) (aj (c_ aA) aA)) rfl)
   (aJ (iV (pv 0) xx rfl)))),?_⟩
 refine⟨bE _,fun l1 hl1=>?_⟩
 have e1:=aQ.new (o:=.lst []) hl1
 refine⟨ad D x,_,_,oD.mono e1,.cons (k_ hl1 oD .nil) .nil,⟨[],rfl,bE _,rfl⟩,fun w1 H1 s1 d1=>?_⟩
 have GG:=(e1.trans s1) _ _ hx
 have o1:=oD.mono (e1.trans s1)
 refine⟨_,rfl,x,C,dx,_,rfl,GG,T.cl,T.no _ (by decide),by simp,?_⟩
 have eu:∀{J:Hp}{o:HO},hd (upd J x o) (ad D x)=hd J (ad D x):=Jw
 refine⟨bE _,fun l2 hl2=>?_⟩
 have e2:=aQ.new (o:=.lst []) hl2
 have o1u:Od (upd H1 x (.ins C dx (gM "old_text" w1 []))) (ad D x):=o1.upd
 refine⟨ad D x,_,_,o1u.mono e2,.cons (k_ hl2 o1u .nil) .nil,⟨[],rfl,bE _,rfl⟩,fun w2 H2 s2 d2=>?_⟩
 have Hj:=(e2.trans s2) _ _ (aE (H:=H1) (a:=x) (o:=.ins C dx (gM "old_text" w1 [])))
 refine⟨_,rfl,x,C,dx,_,rfl,Hj,T.cl,T.no _ (by decide),by show 1<1000;decide,?_⟩
 refine⟨_,rfl,x,C,dx,_,rfl,aE,T.cl,T.no _ (by decide),by show 2<1000;decide,?_⟩
 rw[l8]
 have d1':Dx K (hd H2 (ad D x)) w1 (l6 (whole emptyDoc)):=(aU (e2.trans s2)).dp (by rw[eu];exact d1)
 refine k _ (((sx (e1.trans s1)).trans JH).trans ((sx (e2.trans s2)).trans JH)) (gG.hold fX ⟨d1',G0 [],bE _⟩ ⟨d2,G0 [],bE _⟩)
theorem Xv(g:Nat)(lo ln:List bZ):((Dy g lo ln).getD ((Dy g lo ln).length-1) fZ).eF=0:=by
 unfold Dy xN
 rw[au,cZ,oJ,Bq]
 rfl
theorem Ih(G:fT K mg)(T:iO K C iQ)(TC:iO K CC tF)(Df:iZ K C "compare_texts" "Desk.compare_texts" lE ["self","grain","least"])(nR:bG P w K mg base "is_grain" ["number"] 1 (qC K Be))(FA:bG P w K mg base "compared" ["old_text","new_text","grain","least"] 8 (LO K CP CH CC)):dG P w K mg base C "compare_texts" ["self","grain","least"] 9 (sp2 K CP CH CC C .compare):=by
 refine Df.ok Ci (fun vs H Q E⟨_,_,_,_,_,e,_⟩=>by rw[e];rfl) fun f iB A outer s H vs Q E hr h=>?_
 obtain⟨D,d,st,y,z,rfl,hO,hD,hK,o⟩:=h
 have lQ:∀r,(if(bX y 0 1&&bX z 0 200)=false then(st,mR 2)else({st with held:=some (oz y.toNat z.toNat st.old st.new)},.told [(oz y.toNat z.toNat st.old st.new).kinds.length,Qh y.toNat st.old st.new]))=r->bS st (.compare y z)=r:=fun r e=>by rw[<-e];rfl
 refine⟨_,(aC (eW (PW.pt (KH (qw (rC (bL nR (hr.mono (by decide)) (aj (pv 1) aA)) (fun _=>rfl))) (Hs (qw (CL qH qH b9 (pv 2) (bW G.MS)))))) (aJ (bF (c_ (aj (bW G.j6) aA)))) cN)
   (aC (iV (pv 0) (bL FA (hr.mono (by decide)) (aj (bC (K:=K) rfl (pv 0) rfl) (aj (bC (K:=K) rfl (pv 0) rfl) (aj (pv 1) (aj (pv 2) aA))))) rfl)
   (aJ (bF (c_ (aj (cS (r:=l5 K) cB (by rfl) G.iN dN (aj (bC (K:=K) rfl (bC (K:=K) rfl (pv 0) rfl) rfl) aA)) (aj (bC (K:=K) rfl (bC (K:=K) rfl (pv 0) rfl) rfl) aA))))))),?_⟩
 refine⟨_,rfl,D,_,_,hO,.cons (.int _) .nil,⟨y,rfl,rfl⟩,fun vb H1 s1 d1=>?_⟩
 obtain rfl:=d1.zg
 refine⟨_,rfl,?_⟩
 dsimp only
 have AJ:=hK.mono s1
 have o1:=hO.mono s1
 cases hw:bX y 0 1 with
 |false=>exact kO rfl (kO rfl ⟨by show 1<=aK;decide,fun q hq=>o.fin o1 (sx s1) (lQ (st,.refused 2) (by rw[hw];exact aG rfl)) AJ hq rfl⟩)
 |true=>
  refine iL rfl ?_
  refine sG vy (yE rfl) vy ⟨_,rfl,?_⟩
  dsimp only
  have el:(decide ((0:Int)<=z)&&decide (z<=200))=bX z 0 200:=rfl
  rw[el]
  cases hl:bX z 0 200 with
  |false=>exact kO rfl ⟨by show 1<=aK;decide,fun q hq=>o.fin o1 (sx s1) (lQ (st,.refused 2) (by rw[hw,hl];exact aG rfl)) AJ hq rfl⟩
  |true=>
   refine iL rfl ?_
   have hlb:0<=z/\z<=200:=by
    unfold bX at hl
    rw[bx,aM,aM]at hl
    exact hl
   obtain⟨g,rfl⟩:∃g:Nat,y=(g:Int):=⟨y.toNat,by have:=DC hw;omega⟩
   obtain⟨least,rfl⟩:∃n:Nat,z=(n:Int):=⟨z.toNat,by omega⟩
   have hg:g<=1:=by have:=DC hw;omega
   obtain⟨dx,v1,v2,v3,h0,t1,t2,t3⟩:=AJ.ex
   have n1:=t1.len
   have n2:=t2.len
   have w1:=j9 st.old
   have w2:=j9 st.new
   refine⟨_,rfl,d,C,dx,_,_,rfl,h0,T.cl,T.no _ (by decide),rfl,_,rfl,d,C,dx,_,_,rfl,h0,T.cl,T.no _ (by decide),rfl,_,rfl,_,rfl,D,v1,v2,whole st.old,whole st.new,g,least,rfl,o1,⟨t1.dx,t2.dx,t1.ok,t2.ok,by omega,by omega,by omega,by omega⟩,hg,fun vc H2 s2 hc=>?_⟩
   have h02:=s2 _ _ h0
   refine⟨_,rfl,d,C,dx,_,rfl,h02,T.cl,T.no _ (by decide),by show 3<1000;decide,?_⟩
   obtain⟨m1,m2,m3,m4⟩:=V2 (g:=g) t1.ok t2.ok (by omega) (by omega) (by omega) (by omega)
   have m5:=I_ m3 m2 least
   have KR:=R8 g least (whole st.old) (whole st.new)
   rw[yV,yV]at KR hc
   have lf:=Xv g (whole st.old) (whole st.new)
   generalize Dy g (whole st.old) (whole st.new)=ps at *
   generalize GQ ps least=cs at *
   obtain⟨ca,Ft,u1,u2,u4,u5,rfl,c0,c1,c2,c3,c4⟩:=hc.ex
   obtain⟨cha,chx,rfl,g1,g2⟩:=c2.ex
   have lch:=g2.length
   have nca:=Ie c0 hD
   have akb:=Ie g1 hD
   have eH:hd (upd H2 d (.ins C dx (dkF v1 v2 (.ref ca)))) D=hd H2 D:=qk hD
   have hD3:gG K CP CH CC C (upd H2 d (.ins C dx (dkF v1 v2 (.ref ca)))) D d {st with held:=some (oz g least st.old st.new)}:=by
    refine⟨dx,v1,v2,.ref ca,aE,?_,?_,?_⟩
    ·rw[eH];exact t1.mono (aU s2)
    ·rw[eH];exact t2.mono (aU s2)
    ·rw[eH]
     exact⟨ps,cs,_,hc,KR,m2,m3,m4,by omega,lf,m5⟩
   refine⟨_,rfl,d,C,dx,_,_,rfl,aE,T.cl,T.no _ (by decide),rfl,ca,CC,Ft,_,_,rfl,by rw[bY nca];exact aq _ _ c0,TC.cl,TC.no _ (by decide),rfl,cha,chx,rfl,.inl (cG.of (by rw[bY akb];exact aq _ _ g1)),_,rfl,d,C,dx,_,_,rfl,aE,T.cl,T.no _ (by decide),rfl,ca,CC,Ft,_,_,rfl,by rw[bY nca];exact aq _ _ c0,TC.cl,TC.no _ (by decide),rfl,by show 2<=aK;decide,fun q hq=>?_⟩
   have hs:bS st (.compare (g:Int) (least:Int))=({st with held:=some (oz g least st.old st.new)},.told [(oz g least st.old st.new).kinds.length,Qh g st.old st.new]):=lQ _ (by rw[hw,hl,aD (by decide)];rfl)
   refine o.fin (o1.mono s2).upd ((sx (s1.trans s2)).trans JH) hs hD3 hq ?_
   rw[V7 KR,lch]
   rfl
def ae0(K:ah)(CP CH CC C:ak):Sp:=fun vs H Q _=>∃D d st v l,vs=[.ref d,v]/\Od H D/\gG K CP CH CC C H D d st/\Dx K (hd H D) v (Cm l)/\l.length<=2000/\∀H',aQ H H'->Q (.int (tG st l)) H'
theorem G2(G:fT K mg)(T:iO K C iQ)(TC:iO K CC tF)(Df:iZ K C "refusal_of_set" "Desk.refusal_of_set" kM ["self","numbers"]):dG P w K mg base C "refusal_of_set" ["self","numbers"] 1 (ae0 K CP CH CC C):=by
 refine Df.ok j0 (fun vs H Q E⟨_,_,_,_,_,e,_⟩=>by rw[e];rfl) fun f iB A outer s H vs Q E hr h=>?_
 obtain⟨D,d,st,v,l,rfl,hO,hK,dl,nl,k⟩:=h
 obtain⟨dx,v1,v2,v3,h0,t1,t2,t3⟩:=hK.ex
 obtain⟨sb,rfl,zs⟩:=qf dl
 refine⟨_,(aC (eW (ue (CF (bC (K:=K) rfl (pv 0) rfl))) (aJ (bF (bW G.u7))) cN)
   (aC (cR (i:=2) j0.nd rfl (by first|exact bz rfl|exact bB rfl) (cS (r:=l5 K) cB (by rfl) G.iN dN (aj (bC (K:=K) rfl (bC (K:=K) rfl (pv 0) rfl) rfl) aA)))
   (aC (eW (qw (rC (cS (r:=af0 K) (Y0 rfl) (by rfl) G.ac_ boot_all (aj (vm (own:=[("number",3)]) rfl j0.nd (fE (pv 1)) (gR (by rfl)) (fun _ _ _ _ _=>(cJ (i:=3) j0.nd rfl (by first|exact bz rfl|exact bB rfl))) (fun _ _ _ _ _=>jA) (fun _ _ _ _ _=>(CK qH qH b9 (pv 3) (pv 2)))) aA)) (fun _=>rfl))) (aJ (bF (bW G.j6))) cN)
   (aJ (bF b9))))),?_⟩
 refine⟨_,rfl,d,C,dx,_,_,rfl,h0,T.cl,T.no _ (by decide),rfl,_,rfl,?_⟩
 unfold tG at k
 cases hh:st.held with
 |none=>
  rw[hh]at t3 k
  have e3:v3=.jX:=t3
  subst e3
  exact kO rfl (k _ (aQ.refl _))
 |some wk=>
  rw[hh]at t3 k
  dsimp only at k
  obtain⟨ps,cs,cost,c1,r1,kR,dz,n1,n2,_,n3⟩:=t3
  obtain⟨ca,Ft,u1,u2,u4,u5,rfl,c0,c11,c12,c13,c14⟩:=c1.ex
  obtain⟨cha,chx,rfl,g1,g2⟩:=c12.ex
  have lch:=g2.length
  refine iL rfl ?_
  refine⟨_,rfl,d,C,dx,_,_,rfl,h0,T.cl,T.no _ (by decide),rfl,ca,CC,Ft,_,_,rfl,aq _ _ c0,TC.cl,TC.no _ (by decide),rfl,cha,chx,rfl,.inl (cG.of (aq _ _ g1)),?_⟩
  refine⟨_,rfl,sb,rfl,⟨_,cG.of (aq _ _ zs)⟩,fun L hL=>?_⟩
  refine sU (R:=fun G v(b:Bool)=>Dx K G v (.bool b)) (fun G G' v m s h=>s.dp h) (K:=K) (D:=D) (out:=l.map fun z=>decide (1<=z)&&decide (z<=((chx.length:Nat):Int))) hL hO (cG.of (aq _ _ zs)) (by rw[aa,aa]) (nI (by rw[aa];omega)) (fun _=>rfl)
   (fun i x b H' D' Qe hi ho ss oo sd kc=>?_) fun H1 ac s1 h6 h7=>?_
  ·obtain⟨z,ez,rfl⟩:=mT hi
   obtain⟨z',ez',rfl⟩:=mT ho
   rw[ez]at ez'
   cases ez'
   exact sG vy (yE rfl) (yE rfl) (kc _ _ (aQ.refl _) (.bl _))
  ·have e2:=K7 h7.dx
   subst e2
   refine⟨L,_,rfl,cG.of h6,_,rfl,?_⟩
   dsimp only
   have ea:(l.map fun z=>decide (1<=z)&&decide (z<=((chx.length:Nat):Int))).all id=acU wk l:=by
    unfold acU
    rw[S0,lch,V7 r1]
    rfl
   rw[ea]
   cases hs:acU wk l with
   |false=>rw[hs]at k;exact kO rfl (k _ s1)
   |true=>rw[hs]at k;exact iL rfl (k _ s1)
end
theorem Xw{ps:List Pc}{cs:List Ch}{set:List Nat}(h1:1<=ps.length)(h2:(ps.getD (ps.length-1) fZ).eF=0):1<=(B7 ps cs set).length:=by
 have hm:ps.length-1∈(bK ps.length).filter (vh ps cs set):=by
  refine cP.mpr ⟨cH.mpr (by omega),?_⟩
  unfold vh
  rw[aD (by omega),aD (by omega)]
 unfold B7
 rw[aa]
 exact XM.mpr fun e=>by rw[e]at hm;simp at hm
theorem Je{wk:Mm}{l:List Int}(h:acU wk l=true):Cm l=dH (Cz l):=by
 unfold Cm dH Cz
 rw[aR]
 congr 1
 refine bA fun z hz=>?_
 have:=vI.mp h z hz
 rw[bx,aM,aM]at this
 show jS z=jS ((z.toNat:Nat):Int)
 congr 1
 omega
section
variable{P:bD}{w:cC}{K:ah}{mg:cM->Option ao}{base:cY}{CP CH CC C:ak}
theorem JJ(G:fT K mg)(T:iO K C iQ)(Df:iZ K C "tell_version" "Desk.tell_version" mq ["self","numbers"])(j_:dG P w K mg base C "refusal_of_set" ["self","numbers"] 1 (ae0 K CP CH CC C))(qh:bG P w K mg base "version_of" ["comparison","numbers"] 3 (spV K CP CH CC))(rT:bG P w K mg base "told_text" ["text"] 2 (qC K Dz)):dG P w K mg base C "tell_version" ["self","numbers"] 4 (Jd K CP CH CC C .version):=by
 refine Df.ok vB (fun vs H Q E⟨_,_,_,_,_,e,_⟩=>by rw[e];rfl) fun f iB A outer s H vs Q E hr h=>?_
 obtain⟨D,d,st,v,l,rfl,hO,hD,hK,dl,nl,o⟩:=h
 obtain⟨GD,v10,v20,v30,h00,_⟩:=hK.ex
 refine⟨_,(aC (cR (i:=2) vB.nd rfl (by first|exact bz rfl|exact bB rfl) (eE j_ (pv 0) (hr.mono (by decide)) (aj (pv 1) aA)))
   (aC (eW (dB xB (pv 2) b9 (dZ _)) (aJ (bF (c_ (aj (pv 2) aA)))) cN)
   (aJ (bF (bL rT (hr.mono (by decide)) (aj (bL qh (hr.mono (by decide)) (aj (bC (K:=K) rfl (pv 0) rfl) (aj (pv 1) aA))) aA)))))),?_⟩
 refine⟨_,rfl,d,GD,_,rfl,h00,rfl,_,rfl,D,d,st,v,l,rfl,hO,hK,dl,nl,fun H1 s1=>?_⟩
 have AJ:=hK.mono s1
 have o1:=hO.mono s1
 obtain⟨dx,v1,v2,v3,h0,t1,t2,t3⟩:=AJ.ex
 refine⟨_,rfl,_,_,rfl,rfl,_,rfl,?_⟩
 cases hh:st.held with
 |none=>
  have er:tG st l=-4:=by unfold tG;rw[hh]
  rw[er]
  have lQ:bS st (.version l)=(st,.refused 4):=by show mO st _=_;unfold mO;rw[hh]
  exact kO rfl ⟨_,rfl,by show 1<=aK;decide,fun q hq=>o.fin o1 (sx s1) lQ AJ hq rfl⟩
 |some wk=>
  rw[hh]at t3
  obtain⟨ps,cs,cost,c1,r1,kR,dz,n1,n2,n4,n3⟩:=t3
  cases hs:acU wk l with
  |false=>
   have er:tG st l=-2:=by unfold tG;rw[hh];dsimp only;rw[aG hs]
   rw[er]
   have lQ:bS st (.version l)=(st,.refused 2):=by show mO st _=_;unfold mO;rw[hh];dsimp only;rw[aG hs]
   exact kO rfl ⟨_,rfl,by show 1<=aK;decide,fun q hq=>o.fin o1 (sx s1) lQ AJ hq rfl⟩
  |true=>
   have er:tG st l=0:=by unfold tG;rw[hh];dsimp only;rw[aD (by rw[hs];decide)]
   rw[er]
   refine iL rfl ?_
   obtain⟨ca,Ft,u1,u2,u4,u5,rfl,_⟩:=c1.ex
   refine⟨_,rfl,d,C,dx,_,_,rfl,h0,T.cl,T.no _ (by decide),rfl,_,rfl,D,_,v,ps,cs,cost,Cz l,rfl,o1,c1,r1.sys,kR,dz,by omega,by rw[<-Je hs];exact(aU s1).dp dl,by unfold Cz;rw[aa];exact nl,fun vt H2 s2 d2=>?_⟩
   have lv:=N8 ps cs (Cz l)
   refine⟨D,_,_,o1.mono s2,.cons d2 .nil,⟨_,rfl,LJ kR cs (Cz l),by omega,rfl⟩,fun v3 H3 s3 d3=>?_⟩
   refine o.told (s1.trans (s2.trans s3)) ?_ hK d3 (by rw[br,Ed (LJ kR cs (Cz l))];omega)
   show mO st _=_
   unfold mO
   rw[hh]
   dsimp only
   rw[aD (by rw[hs];decide),r1.version dz]
   rfl
theorem JK(G:fT K mg)(T:iO K C iQ)(Df:iZ K C "take_version" "Desk.take_version" mw ["self","numbers"])(j_:dG P w K mg base C "refusal_of_set" ["self","numbers"] 1 (ae0 K CP CH CC C))(qh:bG P w K mg base "version_of" ["comparison","numbers"] 3 (spV K CP CH CC))(jR:bG P w K mg base "inner_letters" ["text"] 1 (qC K vN))(dg:dG P w K mg base C "hold_texts" ["self","old_text","new_text"] 1 (BC C)):dG P w K mg base C "take_version" ["self","numbers"] 4 (Jd K CP CH CC C .take):=by
 refine Df.ok pB (fun vs H Q E⟨_,_,_,_,_,e,_⟩=>by rw[e];rfl) fun f iB A outer s H vs Q E hr h=>?_
 obtain⟨D,d,st,v,l,rfl,hO,hD,hK,dl,nl,o⟩:=h
 obtain⟨GD,v10,v20,v30,h00,_⟩:=hK.ex
 refine⟨_,(aC (cR (i:=2) pB.nd rfl (by first|exact bz rfl|exact bB rfl) (eE j_ (pv 0) (hr.mono (by decide)) (aj (pv 1) aA)))
   (aC (eW (dB xB (pv 2) b9 (dZ _)) (aJ (bF (c_ (aj (pv 2) aA)))) cN)
   (aC (cR (i:=3) pB.nd rfl (by first|exact bz rfl|exact bB rfl) (bL qh (hr.mono (by decide)) (aj (bC (K:=K) rfl (pv 0) rfl) (aj (pv 1) aA))))
   (aC (eW (dB YB (cS (r:=l5 K) cB (by rfl) G.iN dN (aj (bL jR (hr.mono (by decide)) (aj (pv 3) aA)) aA)) (bW G.rF) (dZ _)) (aJ (bF (c_ (aj (bW G.K4) aA)))) cN)
   (aC (eZ (eE dg (pv 0) (hr.mono (by decide)) (aj (pv 3) (aj (bC (K:=K) rfl (pv 0) rfl) aA))))
   (aJ (bF (c_ (aj (cS (r:=l5 K) cB (by rfl) G.iN dN (aj (bC (K:=K) rfl (pv 0) rfl) aA)) aA))))))))),?_⟩
 refine⟨_,rfl,d,GD,_,rfl,h00,rfl,_,rfl,D,d,st,v,l,rfl,hO,hK,dl,nl,fun H1 s1=>?_⟩
 have AJ:=hK.mono s1
 have o1:=hO.mono s1
 obtain⟨dx,v1,v2,v3,h0,t1,t2,t3⟩:=AJ.ex
 refine⟨_,rfl,_,_,rfl,rfl,_,rfl,?_⟩
 cases hh:st.held with
 |none=>
  have er:tG st l=-4:=by unfold tG;rw[hh]
  rw[er]
  have lQ:bS st (.take l)=(st,.refused 4):=by show mO st _=_;unfold mO;rw[hh]
  exact kO rfl ⟨_,rfl,by show 1<=aK;decide,fun q hq=>o.fin o1 (sx s1) lQ AJ hq rfl⟩
 |some wk=>
  rw[hh]at t3
  obtain⟨ps,cs,cost,c1,r1,kR,dz,n1,n2,n4,n3⟩:=t3
  cases hs:acU wk l with
  |false=>
   have er:tG st l=-2:=by unfold tG;rw[hh];dsimp only;rw[aG hs]
   rw[er]
   have lQ:bS st (.take l)=(st,.refused 2):=by show mO st _=_;unfold mO;rw[hh];dsimp only;rw[aG hs]
   exact kO rfl ⟨_,rfl,by show 1<=aK;decide,fun q hq=>o.fin o1 (sx s1) lQ AJ hq rfl⟩
  |true=>
   have er:tG st l=0:=by unfold tG;rw[hh];dsimp only;rw[aD (by rw[hs];decide)]
   rw[er]
   refine iL rfl ?_
   obtain⟨ca,Ft,u1,u2,u4,u5,rfl,_⟩:=c1.ex
   have lQ:∀r,(if SN<(docOf (B7 ps cs (Cz l))).inner.length then(st,mR 5)else(Jl st (docOf (B7 ps cs (Cz l))),.told [size (docOf (B7 ps cs (Cz l)))]))=r->bS st (.take l)=r:=fun r e=>by
    rw[<-e]
    show mO st _=_
    unfold mO
    rw[hh]
    dsimp only
    rw[aD (by rw[hs];decide),r1.version dz]
   refine⟨_,rfl,d,C,dx,_,_,rfl,h0,T.cl,T.no _ (by decide),rfl,_,rfl,D,_,v,ps,cs,cost,Cz l,rfl,o1,c1,r1.sys,kR,dz,by omega,by rw[<-Je hs];exact(aU s1).dp dl,by unfold Cz;rw[aa];exact nl,fun vt H2 s2 d2=>?_⟩
   have lv:=N8 ps cs (Cz l)
   have lp:=Xw (cs:=cs) (set:=Cz l) n1 n4
   have kv:=LJ kR cs (Cz l)
   generalize B7 ps cs (Cz l)=ver at *
   have o2:=o1.mono s2
   have hK2:=AJ.mono s2
   refine⟨_,rfl,D,_,_,o2,.cons d2 .nil,⟨ver,rfl,by omega,rfl⟩,fun vi H3 s3 d3=>?_⟩
   obtain⟨ib,ixs,rfl,i1,i2⟩:=d3.bV
   have li:=i2.length
   rw[aa]at li
   have edl:(docOf ver).inner=ver.dropLast:=rfl
   refine⟨ib,ixs,rfl,.inl (cG.of (aq _ _ i1)),_,_,rfl,rfl,_,rfl,?_⟩
   have W2:=s1.trans (s2.trans s3)
   have o3:=hO.mono W2
   have hK3:=hK2.mono s3
   by_cases hm:SN<(docOf ver).inner.length
   ·refine kO (aI (by rw[edl]at hm;unfold SN at hm;omega)) ⟨by show 1<=aK;decide,fun q hq=>o.fin o3 (sx W2) (lQ (st,.refused 5) (aG hm)) hK3 hq rfl⟩
   ·refine iL (aH (by rw[edl]at hm;unfold SN at hm;omega)) ?_
    have h03:=(s2.trans s3) _ _ h0
    have tt:qz K (hd H3 D) vt (docOf ver):=⟨by rw[DB lp];exact(aU s3).dp d2,by rw[DB lp];exact kv,by unfold SN at hm;omega⟩
    obtain⟨ta,txs,rfl,z1,z2⟩:=Eh tt
    refine⟨_,rfl,d,dx,_,rfl,h03,rfl,_,rfl,_,rfl,d,C,dx,_,_,rfl,h03,T.cl,T.no _ (by decide),rfl,d,dx,_,_,_,_,_,rfl,h03,?_⟩
    refine⟨_,rfl,d,C,dx,_,_,rfl,aE,T.cl,T.no _ (by decide),rfl,ta,txs,rfl,.inl (cG.of (by rw[bY (Ie z1 hD)];exact aq _ _ z1)),by show 1<=aK;decide,fun q hq=>?_⟩
    refine o.fin o3.upd ((sx W2).trans JH) (lQ (Jl st (docOf ver),.told [size (docOf ver)]) (aD hm)) (gG.hold hD tt (t2.mono (aU (s2.trans s3)))) hq ?_
    rw[z2]
    rfl
end
def Row(ns:List Int)(p m:Nat):Prop:=ns[p]?=some ((m:Nat):Int)/\p+1+m<=ns.length/\m<=2000
def G3(ns:List Int)(p m:Nat):List Int:=(ns.drop (p+1)).take m
inductive Ol(ns:List Int):Int->Nat->SM->Nat->Prop
 |old (p m:Nat) (h:Row ns p m):Ol ns 0 p (.old (G3 ns p m)) (p+1+m)
 |new (p m:Nat) (h:Row ns p m):Ol ns 1 p (.new (G3 ns p m)) (p+1+m)
 |copy (p:Nat):Ol ns 2 p .copy p
 |put (p m:Nat) (x:Int) (hx:ns[p]?=some x) (h:Row ns (p+1) m):Ol ns 3 p (.put x (G3 ns (p+1) m)) (p+1+1+m)
 |cut (p:Nat) (x y:Int) (hx:(ns.drop p).take 2=[x,y]) (hl:p+2<=ns.length):Ol ns 4 p (.cut x y) (p+2)
 |paint (p:Nat) (x y z u v:Int) (hx:(ns.drop p).take 5=[x,y,z,u,v]) (hl:p+5<=ns.length):Ol ns 5 p (.paint x y z u v) (p+5)
 |swap (p:Nat):Ol ns 6 p .swap p
 |compare (p:Nat) (x y:Int) (hx:(ns.drop p).take 2=[x,y]) (hl:p+2<=ns.length):Ol ns 7 p (.compare x y) (p+2)
 |counts (p:Nat):Ol ns 8 p .counts p
 |row (p:Nat):Ol ns 9 p .row p
 |changes (p:Nat):Ol ns 10 p .changes p
 |version (p m:Nat) (h:Row ns p m):Ol ns 11 p (.version (G3 ns p m)) (p+1+m)
 |take (p m:Nat) (h:Row ns p m):Ol ns 12 p (.take (G3 ns p m)) (p+1+m)
 |text (p:Nat) (x:Int) (hx:ns[p]?=some x):Ol ns 13 p (.text x) (p+1)
 |tokens (p:Nat) (x y:Int) (hx:(ns.drop p).take 2=[x,y]) (hl:p+2<=ns.length):Ol ns 14 p (.tokens x y) (p+2)
 |distance (p:Nat) (x:Int) (hx:ns[p]?=some x):Ol ns 15 p (.distance x) (p+1)
theorem Aw{ns:List Int}{p m:Nat}(h:Row ns p m):(G3 ns p m).length<=2000:=by
 unfold G3
 rw[a_]
 have:=h.2.2
 omega
def aaK(d r:ak)(H H':Hp):Prop:=∀b o,H b=some o->b≠d->b≠r->H' b=some o
theorem hdX{H H':Hp}{D:ak->Bool}{r:ak}(s:j7 r H H')(hD:D r=true):aQ (hd H D) (hd H' D):=fun b o e=>by
 obtain⟨p1,p2⟩:=rE e
 exact iY (s b o p1 fun q=>by rw[q,hD]at p2;cases p2) p2
section
variable{P:bD}{w:cC}{K:ah}{mg:cM->Option ao}{base:cY}{CP CH CC C CR:ak}
def Fin(K:ah)(CP CH CC C CR:ak)(Q:VK)(H:Hp)(D:ak->Bool)(d r a:ak)(ns:List Int)(st:Vk)(k:SM)(p':Nat):Prop:=
 ∀v H',aaK d r H H'->gG K CP CH CC C H' D d (bS st k).1->Ib K CR H' r a ns p'->Dx K (hd H' D) v (Cm (dF (bS st k).2))->(dF (bS st k).2).length<=6000->Q v H'
theorem Fin.out{Q:VK}{H H1:Hp}{D:ak->Bool}{d r a:ak}{ns:List Int}{st:Vk}{k:SM}{p':Nat}(F:Fin K CP CH CC C CR Q H D d r a ns st k p')(hO:Od H D)(hd0:D d=true)(PX:D r=true)(ne:d≠r)(hK:gG K CP CH CC C H D d st)(s:j7 r H H1)(R1:Ib K CR H1 r a ns p'):Od H1 D/\gG K CP CH CC C H1 D d st/\Xs K CP CH CC C Q H1 D d st k:=by
 obtain⟨Jf,e1⟩:=R1.ex
 have o1:=Od.x hO s e1
 obtain⟨dx,v1,v2,v3,h0,t1,t2,t3⟩:=hK.ex
 have sd:=hdX s PX
 have h01:=s d _ h0 ne
 refine⟨o1,⟨dx,v1,v2,v3,h01,t1.mono sd,t2.mono sd,t3.mono sd⟩,fun v H2 s2 K2 d2 b2=>F v H2 (fun b o e n1 n2=>s2 b o (s b o e n2) n1) K2 ?_ d2 b2⟩
 exact⟨⟨Jf,s2 _ _ e1 (iG ne)⟩,aaF h01 s2 R1.sq⟩
def Om(K:ah)(CP CH CC C CR:ak)(own:Int->Bool):Sp:=fun vs H Q _=>∃D d r st a ns p z k p',vs=[.ref d,.int z,.ref r]/\Od H D/\D d=true/\D r=true/\d≠r/\gG K CP CH CC C H D d st/\Ib K CR H r a ns p/\ns.length<=100000/\Ol ns z p k p'/\(own z=true->Fin K CP CH CC C CR Q H D d r a ns st k p')/\(own z=false->Q .jX H)
theorem FD(G:fT K mg)(Df:jL K mg "answer_of_texts" oU ["desk","number","reader"])(Ii:dG P w K mg base C "set_old" ["self","signs"] 4 (Jd K CP CH CC C .old))(Ij:dG P w K mg base C "set_new" ["self","signs"] 4 (Jd K CP CH CC C .new))(FE:dG P w K mg base C "copy_old" ["self"] 2 (sp0 K CP CH CC C .copy))(DE:dG P w K mg base C "put_signs" ["self","p","signs"] 4 (adA K CP CH CC C))(zH:dG P w K mg base C "cut_letters" ["self","p","q"] 2 (sp2 K CP CH CC C .cut))(vR:dG P w K mg base C "paint_letters" ["self","w","p","q","k","v"] 3 (V8 K CP CH CC C))(BD:dG P w K mg base C "swap_texts" ["self"] 2 (sp0 K CP CH CC C .swap))(nT:dG P w K mg base CR "read_row" ["self"] 3 (aeV K CR))(gw:dG P w K mg base CR "read_number" ["self"] 2 (aaH K CR))(eT:dG P w K mg base CR "read_numbers" ["self","amount"] 1 (Xr K CR)):bG P w K mg base "answer_of_texts" ["desk","number","reader"] 5 (Om K CP CH CC C CR fun z=>decide (z<=6)):=by
 refine Df.ok nG (fun vs H Q E⟨_,_,_,_,_,_,_,_,_,_,e,_⟩=>by rw[e];rfl) fun f iB A outer s H vs Q E hr h=>?_
 obtain⟨D,d,r,st,a,ns,p,z,k,p',rfl,hO,AK,B8,ne,hK,hR,hb,hC,ho,hn⟩:=h
 obtain⟨dx,v1,v2,v3,h0,t1,t2,t3⟩:=hK.ex
 obtain⟨Jf,PX⟩:=hR.ex
 refine⟨_,(aC (eW (dB jM (pv 1) (bW G.Zu) (dZ _)) (aJ (bF (eE Ii (pv 0) (hr.mono (by decide)) (aj (gZ nT (pv 2) (hr.mono (by decide))) aA)))) cN)
   (aC (eW (dB jM (pv 1) (bW G.Zv) (dZ _)) (aJ (bF (eE Ij (pv 0) (hr.mono (by decide)) (aj (gZ nT (pv 2) (hr.mono (by decide))) aA)))) cN)
   (aC (eW (dB jM (pv 1) (bW G.WQ) (dZ _)) (aJ (bF (gZ FE (pv 0) (hr.mono (by decide))))) cN)
   (aC (eW (dB jM (pv 1) (bW G.Zw) (dZ _)) (aC (cR (i:=3) nG.nd rfl (by first|exact bz rfl|exact bB rfl) (gZ gw (pv 2) (hr.mono (by decide))))
   (aJ (bF (eE DE (pv 0) (hr.mono (by decide)) (aj (pv 3) (aj (gZ nT (pv 2) (hr.mono (by decide))) aA)))))) cN)
   (aC (eW (dB jM (pv 1) (bW G.Zx) (dZ _)) (aC (cR (i:=4) nG.nd rfl (by first|exact bz rfl|exact bB rfl) (eE eT (pv 2) (hr.mono (by decide)) (aj b9 aA)))
   (aJ (bF (eE zH (pv 0) (hr.mono (by decide)) (aj (eX (r:=jP K) dm (pv 4) b9 (fun _ _=>rfl)) (aj (eX (r:=jP K) dm (pv 4) b9 (fun _ _=>rfl)) aA)))))) cN)
   (aC (eW (dB jM (pv 1) (bW G.Ua) (dZ _)) (aC (cR (i:=4) nG.nd rfl (by first|exact bz rfl|exact bB rfl) (eE eT (pv 2) (hr.mono (by decide)) (aj b9 aA)))
   (aJ (bF (eE vR (pv 0) (hr.mono (by decide)) (aj (eX (r:=jP K) dm (pv 4) b9 (fun _ _=>rfl)) (aj (eX (r:=jP K) dm (pv 4) b9 (fun _ _=>rfl)) (aj (eX (r:=jP K) dm (pv 4) b9 (fun _ _=>rfl)) (aj (eX (r:=jP K) dm (pv 4) b9 (fun _ _=>rfl)) (aj (eX (r:=jP K) dm (pv 4) b9 (fun _ _=>rfl)) aA))))))))) cN)
   (aC (eW (dB jM (pv 1) (bW G.WR) (dZ _)) (aJ (bF (gZ BD (pv 0) (hr.mono (by decide))))) cN)
   (aJ (bF xx))))))))),?_⟩
 cases hC with
 |old p m nQ=>
  have F:=ho rfl
  refine⟨_,rfl,rfl,_,rfl,kO rfl ?_⟩
  refine⟨_,rfl,d,dx,_,rfl,h0,rfl,_,rfl,r,Jf,_,rfl,PX,rfl,D,r,a,ns,p,m,rfl,hO,B8,hR,nQ.1,nQ.2.1,hb,fun v H1 s1 R1 d1=>?_⟩
  obtain⟨o1,K1,O1⟩:=F.out hO AK B8 ne hK s1 R1
  exact⟨D,d,st,v,_,rfl,o1,AK,K1,d1,Aw nQ,O1⟩
 |new p m nQ=>
  have F:=ho rfl
  refine⟨_,rfl,rfl,_,rfl,iL rfl ?_⟩
  refine⟨_,rfl,rfl,_,rfl,kO rfl ?_⟩
  refine⟨_,rfl,d,dx,_,rfl,h0,rfl,_,rfl,r,Jf,_,rfl,PX,rfl,D,r,a,ns,p,m,rfl,hO,B8,hR,nQ.1,nQ.2.1,hb,fun v H1 s1 R1 d1=>?_⟩
  obtain⟨o1,K1,O1⟩:=F.out hO AK B8 ne hK s1 R1
  exact⟨D,d,st,v,_,rfl,o1,AK,K1,d1,Aw nQ,O1⟩
 |copy p=>
  have F:=ho rfl
  refine⟨_,rfl,rfl,_,rfl,iL rfl ?_⟩
  refine⟨_,rfl,rfl,_,rfl,iL rfl ?_⟩
  refine⟨_,rfl,rfl,_,rfl,kO rfl ?_⟩
  obtain⟨o1,K1,O1⟩:=F.out hO AK B8 ne hK (sx (aQ.refl _)) hR
  exact⟨_,rfl,d,dx,_,rfl,h0,rfl,D,d,st,rfl,o1,AK,K1,O1⟩
 |put p m x hx nQ=>
  have F:=ho rfl
  refine⟨_,rfl,rfl,_,rfl,iL rfl ?_⟩
  refine⟨_,rfl,rfl,_,rfl,iL rfl ?_⟩
  refine⟨_,rfl,rfl,_,rfl,iL rfl ?_⟩
  refine⟨_,rfl,rfl,_,rfl,kO rfl ?_⟩
  refine⟨_,rfl,r,Jf,_,rfl,PX,rfl,D,r,a,ns,p,x,rfl,hO,B8,hR,hx,hb,fun H1 s1 R1=>?_⟩
  obtain⟨ahm,hr1⟩:=R1.ex
  have o1:=Od.x hO s1 hr1
  refine⟨_,rfl,d,dx,_,rfl,s1 _ _ h0 ne,rfl,_,rfl,_,rfl,r,ahm,_,rfl,hr1,rfl,D,r,a,ns,p+1,m,rfl,o1,B8,R1,nQ.1,nQ.2.1,hb,fun v H2 s2 R2 d2=>?_⟩
  obtain⟨o2,K2,O2⟩:=F.out hO AK B8 ne hK (s1.trans s2) R2
  exact⟨D,d,st,x,v,_,rfl,o2,AK,K2,d2,Aw nQ,O2⟩
 |cut p x y hx hl=>
  have F:=ho rfl
  refine⟨_,rfl,rfl,_,rfl,iL rfl ?_⟩
  refine⟨_,rfl,rfl,_,rfl,iL rfl ?_⟩
  refine⟨_,rfl,rfl,_,rfl,iL rfl ?_⟩
  refine⟨_,rfl,rfl,_,rfl,iL rfl ?_⟩
  refine⟨_,rfl,rfl,_,rfl,kO rfl ?_⟩
  refine⟨_,rfl,r,Jf,_,rfl,PX,rfl,D,r,a,ns,p,2,rfl,hO,B8,hR,hl,hb,fun v H1 s1 R1 d1=>?_⟩
  rw[hx]at d1
  obtain⟨b,rfl,zb⟩:=qf d1
  obtain⟨o1,K1,O1⟩:=F.out hO AK B8 ne hK s1 R1
  exact⟨_,rfl,d,dx,_,rfl,s1 _ _ h0 ne,rfl,_,rfl,b,_,0,_,rfl,rfl,cG.of (aq _ _ zb),rfl,_,rfl,b,_,1,_,rfl,rfl,cG.of (aq _ _ zb),rfl,D,d,st,x,y,rfl,o1,AK,K1,O1⟩
 |paint p x y z u v hx hl=>
  have F:=ho rfl
  refine⟨_,rfl,rfl,_,rfl,iL rfl ?_⟩
  refine⟨_,rfl,rfl,_,rfl,iL rfl ?_⟩
  refine⟨_,rfl,rfl,_,rfl,iL rfl ?_⟩
  refine⟨_,rfl,rfl,_,rfl,iL rfl ?_⟩
  refine⟨_,rfl,rfl,_,rfl,iL rfl ?_⟩
  refine⟨_,rfl,rfl,_,rfl,kO rfl ?_⟩
  refine⟨_,rfl,r,Jf,_,rfl,PX,rfl,D,r,a,ns,p,5,rfl,hO,B8,hR,hl,hb,fun v' H1 s1 R1 d1=>?_⟩
  rw[hx]at d1
  obtain⟨b,rfl,zb⟩:=qf d1
  have sb:=cG.of (K:=K) (aq _ _ zb)
  obtain⟨o1,K1,O1⟩:=F.out hO AK B8 ne hK s1 R1
  exact⟨_,rfl,d,dx,_,rfl,s1 _ _ h0 ne,rfl,_,rfl,b,_,0,_,rfl,rfl,sb,rfl,_,rfl,b,_,1,_,rfl,rfl,sb,rfl,_,rfl,b,_,2,_,rfl,rfl,sb,rfl,_,rfl,b,_,3,_,rfl,rfl,sb,rfl,_,rfl,b,_,4,_,rfl,rfl,sb,rfl,D,d,st,x,y,z,u,v,rfl,o1,AK,K1,O1⟩
 |swap p=>
  have F:=ho rfl
  refine⟨_,rfl,rfl,_,rfl,iL rfl ?_⟩
  refine⟨_,rfl,rfl,_,rfl,iL rfl ?_⟩
  refine⟨_,rfl,rfl,_,rfl,iL rfl ?_⟩
  refine⟨_,rfl,rfl,_,rfl,iL rfl ?_⟩
  refine⟨_,rfl,rfl,_,rfl,iL rfl ?_⟩
  refine⟨_,rfl,rfl,_,rfl,iL rfl ?_⟩
  refine⟨_,rfl,rfl,_,rfl,kO rfl ?_⟩
  obtain⟨o1,K1,O1⟩:=F.out hO AK B8 ne hK (sx (aQ.refl _)) hR
  exact⟨_,rfl,d,dx,_,rfl,h0,rfl,D,d,st,rfl,o1,AK,K1,O1⟩
 |_=>
  refine⟨_,rfl,rfl,_,rfl,iL rfl ?_⟩
  refine⟨_,rfl,rfl,_,rfl,iL rfl ?_⟩
  refine⟨_,rfl,rfl,_,rfl,iL rfl ?_⟩
  refine⟨_,rfl,rfl,_,rfl,iL rfl ?_⟩
  refine⟨_,rfl,rfl,_,rfl,iL rfl ?_⟩
  refine⟨_,rfl,rfl,_,rfl,iL rfl ?_⟩
  refine⟨_,rfl,rfl,_,rfl,iL rfl ?_⟩
  exact hn rfl
theorem Ax(G:fT K mg)(Df:jL K mg "answer_of_comparison" j4 ["desk","number","reader"])(vU:dG P w K mg base C "compare_texts" ["self","grain","least"] 9 (sp2 K CP CH CC C .compare))(zI:dG P w K mg base C "tell_counts" ["self"] 2 (sp0 K CP CH CC C .counts))(FF:dG P w K mg base C "tell_row" ["self"] 3 (sp0 K CP CH CC C .row))(xY:dG P w K mg base C "tell_changes" ["self"] 2 (sp0 K CP CH CC C .changes))(xZ:dG P w K mg base C "tell_version" ["self","numbers"] 4 (Jd K CP CH CC C .version))(x8:dG P w K mg base C "take_version" ["self","numbers"] 4 (Jd K CP CH CC C .take))(nT:dG P w K mg base CR "read_row" ["self"] 3 (aeV K CR))(eT:dG P w K mg base CR "read_numbers" ["self","amount"] 1 (Xr K CR)):bG P w K mg base "answer_of_comparison" ["desk","number","reader"] 10 (Om K CP CH CC C CR fun z=>decide (7<=z)&&decide (z<=12)):=by
 refine Df.ok rO (fun vs H Q E⟨_,_,_,_,_,_,_,_,_,_,e,_⟩=>by rw[e];rfl) fun f iB A outer s H vs Q E hr h=>?_
 obtain⟨D,d,r,st,a,ns,p,z,k,p',rfl,hO,AK,B8,ne,hK,hR,hb,hC,ho,hn⟩:=h
 obtain⟨dx,v1,v2,v3,h0,t1,t2,t3⟩:=hK.ex
 obtain⟨Jf,PX⟩:=hR.ex
 refine⟨_,(aC (eW (dB jM (pv 1) (bW G.OY) (dZ _)) (aC (cR (i:=3) rO.nd rfl (by first|exact bz rfl|exact bB rfl) (eE eT (pv 2) (hr.mono (by decide)) (aj b9 aA)))
   (aJ (bF (eE vU (pv 0) (hr.mono (by decide)) (aj (eX (r:=jP K) dm (pv 3) b9 (fun _ _=>rfl)) (aj (eX (r:=jP K) dm (pv 3) b9 (fun _ _=>rfl)) aA)))))) cN)
   (aC (eW (dB jM (pv 1) (bW G.Rn) (dZ _)) (aJ (bF (gZ zI (pv 0) (hr.mono (by decide))))) cN)
   (aC (eW (dB jM (pv 1) (bW G.Zy) (dZ _)) (aJ (bF (gZ FF (pv 0) (hr.mono (by decide))))) cN)
   (aC (eW (dB jM (pv 1) (bW G.OZ) (dZ _)) (aJ (bF (gZ xY (pv 0) (hr.mono (by decide))))) cN)
   (aC (eW (dB jM (pv 1) (bW G.O0) (dZ _)) (aJ (bF (eE xZ (pv 0) (hr.mono (by decide)) (aj (gZ nT (pv 2) (hr.mono (by decide))) aA)))) cN)
   (aC (eW (dB jM (pv 1) (bW G.WS) (dZ _)) (aJ (bF (eE x8 (pv 0) (hr.mono (by decide)) (aj (gZ nT (pv 2) (hr.mono (by decide))) aA)))) cN)
   (aJ (bF xx)))))))),?_⟩
 cases hC with
 |compare p x y hx hl=>
  have F:=ho rfl
  refine⟨_,rfl,rfl,_,rfl,kO rfl ?_⟩
  refine⟨_,rfl,r,Jf,_,rfl,PX,rfl,D,r,a,ns,p,2,rfl,hO,B8,hR,hl,hb,fun v H1 s1 R1 d1=>?_⟩
  rw[hx]at d1
  obtain⟨b,rfl,zb⟩:=qf d1
  obtain⟨o1,K1,O1⟩:=F.out hO AK B8 ne hK s1 R1
  exact⟨_,rfl,d,dx,_,rfl,s1 _ _ h0 ne,rfl,_,rfl,b,_,0,_,rfl,rfl,cG.of (aq _ _ zb),rfl,_,rfl,b,_,1,_,rfl,rfl,cG.of (aq _ _ zb),rfl,D,d,st,x,y,rfl,o1,AK,K1,O1⟩
 |counts p=>
  have F:=ho rfl
  refine⟨_,rfl,rfl,_,rfl,iL rfl ?_⟩
  refine⟨_,rfl,rfl,_,rfl,kO rfl ?_⟩
  obtain⟨o1,K1,O1⟩:=F.out hO AK B8 ne hK (sx (aQ.refl _)) hR
  exact⟨_,rfl,d,dx,_,rfl,h0,rfl,D,d,st,rfl,o1,AK,K1,O1⟩
 |row p=>
  have F:=ho rfl
  refine⟨_,rfl,rfl,_,rfl,iL rfl ?_⟩
  refine⟨_,rfl,rfl,_,rfl,iL rfl ?_⟩
  refine⟨_,rfl,rfl,_,rfl,kO rfl ?_⟩
  obtain⟨o1,K1,O1⟩:=F.out hO AK B8 ne hK (sx (aQ.refl _)) hR
  exact⟨_,rfl,d,dx,_,rfl,h0,rfl,D,d,st,rfl,o1,AK,K1,O1⟩
 |changes p=>
  have F:=ho rfl
  refine⟨_,rfl,rfl,_,rfl,iL rfl ?_⟩
  refine⟨_,rfl,rfl,_,rfl,iL rfl ?_⟩
  refine⟨_,rfl,rfl,_,rfl,iL rfl ?_⟩
  refine⟨_,rfl,rfl,_,rfl,kO rfl ?_⟩
  obtain⟨o1,K1,O1⟩:=F.out hO AK B8 ne hK (sx (aQ.refl _)) hR
  exact⟨_,rfl,d,dx,_,rfl,h0,rfl,D,d,st,rfl,o1,AK,K1,O1⟩
 |version p m nQ=>
  have F:=ho rfl
  refine⟨_,rfl,rfl,_,rfl,iL rfl ?_⟩
  refine⟨_,rfl,rfl,_,rfl,iL rfl ?_⟩
  refine⟨_,rfl,rfl,_,rfl,iL rfl ?_⟩
  refine⟨_,rfl,rfl,_,rfl,iL rfl ?_⟩
  refine⟨_,rfl,rfl,_,rfl,kO rfl ?_⟩
  refine⟨_,rfl,d,dx,_,rfl,h0,rfl,_,rfl,r,Jf,_,rfl,PX,rfl,D,r,a,ns,p,m,rfl,hO,B8,hR,nQ.1,nQ.2.1,hb,fun v H1 s1 R1 d1=>?_⟩
  obtain⟨o1,K1,O1⟩:=F.out hO AK B8 ne hK s1 R1
  exact⟨D,d,st,v,_,rfl,o1,AK,K1,d1,Aw nQ,O1⟩
 |take p m nQ=>
  have F:=ho rfl
  refine⟨_,rfl,rfl,_,rfl,iL rfl ?_⟩
  refine⟨_,rfl,rfl,_,rfl,iL rfl ?_⟩
  refine⟨_,rfl,rfl,_,rfl,iL rfl ?_⟩
  refine⟨_,rfl,rfl,_,rfl,iL rfl ?_⟩
  refine⟨_,rfl,rfl,_,rfl,iL rfl ?_⟩
  refine⟨_,rfl,rfl,_,rfl,kO rfl ?_⟩
  refine⟨_,rfl,d,dx,_,rfl,h0,rfl,_,rfl,r,Jf,_,rfl,PX,rfl,D,r,a,ns,p,m,rfl,hO,B8,hR,nQ.1,nQ.2.1,hb,fun v H1 s1 R1 d1=>?_⟩
  obtain⟨o1,K1,O1⟩:=F.out hO AK B8 ne hK s1 R1
  exact⟨D,d,st,v,_,rfl,o1,AK,K1,d1,Aw nQ,O1⟩
 |_=>
  refine⟨_,rfl,rfl,_,rfl,iL rfl ?_⟩
  refine⟨_,rfl,rfl,_,rfl,iL rfl ?_⟩
  refine⟨_,rfl,rfl,_,rfl,iL rfl ?_⟩
  refine⟨_,rfl,rfl,_,rfl,iL rfl ?_⟩
  refine⟨_,rfl,rfl,_,rfl,iL rfl ?_⟩
  refine⟨_,rfl,rfl,_,rfl,iL rfl ?_⟩
  exact hn rfl
theorem Cn(G:fT K mg)(Df:jL K mg "answer_of_question" lF ["desk","number","reader"])(DF:dG P w K mg base C "tell_text" ["self","w"] 3 (sp1 K CP CH CC C .text))(zJ:dG P w K mg base C "tell_tokens" ["self","w","grain"] 4 (sp2 K CP CH CC C .tokens))(FG:dG P w K mg base C "distance" ["self","grain"] 9 (sp1 K CP CH CC C .distance))(gw:dG P w K mg base CR "read_number" ["self"] 2 (aaH K CR))(eT:dG P w K mg base CR "read_numbers" ["self","amount"] 1 (Xr K CR)):bG P w K mg base "answer_of_question" ["desk","number","reader"] 10 (Om K CP CH CC C CR fun z=>decide (13<=z)):=by
 refine Df.ok t9 (fun vs H Q E⟨_,_,_,_,_,_,_,_,_,_,e,_⟩=>by rw[e];rfl) fun f iB A outer s H vs Q E hr h=>?_
 obtain⟨D,d,r,st,a,ns,p,z,k,p',rfl,hO,AK,B8,ne,hK,hR,hb,hC,ho,hn⟩:=h
 obtain⟨dx,v1,v2,v3,h0,t1,t2,t3⟩:=hK.ex
 obtain⟨Jf,PX⟩:=hR.ex
 refine⟨_,(aC (eW (dB jM (pv 1) (bW G.WT) (dZ _)) (aJ (bF (eE DF (pv 0) (hr.mono (by decide)) (aj (gZ gw (pv 2) (hr.mono (by decide))) aA)))) cN)
   (aC (eW (dB jM (pv 1) (bW G.Ro) (dZ _)) (aC (cR (i:=3) t9.nd rfl (by first|exact bz rfl|exact bB rfl) (eE eT (pv 2) (hr.mono (by decide)) (aj b9 aA)))
   (aJ (bF (eE zJ (pv 0) (hr.mono (by decide)) (aj (eX (r:=jP K) dm (pv 3) b9 (fun _ _=>rfl)) (aj (eX (r:=jP K) dm (pv 3) b9 (fun _ _=>rfl)) aA)))))) cN)
   (aC (eW (dB jM (pv 1) (bW G.MT) (dZ _)) (aJ (bF (eE FG (pv 0) (hr.mono (by decide)) (aj (gZ gw (pv 2) (hr.mono (by decide))) aA)))) cN)
   (aJ (bF xx))))),?_⟩
 cases hC with
 |text p x hx=>
  have F:=ho rfl
  refine⟨_,rfl,rfl,_,rfl,kO rfl ?_⟩
  refine⟨_,rfl,d,dx,_,rfl,h0,rfl,_,rfl,r,Jf,_,rfl,PX,rfl,D,r,a,ns,p,x,rfl,hO,B8,hR,hx,hb,fun H1 s1 R1=>?_⟩
  obtain⟨o1,K1,O1⟩:=F.out hO AK B8 ne hK s1 R1
  exact⟨D,d,st,x,rfl,o1,AK,K1,O1⟩
 |tokens p x y hx hl=>
  have F:=ho rfl
  refine⟨_,rfl,rfl,_,rfl,iL rfl ?_⟩
  refine⟨_,rfl,rfl,_,rfl,kO rfl ?_⟩
  refine⟨_,rfl,r,Jf,_,rfl,PX,rfl,D,r,a,ns,p,2,rfl,hO,B8,hR,hl,hb,fun v H1 s1 R1 d1=>?_⟩
  rw[hx]at d1
  obtain⟨b,rfl,zb⟩:=qf d1
  obtain⟨o1,K1,O1⟩:=F.out hO AK B8 ne hK s1 R1
  exact⟨_,rfl,d,dx,_,rfl,s1 _ _ h0 ne,rfl,_,rfl,b,_,0,_,rfl,rfl,cG.of (aq _ _ zb),rfl,_,rfl,b,_,1,_,rfl,rfl,cG.of (aq _ _ zb),rfl,D,d,st,x,y,rfl,o1,AK,K1,O1⟩
 |distance p x hx=>
  have F:=ho rfl
  refine⟨_,rfl,rfl,_,rfl,iL rfl ?_⟩
  refine⟨_,rfl,rfl,_,rfl,iL rfl ?_⟩
  refine⟨_,rfl,rfl,_,rfl,kO rfl ?_⟩
  refine⟨_,rfl,d,dx,_,rfl,h0,rfl,_,rfl,r,Jf,_,rfl,PX,rfl,D,r,a,ns,p,x,rfl,hO,B8,hR,hx,hb,fun H1 s1 R1=>?_⟩
  obtain⟨o1,K1,O1⟩:=F.out hO AK B8 ne hK s1 R1
  exact⟨D,d,st,x,rfl,o1,AK,K1,O1⟩
 |_=>
  refine⟨_,rfl,rfl,_,rfl,iL rfl ?_⟩
  refine⟨_,rfl,rfl,_,rfl,iL rfl ?_⟩
  refine⟨_,rfl,rfl,_,rfl,iL rfl ?_⟩
  exact hn rfl
end
inductive UU(ns:List Int):Nat->List SM->Prop
 |done:UU ns ns.length []
 |next {p p':Nat} {z:Int} {k:SM} {cs:List SM} (hz:ns[p]?=some z) (h:Ol ns z (p+1) k p') (t:UU ns p' cs):UU ns p (k::cs)
def G4:Vk->List SM->List Int
 |_,[]=>[]
 |st,k::cs=>((dF (bS st k).2).length:Int)::dF (bS st k).2++G4 (bS st k).1 cs
section
variable{P:bD}{w:cC}{K:ah}{mg:cM->Option ao}{base:cY}{CP CH CC C CR:ak}
def aaL(K:ah)(CP CH CC C CR:ak):Sp:=fun vs H Q _=>∃D d r st a ns p z k p',vs=[.ref d,.ref r]/\Od H D/\D d=true/\D r=true/\d≠r/\gG K CP CH CC C H D d st/\Ib K CR H r a ns p/\ns.length<=100000/\ns[p]?=some z/\Ol ns z (p+1) k p'/\Fin K CP CH CC C CR Q H D d r a ns st k p'
theorem L7(G:fT K mg)(Df:jL K mg "next_answer" u0 ["desk","reader"])(gw:dG P w K mg base CR "read_number" ["self"] 2 (aaH K CR))(tH:bG P w K mg base "answer_of_texts" ["desk","number","reader"] 5 (Om K CP CH CC C CR fun z=>decide (z<=6)))(nU:bG P w K mg base "answer_of_comparison" ["desk","number","reader"] 10 (Om K CP CH CC C CR fun z=>decide (7<=z)&&decide (z<=12)))(pN:bG P w K mg base "answer_of_question" ["desk","number","reader"] 10 (Om K CP CH CC C CR fun z=>decide (13<=z))):bG P w K mg base "next_answer" ["desk","reader"] 11 (aaL K CP CH CC C CR):=by
 refine Df.ok pC (fun vs H Q E⟨_,_,_,_,_,_,_,_,_,_,e,_⟩=>by rw[e];rfl) fun f iB A outer s H vs Q E hr h=>?_
 obtain⟨D,d,r,st,a,ns,p,z,k,p',rfl,hO,AK,B8,ne,hK,hR,hb,hz,hC,F⟩:=h
 obtain⟨Jf,PX⟩:=hR.ex
 refine⟨_,(aC (cR (i:=2) pC.nd rfl (by first|exact bz rfl|exact bB rfl) (gZ gw (pv 1) (hr.mono (by decide))))
   (aC (cR (i:=3) pC.nd rfl (by first|exact bz rfl|exact bB rfl) (bL tH (hr.mono (by decide)) (aj (pv 0) (aj (pv 2) (aj (pv 1) aA)))))
   (aC (eW (ue (CF (pv 3))) (aJ (cR (i:=3) pC.nd rfl (by first|exact bz rfl|exact bB rfl) (bL nU (hr.mono (by decide)) (aj (pv 0) (aj (pv 2) (aj (pv 1) aA)))))) cN)
   (aC (eW (ue (CF (pv 3))) (aJ (cR (i:=3) pC.nd rfl (by first|exact bz rfl|exact bB rfl) (bL pN (hr.mono (by decide)) (aj (pv 0) (aj (pv 2) (aj (pv 1) aA)))))) cN)
   (aC (eW (ue (CF (pv 3))) (aJ Ys) cN)
   (aJ (bF (pv 3)))))))),?_⟩
 refine⟨_,rfl,r,Jf,_,rfl,PX,rfl,D,r,a,ns,p,z,rfl,hO,B8,hR,hz,hb,fun H1 s1 R1=>?_⟩
 obtain⟨ahm,hr1⟩:=R1.ex
 have o1:=Od.x hO s1 hr1
 obtain⟨dx,v1,v2,v3,h0,t1,t2,t3⟩:=hK.ex
 have sd:=hdX s1 B8
 have K1:gG K CP CH CC C H1 D d st:=⟨dx,v1,v2,v3,s1 _ _ h0 ne,t1.mono sd,t2.mono sd,t3.mono sd⟩
 have fin:∀v H',aaK d r H1 H'->gG K CP CH CC C H' D d (bS st k).1->Ib K CR H' r a ns p'->Dx K (hd H' D) v (Cm (dF (bS st k).2))->(dF (bS st k).2).length<=6000->Q v H':=fun v H' sxy=>F v H' fun b o e n1 n2=>sxy b o (s1 b o e n2) n1 n2
 refine⟨_,rfl,_,rfl,_,rfl,D,d,r,st,a,ns,p+1,z,k,p',rfl,o1,AK,B8,ne,K1,R1,hb,hC,fun _ v H2 sxy K2 R2 d2 b2=>?_,fun n1=>?_⟩
 ·obtain⟨b,rfl,_⟩:=qf d2
  refine⟨_,rfl,_,rfl,iL rfl ?_⟩
  refine⟨_,rfl,_,rfl,iL rfl ?_⟩
  refine⟨_,rfl,_,rfl,iL rfl ?_⟩
  exact⟨_,rfl,fin _ _ sxy K2 R2 d2 b2⟩
 ·refine⟨_,rfl,_,rfl,kO rfl ?_⟩
  refine⟨_,rfl,_,rfl,_,rfl,D,d,r,st,a,ns,p+1,z,k,p',rfl,o1,AK,B8,ne,K1,R1,hb,hC,fun _ v H2 sxy K2 R2 d2 b2=>?_,fun n2=>?_⟩
  ·obtain⟨b,rfl,_⟩:=qf d2
   refine⟨_,rfl,_,rfl,iL rfl ?_⟩
   refine⟨_,rfl,_,rfl,iL rfl ?_⟩
   exact⟨_,rfl,fin _ _ sxy K2 R2 d2 b2⟩
  ·refine⟨_,rfl,_,rfl,kO rfl ?_⟩
   refine⟨_,rfl,_,rfl,_,rfl,D,d,r,st,a,ns,p+1,z,k,p',rfl,o1,AK,B8,ne,K1,R1,hb,hC,fun _ v H2 sxy K2 R2 d2 b2=>?_,fun n3=>?_⟩
   ·obtain⟨b,rfl,_⟩:=qf d2
    refine⟨_,rfl,_,rfl,iL rfl ?_⟩
    exact⟨_,rfl,fin _ _ sxy K2 R2 d2 b2⟩
   ·exfalso
    have m1:=of_decide_eq_false n1
    have m3:=of_decide_eq_false n3
    have m2:¬(7<=z/\z<=12):=fun q=>by
     have e:(decide (7<=z)&&decide (z<=12))=true:=by rw[aI q.1,aI q.2];rfl
     have n2':(decide (7<=z)&&decide (z<=12))=false:=n2
     rw[e]at n2'
     cases n2'
    omega
def Sm(K:ah):Sp:=fun vs H Q _=>∃a ns cs,vs=[.ref a]/\cG K H a (ns.map V.int)/\ns.length<=100000/\UU ns 0 cs/\cs.length<=400/\∀v H',Dx K H' v (Cm (G4 tW cs))->Q v H'
theorem UW{f:ak}{fd:iW}(G:fT K mg)(F:Zd K "answers" "answers" ur f fd)(UX:t8 P w K mg base C "Desk" ["self"] 3 (fun vs H Q _=>∃D x dx,vs=[.ref x]/\Od H D/\D x=false/\H x=some (.ins C dx [])/\∀H',j7 x H H'->gG K CP CH CC C H' (ad D x) x tW->Q .jX H'))(BE:t8 P w K mg base CR "CallReader" ["self","calls"] 1 (ahe CR))(FH:dG P w K mg base CR "has_more" ["self"] 1 (aaG K CR))(zK:bG P w K mg base "next_answer" ["desk","reader"] 11 (aaL K CP CH CC C CR)):yr P w K mg base Rc 12 f fd ["calls"] (Sm K):=by
 refine F.ok xF (fun vs H Q E⟨_,_,_,e,_⟩=>by rw[e];rfl) fun iB A outer s H vs Q E hr h=>?_
 obtain⟨a,ns,cs0,rfl,hq,hb,hL0,aoW,k⟩:=h
 refine⟨_,(aC (cR (i:=1) xF.nd rfl (by first|exact bz rfl|exact bB rfl) (WK UX (hr.mono (by decide))))
   (aC (cR (i:=2) xF.nd rfl (by first|exact bz rfl|exact bB rfl) (qJ BE (hr.mono (by decide)) (aj (pv 0) aA)))
   (aC (cR (i:=3) xF.nd rfl (by first|exact bz rfl|exact bB rfl) (c_ aA))
   (aC (QN cA (rC (gZ FH (pv 2) (hr.mono (by decide))) (fun _=>rfl)) (aC (cR (i:=4) xF.nd rfl (by first|exact bz rfl|exact bB rfl) (bL zK (hr.mono (by decide)) (aj (pv 1) (aj (pv 2) aA))))
   (aC (eZ (kQ aZ cg cu iK (pv 3) (aj (cS (r:=l5 K) cB (by rfl) G.iN dN (aj (pv 4) aA)) aA)))
   (aJ (eZ (kQ aZ fO fQ pX (pv 3) (aj (pv 4) aA)))))))
   (aJ (bF (pv 3))))))),?_⟩
 intro d ddx nd ake ne1
 refine⟨D0,d,ddx,rfl,Od.zero,rfl,aE,fun H1 s1 K1=>⟨rfl,?_⟩⟩
 have sH1:=Ec nd ake ne1 s1
 refine⟨_,rfl,?_⟩
 intro r Jf nr nrd ne2
 refine⟨r,Jf,a,rfl,aE,rfl,?_⟩
 rw[l8]
 have tR:aQ H1 (upd (upd H1 Jf (.own r)) r (.ins CR Jf (rdF a 0))):=aQ.inst nr nrd ne2
 refine⟨bE _,fun L hL=>?_⟩
 have tL:=aQ.new (o:=.lst []) hL
 obtain⟨dx,v1,v2,v3,h0,t1,t2,t3⟩:=K1.ex
 have ndr:d≠r:=cW h0 nr
 have ndL:d≠L:=cW (tR _ _ h0) hL
 have nrL:r≠L:=cW (show upd (upd H1 Jf (.own r)) r (.ins CR Jf (rdF a 0)) r=some _ from aE) hL
 have sD:aQ (hd H1 (ad D0 d)) (hd (upd (upd (upd H1 Jf (.own r)) r (.ins CR Jf (rdF a 0))) L (.lst [])) (ad (ad (ad D0 d) r) L)):=by
  rw[qk fX,m8 hL,<-m8 (D:=ad D0 d) nr]
  exact aU tR
 have nHd:H d=none:=nd
 have nHr:H r=none:=wR sH1 nr
 have nHL:H L=none:=wR (sH1.trans tR) hL
 have AK:ad (ad (ad D0 d) r) L d=true:=zf (zf fX)
 have B8:ad (ad (ad D0 d) r) L r=true:=zf fX
 have hDL:ad (ad (ad D0 d) r) L L=true:=fX
 refine⟨fun m σ H'=>∃cs p st g v4,m=cs.length/\σ=[some (.ref a),some (.ref d),some (.ref r),some (.ref L),v4]/\aQ H H'/\Od H' (ad (ad (ad D0 d) r) L)/\gG K CP CH CC C H' (ad (ad (ad D0 d) r) L) d st/\Ib K CR H' r a ns p/\UU ns p cs/\H' L=some (.lst (g.map V.int))/\g++G4 st cs=G4 tW cs0/\g.length+6001*cs.length<=6001*400,
  ⟨cs0.length,cs0,0,tW,[],none,rfl,rfl,sH1.trans (tR.trans tL),?_,?_,?_,hL0,aE,rfl,by simp;omega⟩,?_⟩
 ·refine Od.ad (Od.ad (Od.ad Od.zero (tL _ _ (tR _ _ h0))) (tL _ _ aE)) aE
 ·exact⟨dx,v1,v2,v3,tL _ _ (tR _ _ h0),t1.mono sD,t2.mono sD,t3.mono sD⟩
 ·exact⟨⟨Jf,tL _ _ aE⟩,(sH1.trans (tR.trans tL)).seq hq⟩
 ·rintro m σ H' ⟨cs,p,st,g,v4,rfl,rfl,sH,oH,hK,hR,hLn,qL,eg,lg⟩
  obtain⟨akf,PX⟩:=hR.ex
  refine⟨_,rfl,r,akf,_,rfl,PX,rfl,r,a,ns,p,rfl,hR,_,rfl,?_⟩
  cases hLn with
  |done=>
   refine iL (aH (gI _)) ?_
   have eg':g=G4 tW cs0:=by rw[<-eg];unfold G4;rw[cQ]
   refine⟨_,rfl,k _ _ (.lst qL ?_)⟩
   rw[<-eg']
   exact BB _
  |next hz hC tl=>
   rename_i p' z kc cs'
   have hp:p<ns.length:=(az.mp hz).1
   refine kO (aI hp) ⟨_,fun _ _ h=>h,?_⟩
   refine⟨_,rfl,_,rfl,ad (ad (ad D0 d) r) L,d,r,st,a,ns,p,z,kc,p',rfl,oH,AK,B8,ndr,hK,hR,hb,hz,hC,fun v H2 sxy K2 R2 d2 b2=>?_⟩
   obtain⟨b,rfl,zb⟩:=qf d2
   have zb':=aq _ _ zb
   have nbL:b≠L:=Ie zb hDL
   have qL2:=sxy L _ qL (iG ndL) (iG nrL)
   obtain⟨akg,hr2⟩:=R2.ex
   obtain⟨dx2,w1,w2,w3,g0,g1,g2,g3⟩:=K2.ex
   have sH2:aQ H H2:=fun x o e=>sxy x o (sH _ _ e) (cW e nHd) (cW e nHr)
   rw[br]at lg
   generalize akh:dF (bS st kc).2=XW at *
   refine⟨_,rfl,.inl ⟨rfl,_,cG.of qL2⟩,_,rfl,b,_,rfl,.inl (cG.of zb'),L,_,_,rfl,rfl,qL2,by rw[aa,iJ];omega,?_⟩
   refine⟨_,rfl,.inl ⟨rfl,_,cG.of aE⟩,_,rfl,L,b,_,_,rfl,rfl,aE,by rw[bY nbL];exact zb',by rw[au,aa,aa,cZ,iJ];omega,?_⟩
   rw[l8]
   have eg2:g.map V.int++[V.int (((XW.map V.int).length:Nat):Int)]++XW.map V.int=(g++((XW.length:Int)::XW)).map V.int:=by
    rw[aa,bu,gO]
    rfl
   rw[eg2]
   have eh:hd (upd H2 L (.lst ((g++((XW.length:Int)::XW)).map V.int))) (ad (ad (ad D0 d) r) L)=hd H2 (ad (ad (ad D0 d) r) L):=qk hDL
   have o2:Od H2 (ad (ad (ad D0 d) r) L):=fun x hx hn=>by
    by_cases e1:x=d
    ·rw[e1,g0]at hn;cases hn
    ·by_cases e2:x=r
     ·rw[e2,hr2]at hn;cases hn
     ·cases q:H' x with
      |none=>exact oH x hx q
      |some o=>rw[sxy x o q e1 e2]at hn;cases hn
   refine⟨cs'.length,Cq _,cs',p',(bS st kc).1,g++((XW.length:Int)::XW),_,rfl,rfl,sH2.write nHL,o2.upd,⟨dx2,w1,w2,w3,by rw[bY ndL];exact g0,by rw[eh];exact g1,by rw[eh];exact g2,by rw[eh];exact g3⟩,⟨⟨akg,by rw[bY nrL];exact hr2⟩,(sH2.write nHL).seq hq⟩,tl,aE,?_,?_⟩
   ·rw[<-eg]
    show _=g++(((dF (bS st kc).2).length:Int)::dF (bS st kc).2++G4 (bS st kc).1 cs')
    rw[akh,gO]
   ·rw[au,br]
    omega
end
theorem aaN{sh:Int->Option (Nat×Nat)}{z:Int}{r:List Int}{c:List (List Int)}{t:List Int}(h:S8 sh (z::r)=some (c,t)):∃n k xs,sh z=some (n,k)/\n<=r.length/\r_ k (r.drop n)=some (xs,t)/\c=(z::r.take n)::xs:=by
 have e:S8 sh (z::r)=(match sh z with|none=>none|some (n,k)=>if r.length<n then none else match r_ k (r.drop n)with|none=>none|some (xs,t)=>some ((z::r.take n)::xs,t)):=rfl
 rw[e]at h
 cases hs:sh z with
 |none=>rw[hs]at h;cases h
 |some nk=>
  obtain⟨n,k⟩:=nk
  rw[hs]at h
  dsimp only at h
  by_cases hl:r.length<n
  ·rw[aG hl]at h;cases h
  ·rw[aD hl]at h
   cases hw:r_ k (r.drop n)with
   |none=>rw[hw]at h;cases h
   |some q=>
    obtain⟨xs,t'⟩:=q
    rw[hw]at h
    dsimp only at h
    obtain⟨e1,e2⟩:=eN (bH h)
    exact⟨n,k,xs,rfl,by omega,by rw[hw,e2],e1.symm⟩
theorem mL{r Ug:List Int}{xs:List (List Int)}(h:r_ 0 r=some (xs,Ug)):xs=[]/\Ug=r:=by
 unfold r_ at h
 cases h
 exact⟨rfl,rfl⟩
theorem Ay{r t:List Int}{xs:List (List Int)}(h:r_ 1 r=some (xs,t)):∃(m:Nat)(r':List Int),r=(m:Int)::r'/\m<=r'.length/\xs=[r'.take m]/\t=r'.drop m:=by
 have e:r_ 1 r=(match ME r with|none=>none|some (x,s)=>some ([x],s)):=by
  show(match ME r with|none=>none|some (x,s)=>match r_ 0 s with|none=>none|some (xs,t)=>some (x::xs,t))=_
  cases ME r<;>rfl
 rw[e]at h
 cases r with
 |nil=>cases h
 |cons y r'=>
  have e2:ME (y::r')=if 0<=y/\y.toNat<=r'.length then some (r'.take y.toNat,r'.drop y.toNat)else none:=rfl
  rw[e2]at h
  by_cases hc:0<=y/\y.toNat<=r'.length
  ·rw[aG hc]at h
   obtain⟨e3,e4⟩:=eN (bH h)
   exact⟨y.toNat,r',by rw[Int.toNat_of_nonneg hc.1],hc.2,e3.symm,e4.symm⟩
  ·rw[aD hc]at h;cases h
theorem Xx{z:Int}{n k:Nat}(h:xu z=some (n,k)):(z=0/\n=0/\k=1)\/(z=1/\n=0/\k=1)\/(z=2/\n=0/\k=0)\/(z=3/\n=1/\k=1)\/(z=4/\n=2/\k=0)\/(z=5/\n=5/\k=0)\/(z=6/\n=0/\k=0)\/(z=7/\n=2/\k=0)\/(z=8/\n=0/\k=0)\/(z=9/\n=0/\k=0)\/(z=10/\n=0/\k=0)\/(z=11/\n=0/\k=1)\/(z=12/\n=0/\k=1)\/(z=13/\n=1/\k=0)\/(z=14/\n=2/\k=0)\/(z=15/\n=1/\k=0):=by
 unfold xu at h
 by_cases h0:z=0
 ·rw[aG h0]at h;obtain⟨a,b⟩:=eN (bH h);exact .inl ⟨h0,a.symm,b.symm⟩
 rw[aD h0]at h
 by_cases h1:z=1
 ·rw[aG h1]at h;obtain⟨a,b⟩:=eN (bH h);exact .inr (.inl ⟨h1,a.symm,b.symm⟩)
 rw[aD h1]at h
 by_cases h2:z=2
 ·rw[aG h2]at h;obtain⟨a,b⟩:=eN (bH h);exact .inr (.inr (.inl ⟨h2,a.symm,b.symm⟩))
 rw[aD h2]at h
 by_cases h3:z=3
 ·rw[aG h3]at h;obtain⟨a,b⟩:=eN (bH h);exact .inr (.inr (.inr (.inl ⟨h3,a.symm,b.symm⟩)))
 rw[aD h3]at h
 by_cases h4:z=4
 ·rw[aG h4]at h;obtain⟨a,b⟩:=eN (bH h);exact .inr (.inr (.inr (.inr (.inl ⟨h4,a.symm,b.symm⟩))))
 rw[aD h4]at h
 by_cases h5:z=5
 ·rw[aG h5]at h;obtain⟨a,b⟩:=eN (bH h);exact .inr (.inr (.inr (.inr (.inr (.inl ⟨h5,a.symm,b.symm⟩)))))
 rw[aD h5]at h
 by_cases h6:z=6
 ·rw[aG h6]at h;obtain⟨a,b⟩:=eN (bH h);exact .inr (.inr (.inr (.inr (.inr (.inr (.inl ⟨h6,a.symm,b.symm⟩))))))
 rw[aD h6]at h
 by_cases h7:z=7
 ·rw[aG h7]at h;obtain⟨a,b⟩:=eN (bH h);exact .inr (.inr (.inr (.inr (.inr (.inr (.inr (.inl ⟨h7,a.symm,b.symm⟩)))))))
 rw[aD h7]at h
 by_cases h8:z=8
 ·rw[aG h8]at h;obtain⟨a,b⟩:=eN (bH h);exact .inr (.inr (.inr (.inr (.inr (.inr (.inr (.inr (.inl ⟨h8,a.symm,b.symm⟩))))))))
 rw[aD h8]at h
 by_cases h9:z=9
 ·rw[aG h9]at h;obtain⟨a,b⟩:=eN (bH h);exact .inr (.inr (.inr (.inr (.inr (.inr (.inr (.inr (.inr (.inl ⟨h9,a.symm,b.symm⟩)))))))))
 rw[aD h9]at h
 by_cases h10:z=10
 ·rw[aG h10]at h;obtain⟨a,b⟩:=eN (bH h);exact .inr (.inr (.inr (.inr (.inr (.inr (.inr (.inr (.inr (.inr (.inl ⟨h10,a.symm,b.symm⟩))))))))))
 rw[aD h10]at h
 by_cases h11:z=11
 ·rw[aG h11]at h;obtain⟨a,b⟩:=eN (bH h);exact .inr (.inr (.inr (.inr (.inr (.inr (.inr (.inr (.inr (.inr (.inr (.inl ⟨h11,a.symm,b.symm⟩)))))))))))
 rw[aD h11]at h
 by_cases h12:z=12
 ·rw[aG h12]at h;obtain⟨a,b⟩:=eN (bH h);exact .inr (.inr (.inr (.inr (.inr (.inr (.inr (.inr (.inr (.inr (.inr (.inr (.inl ⟨h12,a.symm,b.symm⟩))))))))))))
 rw[aD h12]at h
 by_cases h13:z=13
 ·rw[aG h13]at h;obtain⟨a,b⟩:=eN (bH h);exact .inr (.inr (.inr (.inr (.inr (.inr (.inr (.inr (.inr (.inr (.inr (.inr (.inr (.inl ⟨h13,a.symm,b.symm⟩)))))))))))))
 rw[aD h13]at h
 by_cases h14:z=14
 ·rw[aG h14]at h;obtain⟨a,b⟩:=eN (bH h);exact .inr (.inr (.inr (.inr (.inr (.inr (.inr (.inr (.inr (.inr (.inr (.inr (.inr (.inr (.inl ⟨h14,a.symm,b.symm⟩))))))))))))))
 rw[aD h14]at h
 by_cases h15:z=15
 ·rw[aG h15]at h;obtain⟨a,b⟩:=eN (bH h);exact .inr (.inr (.inr (.inr (.inr (.inr (.inr (.inr (.inr (.inr (.inr (.inr (.inr (.inr (.inr (⟨h15,a.symm,b.symm⟩)))))))))))))))
 rw[aD h15]at h
 cases h
theorem drop_one{ns:List Int}{p:Nat}{z:Int}{r:List Int}(h:ns.drop p=z::r):ns[p]?=some z/\ns.drop (p+1)=r/\p<ns.length:=by
 have hl:p<ns.length:=by
  by_cases q:p<ns.length
  ·exact q
  ·rw[Cw (by omega)]at h
   cases h
 have e:=Qg hl
 rw[h]at e
 obtain⟨e1,e2⟩:=X_ e
 exact⟨by rw[aB hl,e1],e2.symm,hl⟩
theorem UY{r:List Int}(h:2<=r.length):∃x y,r.take 2=[x,y]:=by
 match r,h with
 |x::y::_,_=>exact⟨x,y,rfl⟩
theorem acB{r:List Int}(h:5<=r.length):∃x y z u v,r.take 5=[x,y,z,u,v]:=by
 match r,h with
 |x::y::z::u::v::_,_=>exact⟨x,y,z,u,v,rfl⟩
theorem UZ{r:List Int}(h:1<=r.length):∃x r',r=x::r':=by
 match r,h with
 |x::r',_=>exact⟨x,r',rfl⟩
theorem L8{ns:List Int}{p m:Nat}{r':List Int}(h:ns.drop p=(m:Int)::r')(hm:m<=r'.length)(h2:(r'.take m).length<=2000):Row ns p m/\r'.take m=G3 ns p m/\r'.drop m=ns.drop (p+1+m):=by
 obtain⟨e1,e2,e3⟩:=drop_one h
 rw[a_,Nu hm]at h2
 have hl:r'.length=ns.length-(p+1):=by rw[<-e2,b7]
 refine⟨⟨e1,by omega,h2⟩,?_,?_⟩
 ·unfold G3;rw[e2]
 ·rw[<-e2,zd]
theorem Xy{ns:List Int}{p:Nat}{z:Int}{r t:List Int}{c:List (List Int)}(hr:ns.drop p=z::r)(h:S8 xu (z::r)=some (c,t))(ha:Mq (mD c)=true):∃k p',ns[p]?=some z/\Ol ns z (p+1) k p'/\VatrkfNeutral.callOf (mD c)=some k/\t=ns.drop p':=by
 obtain⟨e1,e2,e3⟩:=drop_one hr
 obtain⟨n,k,xs,hs,hn,nQ,rfl⟩:=aaN h
 have G5:∀{l:List Int},(l.all (fun(z:Int)=>Ac z)&&decide (l.length<=2000))=true->l.length<=2000:=fun h=>by
  rw[bx,aM]at h
  exact h.2
 rcases Xx hs with⟨rfl,rfl,rfl⟩|⟨rfl,rfl,rfl⟩|⟨rfl,rfl,rfl⟩|⟨rfl,rfl,rfl⟩|⟨rfl,rfl,rfl⟩|⟨rfl,rfl,rfl⟩|⟨rfl,rfl,rfl⟩|⟨rfl,rfl,rfl⟩|⟨rfl,rfl,rfl⟩|⟨rfl,rfl,rfl⟩|⟨rfl,rfl,rfl⟩|⟨rfl,rfl,rfl⟩|⟨rfl,rfl,rfl⟩|⟨rfl,rfl,rfl⟩|⟨rfl,rfl,rfl⟩|⟨rfl,rfl,rfl⟩
 ·obtain⟨m,r',er,hm,rfl,rfl⟩:=Ay nQ
  rw[jk,<-e2]at er
  obtain⟨q1,q2,q3⟩:=L8 er hm (G5 ha)
  exact⟨_,_,e1,.old _ m q1,by rw[q2];rfl,q3⟩
 ·obtain⟨m,r',er,hm,rfl,rfl⟩:=Ay nQ
  rw[jk,<-e2]at er
  obtain⟨q1,q2,q3⟩:=L8 er hm (G5 ha)
  exact⟨_,_,e1,.new _ m q1,by rw[q2];rfl,q3⟩
 ·obtain⟨rfl,rfl⟩:=mL nQ
  exact⟨_,_,e1,.copy _,rfl,e2.symm⟩
 ·obtain⟨x,r2,rfl⟩:=UZ hn
  obtain⟨m,r',er,hm,rfl,rfl⟩:=Ay nQ
  obtain⟨f1,f2,f3⟩:=drop_one e2
  have er':ns.drop (p+1+1)=(m:Int)::r':=by rw[f2];exact er
  have ha':(Ac x&&((r'.take m).all (fun(z:Int)=>Ac z)&&decide ((r'.take m).length<=2000)))=true:=ha
  rw[bx]at ha'
  obtain⟨q1,q2,q3⟩:=L8 er' hm (G5 ha'.2)
  exact⟨_,_,e1,.put _ m x f1 q1,by rw[q2];rfl,q3⟩
 ·obtain⟨rfl,rfl⟩:=mL nQ
  obtain⟨x,y,ex⟩:=UY hn
  have hl:p+1+2<=ns.length:=by rw[<-e2,b7]at hn;omega
  exact⟨_,_,e1,.cut _ x y (by rw[e2];exact ex) hl,by rw[ex];rfl,by rw[<-e2,zd]⟩
 ·obtain⟨rfl,rfl⟩:=mL nQ
  obtain⟨x,y,z,u,v,ex⟩:=acB hn
  have hl:p+1+5<=ns.length:=by rw[<-e2,b7]at hn;omega
  exact⟨_,_,e1,.paint _ x y z u v (by rw[e2];exact ex) hl,by rw[ex];rfl,by rw[<-e2,zd]⟩
 ·obtain⟨rfl,rfl⟩:=mL nQ
  exact⟨_,_,e1,.swap _,rfl,e2.symm⟩
 ·obtain⟨rfl,rfl⟩:=mL nQ
  obtain⟨x,y,ex⟩:=UY hn
  have hl:p+1+2<=ns.length:=by rw[<-e2,b7]at hn;omega
  exact⟨_,_,e1,.compare _ x y (by rw[e2];exact ex) hl,by rw[ex];rfl,by rw[<-e2,zd]⟩
 ·obtain⟨rfl,rfl⟩:=mL nQ
  exact⟨_,_,e1,.counts _,rfl,e2.symm⟩
 ·obtain⟨rfl,rfl⟩:=mL nQ
  exact⟨_,_,e1,.row _,rfl,e2.symm⟩
 ·obtain⟨rfl,rfl⟩:=mL nQ
  exact⟨_,_,e1,.changes _,rfl,e2.symm⟩
 ·obtain⟨m,r',er,hm,rfl,rfl⟩:=Ay nQ
  rw[jk,<-e2]at er
  obtain⟨q1,q2,q3⟩:=L8 er hm (G5 ha)
  exact⟨_,_,e1,.version _ m q1,by rw[q2];rfl,q3⟩
 ·obtain⟨m,r',er,hm,rfl,rfl⟩:=Ay nQ
  rw[jk,<-e2]at er
  obtain⟨q1,q2,q3⟩:=L8 er hm (G5 ha)
  exact⟨_,_,e1,.take _ m q1,by rw[q2];rfl,q3⟩
 ·obtain⟨rfl,rfl⟩:=mL nQ
  obtain⟨x,r2,rfl⟩:=UZ hn
  obtain⟨f1,f2,f3⟩:=drop_one e2
  exact⟨_,_,e1,.text _ x f1,rfl,by rw[f2];rfl⟩
 ·obtain⟨rfl,rfl⟩:=mL nQ
  obtain⟨x,y,ex⟩:=UY hn
  have hl:p+1+2<=ns.length:=by rw[<-e2,b7]at hn;omega
  exact⟨_,_,e1,.tokens _ x y (by rw[e2];exact ex) hl,by rw[ex];rfl,by rw[<-e2,zd]⟩
 ·obtain⟨rfl,rfl⟩:=mL nQ
  obtain⟨x,r2,rfl⟩:=UZ hn
  obtain⟨f1,f2,f3⟩:=drop_one e2
  exact⟨_,_,e1,.distance _ x f1,rfl,by rw[f2];rfl⟩
theorem U0{ns:List Int}:∀(f p:Nat)(cs:List (List (List Int))),p<=ns.length->xw xu f (ns.drop p)=some cs->(∀c∈cs,Mq (mD c)=true)->∃ks,UU ns p ks/\ks.length=cs.length/\∀st,S9 (acV l7 st (cs.map mD))=G4 st ks:=by
 intro f
 induction f with
 |zero=>
  intro p cs hp h ha
  cases hd:ns.drop p with
  |nil=>
   rw[hd]at h
   unfold xw at h
   cases h
   have:p=ns.length:=by have:=congrArg AD hd;rw[b7]at this;simp at this;omega
   subst this
   exact⟨[],.done,rfl,fun st=>rfl⟩
  |cons z r=>
   rw[hd]at h
   unfold xw at h
   cases h
 |succ f ih=>
  intro p cs hp h ha
  cases hd:ns.drop p with
  |nil=>
   rw[hd]at h
   unfold xw at h
   cases h
   have:p=ns.length:=by have:=congrArg AD hd;rw[b7]at this;simp at this;omega
   subst this
   exact⟨[],.done,rfl,fun st=>rfl⟩
  |cons z r=>
   rw[hd]at h
   unfold xw at h
   split at h
   ·cases h
   ·rename_i c t e
    split at h
    ·cases h
    ·rename_i cs' e2
     cases h
     obtain⟨k,p',h1,h2,h3,rfl⟩:=Xy hd e (ha c (by simp))
     by_cases hp':p'<=ns.length
     ·obtain⟨ks,l1,l2,l3⟩:=ih p' cs' hp' e2 fun c hc=>ha c (by simp[hc])
      refine⟨k::ks,.next h1 h2 l1,by rw[br,br,l2],fun st=>?_⟩
      have es:l7 st (mD c)=((bS st k).1,dF (bS st k).2):=by unfold l7;rw[h3]
      show S9 ((l7 st (mD c)).2::acV l7 (l7 st (mD c)).1 (cs'.map mD))=_
      rw[es]
      have:=l3 (bS st k).1
      unfold S9 at this⊢
      rw[dY,this]
      rfl
     ·exfalso
      have:p'<=ns.length:=by
       cases h2<;>first|omega|(have q:=(az.mp ‹_›).1;omega)|(obtain⟨_,q,_⟩:=‹Row _ _ _›;omega)|(have q:=(az.mp h1).1;omega)
      exact hp' this
theorem U1{ns:List Int}(h:Ox ns=true):∃ks,UU ns 0 ks/\ks.length<=400/\Wl ns=G4 tW ks:=by
 unfold Ox at h
 unfold Wl
 cases hc:Yh ns with
 |none=>rw[hc]at h;cases h
 |some cs=>
  rw[hc]at h
  have h':(acW 400 cs&&MF cs)=true:=h
  rw[bx]at h'
  unfold Yh at hc
  cases hf:xw xu ns.length ns with
  |none=>rw[hf]at hc;cases hc
  |some cs0=>
   rw[hf]at hc
   cases hc
   have ha:=h'.2
   unfold MF at ha
   rw[bx]at ha
   obtain⟨ks,l1,l2,l3⟩:=U0 ns.length 0 cs0 (bE _) hf fun c hc=>vI.mp ha.1 _ (bI.mpr ⟨c,hc,rfl⟩)
   have hm:=h'.1
   unfold acW at hm
   rw[aM,aa]at hm
   exact⟨ks,l1,by omega,l3 _⟩
open PySem.W (WData Codec OpenSpec Well WellAll ReadsW ReadsAllW)
mutual
inductive Dw(K:ah)(H:Hp):V->WData->Prop
 |jX:Dw K H .jX .none
 |bl (b:Bool):Dw K H (.bl b) (.bool b)
 |int (i:Int):Dw K H (.int i) (.int i)
 |str (x:cM):Dw K H (.str x) (.str x)
 |QI (b:Array UInt8):Dw K H (.QI b) (.bytes b.toList)
 |lst {a:ak} {xs:List V} {ds:List WData}:cG K H a xs->B9 K H xs ds->Dw K H (.ref a) (.list ds)
 |tup {a:ak} {xs:List V} {ds:List WData}:rN K H a xs->B9 K H xs ds->Dw K H (.ref a) (.tuple ds)
inductive B9(K:ah)(H:Hp):List V->List WData->Prop
 |nil:B9 K H [] []
 |cons {v:V} {vs:List V} {d:WData} {ds:List WData}:Dw K H v d->B9 K H vs ds->B9 K H (v::vs) (d::ds)
end
theorem V9{K:ah}{H:Hp}:∀ns:List Int,B9 K H (ns.map V.int) (ns.map WData.int)
 |[]=>.nil
 |n::r=>.cons (.int n) (V9 r)
theorem V_{K:ah}{H:Hp}:∀(ns:List Int)(xs:List V),B9 K H xs (ns.map WData.int)->xs=ns.map V.int
 |[],xs,h=>by
  cases h
  rfl
 |n::r,xs,h=>by
  cases h with
  |cons h1 h2=>
   cases h1
   rw[V_ r _ h2]<;>rfl
section
variable{P:bD}{w:cC}{K:ah}{H:Hp}{h:cY}{R:XN}{cl:cM->Option ak}
theorem ae2{a:ak}{xs:List V}(dz:CA P w H h)(KX:K.In h)(q:cG K H a xs):∃(fi:List ao)(o:mC)(n:Nat),eU xs fi/\h.get? a=some o/\o.cls=.type "list"/\o.data=.seq fi.toArray n:=by
 rcases q with q|⟨o,fi,n,e,hc,_,hd,_,hv⟩
 ·obtain⟨_,fi,n,hv,e⟩:=(show kP P w H h a (.lst xs)from q.ok dz)
  exact⟨fi,_,n,hv,e,rfl,rfl⟩
 ·exact⟨fi.toList,o,n,hv,KX _ _ e,hc,by simp[hd]⟩
theorem ae3{a:ak}{xs:List V}(dz:CA P w H h)(KX:K.In h)(q:rN K H a xs):∃(fi:List ao)(o:mC)(n:Nat),eU xs fi/\h.get? a=some o/\o.cls=.type "tuple"/\o.data=.seq fi.toArray n:=by
 rcases q with q|⟨o,fi,n,e,hc,hd,_,hv⟩
 ·obtain⟨_,fi,hv,o,e,hc,n,hd⟩:=(show kP P w H h a (.tup xs)from q.ok dz)
  exact⟨fi,o,n,hv,e,hc,hd⟩
 ·exact⟨fi.toList,o,n,hv,KX _ _ e,hc,by simp[hd]⟩
mutual
theorem Dw.reads(dz:CA P w H h)(KX:K.In h):∀(d:WData)(v:V)(u:ao),Dw K H v d->gW v u->∃as,ReadsW R cl h u d as
 |.none,_,_,x,r=>by
  cases x
  cases r
  exact⟨_,ReadsW.none⟩
 |.bool b,_,_,x,r=>by
  cases x
  cases r
  exact⟨_,ReadsW.bool b⟩
 |.int i,_,_,x,r=>by
  cases x
  obtain⟨t,rfl⟩:=r
  exact⟨_,ReadsW.int i t⟩
 |.str s,_,_,x,r=>by
  cases x
  obtain⟨t,rfl⟩:=r
  exact⟨_,ReadsW.str s t⟩
 |.bytes b,_,_,x,r=>by
  cases x
  obtain⟨t,rfl⟩:=r
  exact⟨_,ReadsW.bytes _ t⟩
 |.list ds,_,_,x,r=>by
  cases x with
  |lst hs ha=>
   cases r
   obtain⟨fi,o,n,rv,ho,hc,hd⟩:=ae2 dz KX hs
   obtain⟨as,hr⟩:=Dw.readsAll dz KX ds _ fi ha rv
   exact⟨_,ReadsW.list ho hc hd hr⟩
 |.tuple ds,_,_,x,r=>by
  cases x with
  |tup hs ha=>
   cases r
   obtain⟨fi,o,n,rv,ho,hc,hd⟩:=ae3 dz KX hs
   obtain⟨as,hr⟩:=Dw.readsAll dz KX ds _ fi ha rv
   exact⟨_,ReadsW.tuple ho hc hd hr⟩
 |.float _,_,_,x,_=>by cases x
 |.dict _,_,_,x,_=>by cases x
 |.bytearray _,_,_,x,_=>by cases x
 |.set _,_,_,x,_=>by cases x
 |.frozenset _,_,_,x,_=>by cases x
 |.obj _ _,_,_,x,_=>by cases x
theorem Dw.readsAll(dz:CA P w H h)(KX:K.In h):∀(ds:List WData)(vs:List V)(us:List ao),B9 K H vs ds->eU vs us->∃as,ReadsAllW R cl h us ds as
 |[],_,_,x,r=>by
  cases x
  cases r
  exact⟨_,ReadsAllW.nil⟩
 |d::ds,_,_,x,r=>by
  cases x with
  |cons h1 h2=>
   cases r with
   |cons r1 r2=>
    obtain⟨as,q1⟩:=Dw.reads dz KX d _ _ h1 r1
    obtain⟨bs,q2⟩:=Dw.readsAll dz KX ds _ _ h2 r2
    exact⟨_,ReadsAllW.cons q1 q2⟩
end
end
mutual
def Wa:WData->Bool
 |.none=>true
 |.bool _=>true
 |.int _=>true
 |.str _=>true
 |.bytes _=>true
 |.list xs=>JL xs
 |.tuple xs=>JL xs
 |_=>false
def JL:List WData->Bool
 |[]=>true
 |x::r=>Wa x&&JL r
end
theorem So{α:Type}{f:α->WData}(h:∀a,Wa (f a)=true):∀l:List α,JL (l.map f)=true
 |[]=>rfl
 |x::r=>by
  show(Wa (f x)&&JL (r.map f))=true
  rw[h x,So h r]<;>rfl
theorem DG:∀(c:Codec)(a:c.denote),Wa (c.enc a)=true
 |.unit,_=>rfl
 |.bool,_=>rfl
 |.int _ _,_=>rfl
 |.nat _ _,_=>rfl
 |.u8,_=>rfl
 |.bytes _ _,_=>rfl
 |.text _ _ _ _,_=>rfl
 |.list _ _ c,a=>So (fun x=>DG c x) a
 |.pair c d,a=>by
  show(Wa (c.enc a.1)&&(Wa (d.enc a.2)&&true))=true
  rw[DG c a.1,DG d a.2]<;>rfl
 |.triple c d e,a=>by
  show(Wa (c.enc a.1)&&(Wa (d.enc a.2.1)&&(Wa (e.enc a.2.2)&&true)))=true
  rw[DG c a.1,DG d a.2.1,DG e a.2.2]<;>rfl
 |.option c,none=>rfl
 |.option c,some x=>DG c x
theorem Oo:∀(cs:List Codec)(a:Codec.denoteAll cs),JL (Codec.encAll cs a)=true
 |[],_=>rfl
 |c::cs,a=>by
  show(Wa (c.enc a.1)&&JL (Codec.encAll cs a.2))=true
  rw[DG c a.1,Oo cs a.2]<;>rfl
theorem FI:∀{xs:List WData}{d:WData},d∈xs->d.weight<=WData.weightAll xs
 |[],d,h=>absurd h (by simp)
 |x::r,d,h=>by
  show d.weight<=x.weight+1+WData.weightAll r
  rcases aW.mp h with e|m
  ·rw[e]
   omega
  ·have z:=FI m
   omega
def Sq:ao->V
 |.none=>.jX
 |.bool b=>.bl b
 |.int i _=>.int i
 |.str x _=>.str x
 |.bytes b _=>.QI b
 |.ref a=>.ref a
 |_=>.jX
def Xz(A:List ak):ao->Prop
 |.none=>True
 |.bool _=>True
 |.int _ _=>True
 |.str _ _=>True
 |.bytes _ _=>True
 |.ref a=>a∈A
 |_=>False
theorem Xz.mono{A B:List ak}(h:∀a∈A,a∈B):∀{u:ao},Xz A u->Xz B u:=fun{u}x=>by
 cases u with
 |ref a=>exact h a x
 |none=>trivial
 |bool b=>trivial
 |int i t=>trivial
 |str s t=>trivial
 |bytes b t=>trivial
 |_=>exact gX x
theorem aaO{A:List ak}{u:ao}(x:Xz A u):gW (Sq u) u:=by
 cases u with
 |ref a=>rfl
 |none=>rfl
 |bool b=>rfl
 |int i t=>exact⟨t,rfl⟩
 |str s t=>exact⟨t,rfl⟩
 |bytes b t=>exact⟨t,rfl⟩
 |_=>exact gX x
theorem Az{A:List ak}:∀{vs:List ao},(∀u∈vs,Xz A u)->eU (vs.map Sq) vs
 |[],_=>.nil
 |u::r,h=>.cons (aaO (h u (cV ..))) (Az fun x hx=>h x (bO _ hx))
def B_(h:cY)(A:List ak)(a:ak):Prop:=∃vs:List ao,vs.length<=aK/\(∀u∈vs,Xz A u)/\
 (h.get? a=some {cls:=.type "list",data:=.seq vs.toArray}\/h.get? a=some {cls:=.type "tuple",data:=.seq vs.toArray})
theorem B_.mono{h:cY}{A B:List ak}{a:ak}(k:∀a∈A,a∈B)(x:B_ h A a):B_ h B a:=by
 obtain⟨vs,h1,h2,h3⟩:=x
 exact⟨vs,h1,fun u hu=>(h2 u hu).mono k,h3⟩
theorem yW{P:Mr}{h:cY}:∀{vs:List ao}{ds:List WData},WellAll P h vs ds->vs.length=ds.length
 |_,_,.nil=>rfl
 |_,_,.cons _ b=>by
  show _+1=_+1
  rw[yW b]
theorem Oq{P:Mr}{h:cY}{v:ao}{ds:List WData}(x:Well P h v (.list ds)):∃(a:ak)(vs:List ao),v=.ref a/\h.get? a=some {cls:=.type "list",data:=.seq vs.toArray}/\WellAll P h vs ds:=by
 cases x with
 |list ho EX=>exact⟨_,_,rfl,ho,EX⟩
theorem L_{P:Mr}{h:cY}{v:ao}{ds:List WData}(x:Well P h v (.tuple ds)):∃(a:ak)(vs:List ao),v=.ref a/\h.get? a=some {cls:=.type "tuple",data:=.seq vs.toArray}/\WellAll P h vs ds:=by
 cases x with
 |tuple ho EX=>exact⟨_,_,rfl,ho,EX⟩
theorem Ot{P:Mr}{h:cY}{us:List ao}{d:WData}{ds:List WData}(x:WellAll P h us (d::ds)):∃(v:ao)(vs:List ao),us=v::vs/\Well P h v d/\WellAll P h vs ds:=by
 cases x with
 |cons a b=>exact⟨_,_,rfl,a,b⟩
theorem Wb{n:Nat}(h:n<=1048576):n<=aK:=bQ h (by decide)
section
variable{P:Mr}{h:cY}
mutual
theorem aaP:∀(d:WData)(v:ao),Well P h v d->Wa d=true->d.weight<=1048576->∃A:List ak,Xz A v/\∀a∈A,B_ h A a
 |.none,_,x,_,_=>by
  cases x
  exact⟨[],trivial,fun a m=>absurd m (by simp)⟩
 |.bool b,_,x,_,_=>by
  cases x
  exact⟨[],trivial,fun a m=>absurd m (by simp)⟩
 |.int i,_,x,_,_=>by
  cases x
  exact⟨[],trivial,fun a m=>absurd m (by simp)⟩
 |.str s,_,x,_,_=>by
  cases x
  exact⟨[],trivial,fun a m=>absurd m (by simp)⟩
 |.bytes b,_,x,_,_=>by
  cases x
  exact⟨[],trivial,fun a m=>absurd m (by simp)⟩
 |.list ds,_,x,p,z=>by
  obtain⟨a,vs,rfl,ho,EX⟩:=Oq x
  have z2:WData.weightAll ds<=1048576:=z
  obtain⟨A,h1,h2⟩:=G6 ds _ EX p fun d hd=>bQ (FI hd) z2
  have k:∀b∈A,b∈a::A:=fun b hb=>bO _ hb
  refine⟨a::A,cV ..,fun b hb=>?_⟩
  rcases aW.mp hb with e|m
  ·rw[e]
   exact⟨vs,Wb (by rw[yW EX];exact bQ (J7 ds) z2),fun u hu=>(h1 u hu).mono k,.inl ho⟩
  ·exact(h2 b m).mono k
 |.tuple ds,_,x,p,z=>by
  obtain⟨a,vs,rfl,ho,EX⟩:=L_ x
  have z2:WData.weightAll ds<=1048576:=z
  obtain⟨A,h1,h2⟩:=G6 ds _ EX p fun d hd=>bQ (FI hd) z2
  have k:∀b∈A,b∈a::A:=fun b hb=>bO _ hb
  refine⟨a::A,cV ..,fun b hb=>?_⟩
  rcases aW.mp hb with e|m
  ·rw[e]
   exact⟨vs,Wb (by rw[yW EX];exact bQ (J7 ds) z2),fun u hu=>(h1 u hu).mono k,.inr ho⟩
  ·exact(h2 b m).mono k
 |.float _,_,_,p,_=>fY (show false=true from p)
 |.dict _,_,_,p,_=>fY (show false=true from p)
 |.bytearray _,_,_,p,_=>fY (show false=true from p)
 |.set _,_,_,p,_=>fY (show false=true from p)
 |.frozenset _,_,_,p,_=>fY (show false=true from p)
 |.obj _ _,_,_,p,_=>fY (show false=true from p)
theorem G6:∀(ds:List WData)(vs:List ao),WellAll P h vs ds->JL ds=true->(∀d∈ds,d.weight<=1048576)->∃A:List ak,(∀u∈vs,Xz A u)/\∀a∈A,B_ h A a
 |[],_,x,_,_=>by
  cases x
  exact⟨[],fun u m=>absurd m (by simp),fun a m=>absurd m (by simp)⟩
 |d::ds,_,x,p,z=>by
  obtain⟨v,vs,rfl,x1,x2⟩:=Ot x
  have q:Wa d=true/\JL ds=true:=Wm.mp p
  obtain⟨A,a1,a2⟩:=aaP d v x1 q.1 (z d (cV ..))
  obtain⟨B,b1,b2⟩:=G6 ds vs x2 q.2 fun e he=>z e (bO _ he)
  have kA:∀b∈A,b∈A++B:=fun b hb=>aX.mpr (.inl hb)
  have kB:∀b∈B,b∈A++B:=fun b hb=>aX.mpr (.inr hb)
  refine⟨A++B,fun u hu=>?_,fun b hb=>?_⟩
  ·rcases aW.mp hu with e|m
   ·rw[e]
    exact a1.mono kA
   ·exact(b1 u m).mono kB
  ·rcases aX.mp hb with m|m
   ·exact(a2 b m).mono kA
   ·exact(b2 b m).mono kB
end
end
def acC(o:mC):Option HO:=match o.data with
 |.seq vs _=>if(o.cls==vG "list")=true then some (.Oz o (.lst (vs.toList.map Sq)))else some (.Oz o (.tup (vs.toList.map Sq)))
 |_=>none
def BF(K:ah)(h:cY)(A:List ak):Hp:=fun b=>if b∈A then(if(K.lookup b).isNone=true then(h.get? b).bind acC else none)else none
def Ss(H:Hp):Prop:=∀b,H b=none\/∃o u,H b=some (.Oz o u)
theorem Su(vs:List ao):acC {cls:=.type "list",data:=.seq vs.toArray}=some (.Oz {cls:=.type "list",data:=.seq vs.toArray} (.lst (vs.map Sq))):=by
 show(if(vG "list"==vG "list")=true then some (HO.Oz {cls:=.type "list",data:=.seq vs.toArray} (.lst (vs.toArray.toList.map Sq)))else some (HO.Oz {cls:=.type "list",data:=.seq vs.toArray} (.tup (vs.toArray.toList.map Sq))))=_
 rw[aG (dW _)]
theorem Sv(vs:List ao):acC {cls:=.type "tuple",data:=.seq vs.toArray}=some (.Oz {cls:=.type "tuple",data:=.seq vs.toArray} (.tup (vs.map Sq))):=by
 show(if(vG "tuple"==vG "list")=true then some (HO.Oz {cls:=.type "tuple",data:=.seq vs.toArray} (.lst (vs.toArray.toList.map Sq)))else some (HO.Oz {cls:=.type "tuple",data:=.seq vs.toArray} (.tup (vs.toArray.toList.map Sq))))=_
 rw[aD (by decide)]
section
variable{P:bD}{w:cC}{K:ah}{h:cY}{A:List ak}
theorem Kr{b:ak}{o:mC}(hb:b∈A)(hk:K.lookup b=none)(e:h.get? b=some o):BF K h A b=acC o:=by
 unfold BF
 rw[aG hb,hk,aG (show(none:Option mC).isNone=true from rfl),e]<;>rfl
theorem acD{b:ak}{u:HO}(q:BF K h A b=some u):b∈A/\K.lookup b=none:=by
 unfold BF at q
 by_cases hb:b∈A
 ·rw[aG hb]at q
  cases hk:K.lookup b with
  |none=>exact⟨hb,rfl⟩
  |some o=>
   rw[hk,aD (by simp)]at q
   cases q
 ·rw[aD hb]at q
  cases q
theorem Ks(ar:∀a∈A,B_ h A a){b:ak}{u:HO}(q:BF K h A b=some u):K.lookup b=none/\∃vs:List ao,vs.length<=aK/\(∀u∈vs,Xz A u)/\((h.get? b=some {cls:=.type "list",data:=.seq vs.toArray}/\u=.Oz {cls:=.type "list",data:=.seq vs.toArray} (.lst (vs.map Sq)))\/(h.get? b=some {cls:=.type "tuple",data:=.seq vs.toArray}/\u=.Oz {cls:=.type "tuple",data:=.seq vs.toArray} (.tup (vs.map Sq)))):=by
 obtain⟨hb,hk⟩:=acD q
 obtain⟨vs,h1,h2,h3⟩:=ar b hb
 refine⟨hk,vs,h1,h2,?_⟩
 rcases h3 with e|e
 ·rw[Kr hb hk e,Su]at q
  exact .inl ⟨e,(bH q).symm⟩
 ·rw[Kr hb hk e,Sv]at q
  exact .inr ⟨e,(bH q).symm⟩
theorem XA(ar:∀a∈A,B_ h A a):Ss (BF K h A):=fun b=>by
 cases q:BF K h A b with
 |none=>exact .inl rfl
 |some u=>
  obtain⟨_,vs,_,_,⟨_,e⟩|⟨_,e⟩⟩:=Ks ar q
  ·exact .inr ⟨_,_,by rw[e]⟩
  ·exact .inr ⟨_,_,by rw[e]⟩
theorem acE(ar:∀a∈A,B_ h A a):CA P w (BF K h A) h:=fun b u q=>by
 obtain⟨_,vs,h1,h2,⟨e,rfl⟩|⟨e,rfl⟩⟩:=Ks ar q
 ·exact⟨e,by rw[aa];exact h1,vs,_,Az h2,e⟩
 ·exact⟨e,by rw[aa];exact h1,vs,Az h2,_,e,rfl,_,rfl⟩
theorem Ku{c c':ao}{vs us:List ao}(e:(some {cls:=c,data:=.seq vs.toArray}:Option mC)=some {cls:=c',data:=.seq us.toArray}):c=c'/\vs=us:=by
 have e1:=bH e
 have e2:c=c':=congrArg Obj.cls e1
 have e3:Wn vs.toArray=Wn us.toArray:=congrArg Obj.data e1
 injection e3 with e4
 refine⟨e2,?_⟩
 have e5:=congrArg Array.toList e4
 simpa using e5
theorem akn(KX:K.In h)(ar:∀a∈A,B_ h A a){a:ak}{vs:List ao}(ha:a∈A)(e:h.get? a=some {cls:=.type "list",data:=.seq vs.toArray}):(∀u∈vs,Xz A u)/\cG K (BF K h A) a (vs.map Sq):=by
 obtain⟨us,h1,h2,h3⟩:=ar a ha
 have hu:us=vs:=by
  rcases h3 with q|q
  ·rw[e]at q
   exact(Ku q).2.symm
  ·rw[e]at q
   exact absurd (Ce (Ku q).1) (by decide)
 subst hu
 refine⟨h2,?_⟩
 cases hk:K.lookup a with
 |none=>exact .inl (.inr ⟨_,by rw[Kr ha hk e,Su]⟩)
 |some o=>
  have e2:=KX a o hk
  rw[e]at e2
  obtain rfl:=bH e2
  exact .inr ⟨_,us.toArray,_,hk,rfl,rfl,rfl,by rw[bw];exact h1,by simpa using Az h2⟩
theorem ako(KX:K.In h)(ar:∀a∈A,B_ h A a){a:ak}{vs:List ao}(ha:a∈A)(e:h.get? a=some {cls:=.type "tuple",data:=.seq vs.toArray}):(∀u∈vs,Xz A u)/\rN K (BF K h A) a (vs.map Sq):=by
 obtain⟨us,h1,h2,h3⟩:=ar a ha
 have hu:us=vs:=by
  rcases h3 with q|q
  ·rw[e]at q
   exact absurd (Ce (Ku q).1) (by decide)
  ·rw[e]at q
   exact(Ku q).2.symm
 subst hu
 refine⟨h2,?_⟩
 cases hk:K.lookup a with
 |none=>exact .inl (.inr ⟨_,by rw[Kr ha hk e,Sv]⟩)
 |some o=>
  have e2:=KX a o hk
  rw[e]at e2
  obtain rfl:=bH e2
  exact .inr ⟨_,us.toArray,_,hk,rfl,rfl,by rw[bw];exact h1,by simpa using Az h2⟩
mutual
theorem ae4{Pm:Mr}(KX:K.In h)(ar:∀a∈A,B_ h A a):∀(d:WData)(v:ao),Well Pm h v d->Wa d=true->Xz A v->Dw K (BF K h A) (Sq v) d
 |.none,_,x,_,_=>by
  cases x
  exact .jX
 |.bool b,_,x,_,_=>by
  cases x
  exact .bl b
 |.int i,_,x,_,_=>by
  cases x
  exact .int i
 |.str s,_,x,_,_=>by
  cases x
  exact .str s
 |.bytes b,_,x,_,_=>by
  cases x
  have z:=Dw.QI (K:=K) (H:=BF K h A) b.toArray
  exact z
 |.list ds,_,x,p,hu=>by
  obtain⟨a,vs,rfl,ho,EX⟩:=Oq x
  obtain⟨h2,hs⟩:=akn KX ar hu ho
  exact .lst hs (PY KX ar ds _ EX p h2)
 |.tuple ds,_,x,p,hu=>by
  obtain⟨a,vs,rfl,ho,EX⟩:=L_ x
  obtain⟨h2,hs⟩:=ako KX ar hu ho
  exact .tup hs (PY KX ar ds _ EX p h2)
 |.float _,_,_,p,_=>fY (show false=true from p)
 |.dict _,_,_,p,_=>fY (show false=true from p)
 |.bytearray _,_,_,p,_=>fY (show false=true from p)
 |.set _,_,_,p,_=>fY (show false=true from p)
 |.frozenset _,_,_,p,_=>fY (show false=true from p)
 |.obj _ _,_,_,p,_=>fY (show false=true from p)
theorem PY{Pm:Mr}(KX:K.In h)(ar:∀a∈A,B_ h A a):∀(ds:List WData)(vs:List ao),WellAll Pm h vs ds->JL ds=true->(∀u∈vs,Xz A u)->B9 K (BF K h A) (vs.map Sq) ds
 |[],_,x,_,_=>by
  cases x
  exact .nil
 |d::ds,_,x,p,hu=>by
  obtain⟨v,vs,rfl,x1,x2⟩:=Ot x
  have q:Wa d=true/\JL ds=true:=Wm.mp p
  exact .cons (ae4 KX ar d v x1 q.1 (hu _ (cV ..))) (PY KX ar ds vs x2 q.2 fun u m=>hu u (bO _ m))
end
end
theorem XC{P:bD}{w:cC}{K:ah}{mg mb:cM->Option ao}{CX:XR}{k:Nat}{fa:ak}{fd:iW}{ps:List cM}{sp:Sp}{s₁:aN}{Nf:List ao}{ds:List WData}{R:XN}{cl:cM->Option ak}{d0:WData}(KX:K.In s₁.heap)(hns:s₁.heap.Ns f_ mg)(hb:s₁.heap.Ns builtinsNs mb)(hbb:∀x:cM,x≠"__name__"->mb x=r8 x)(akp:s₁.heap.NoLimit)(hg:s₁.gens=#[])(hwl:WellAll w.params s₁.heap Nf ds)(Eo:JL ds=true)(hwt:∀d∈ds,d.weight<=1048576)(hr:lZ k S_)(F:∀base:cY,K.In base->base.Ns f_ mg->yr P w K mg base CX k fa fd ps sp)(aho:∀(s:aN)(us:List ao),us.length=ps.length->SW s fd ⟨us,[]⟩ (ps.zip us))(jT:ds.length=ps.length)(hsp:∀(H:Hp)(xs:List V),Ss H->B9 K H xs ds->sp xs H (fun v H'=>Dw K H' v d0) fun _ _ _=>False)(hCX:∀H e s',CX [] H s₁ (fun _ _ _=>False) e s'->False):Nq (cI P w) S_ (.call (.ref fa) ⟨Nf,[]⟩) (fun r s'=>∃u as,r=.ok (.ret u)/\ReadsW R cl s'.heap u d0 as/\OldK s₁.heap s'.heap/\s'.os=s₁.os/\Nm s'.gens) s₁:=by
 obtain⟨A,ho,ar⟩:=G6 ds Nf hwl Eo hwt
 have hO:Ss (BF K s₁.heap A):=XA ar
 have dz:CA P w (BF K s₁.heap A) s₁.heap:=acE ar
 have hS:=PY KX ar ds Nf hwl Eo ho
 have hV:=Az ho
 have hK:∀b u,BF K s₁.heap A b=some u->K.lookup b=none:=fun b u q=>(Ks ar q).1
 have noA:∀{b:ak}{o:mC}{es:Array DictEntry}{ep:Nat},s₁.heap.get? b=some o->o.data=.dict es ep->BF K s₁.heap A b=none:=fun{b o es ep}e d=>by
  cases q:BF K s₁.heap A b with
  |none=>rfl
  |some u=>
   obtain⟨_,vs,_,_,⟨e2,_⟩|⟨e2,_⟩⟩:=Ks ar q
   ·rw[e2]at e
    cases e
    have d':Wn vs.toArray _=Data.dict es ep:=d
    cases d'
   ·rw[e2]at e
    cases e
    have d':Wn vs.toArray _=Data.dict es ep:=d
    cases d'
 generalize BF K s₁.heap A=H at hO dz hS hK noA
 have Wc:∀{b:ak}{o:mC},s₁.heap.get? b=some o->H b=none->(OB s₁.heap H).get? b=some o:=fun e n=>Yl e n
 have nsK:∀{b:ak}{m:cM->Option ao},s₁.heap.Ns b m->(OB s₁.heap H).Ns b m:=fun{b m}⟨o,es,ep,e,d,r⟩=>⟨o,es,ep,Wc e (noA e d),d,r⟩
 have nK:∀b o,K.lookup b=some o->H b=none:=fun b o e=>by
  cases q:H b with
  |none=>rfl
  |some u=>
   rw[hK b u q]at e
   cases e
 have hKb:K.In (OB s₁.heap H):=fun b o e=>Wc (KX b o e) (nK b o e)
 have hM:Mod K mg (OB s₁.heap H):=⟨hKb,nsK hns,⟨mb,nsK hb,hbb⟩,let⟨mc,h1,h2⟩:=akp;⟨mc,nsK h1,h2⟩⟩
 have e0:QS P w K mg (OB s₁.heap H) S_ [] s₁ H:=⟨rfl,hM,fun b o e=>abp e,uP (Ws _ _),trivial,fun b hb=>absurd (show b∈([]:List ak)from hb) (by simp),dz,.of_eq hg⟩
 have hl:Nf.length=ps.length:=by rw[yW hwl];exact jT
 refine wg ((F _ hKb (nsK hns)).run S_ [] s₁ H ⟨Nf,[]⟩ Nf (Nf.map Sq) _ _ hr e0 (aho s₁ Nf hl) hV (hsp H _ hO hS)) fun r s' x=>?_
 cases r with
 |error e=>exact(hCX H e s' x).elim
 |ok fl=>
  cases fl with
  |next=>exact gX x
  |brk=>exact gX x
  |cont=>exact gX x
  |ret u=>
   obtain⟨v,H',os,bare,un,Ux,r',q⟩:=x
   have kept:∀b o,s₁.heap.get? b=some o->s'.heap.get? b=some o:=fun b o e=>by
    cases q2:H b with
    |none=>exact un.keep b o e q2 (by intro z;exact absurd (show b∈([]:List ak)from z) (by simp)) (by simp)
    |some u2=>
     rcases hO b with z|⟨ob,u3,z⟩
     ·rw[q2]at z
      cases z
     ·have z2:=un.OA b ob _ z
      obtain⟨e1,_⟩:=dz b _ z
      obtain⟨e2,_⟩:=Ux b _ z2
      rw[e]at e1
      cases e1
      exact e2
   have KX':K.In s'.heap:=fun b o e=>kept b o (KX b o e)
   obtain⟨as,hrd⟩:=Dw.reads (R:=R) (cl:=cl) Ux KX' d0 v u q r'
   exact⟨u,as,rfl,hrd,OldK.of_keep kept,os,bare⟩
theorem Ma{ds:List WData}(h:WData.layableAll ds=true):∀d∈ds,d.weight<=1048576:=fun d hd=>
 (PySem.W.layableW_iff.mp (vI.mp h d hd)).2.2
theorem Mb:∀(cs:List Codec)(a:Codec.denoteAll cs),(Codec.encAll cs a).length=cs.length
 |[],_=>rfl
 |c::cs,a=>by
  show(Codec.encAll cs a.2).length+1=cs.length+1
  rw[Mb cs a.2]
theorem XD{r:OpenSpec}{k:Nat}{q:bD}{aaQ:List cM}{XP:(cM->Option ao)->cY->Prop}{YP:cC->cY->Prop}{d:DefRec}{K:Mr->ah}{CX:cC->XR}{ps:List cM}{sp:cC->Sp}(aaR:r.wellSaid=true)(hdf:d.params.defaults=[])(jT:r.args.length=ps.length)(hr:lZ k S_)(hY:∀(w:cC)(h:cY),YP w h->(K w.params).In h)(F:∀(w:cC)(mg:cM->Option ao)(fa:ak)(h:cY),YP w h->(K w.params).In h->h.Ns f_ mg->mg d.name=some (.ref fa)->∃fd:iW,(∀(s:aN)(us:List ao),us.length=ps.length->SW s fd ⟨us,[]⟩ (ps.zip us))/\∀base:cY,(K w.params).In base->base.Ns f_ mg->yr r.prog w (K w.params) mg base (CX w) k fa fd ps (sp w))(hsp:∀(w:cC)(H:Hp)(xs:List V)(a:Codec.denoteAll r.args),Ss H->Codec.withinAll r.args a=true->Codec.app r.args r.asked a=true->B9 (K w.params) H xs (Codec.encAll r.args a)->sp w xs H (fun v H'=>Dw (K w.params) H' v (r.ret.enc (Codec.app r.args r.f a))) fun _ _ _=>False)(hCX:∀(w:cC)(H:Hp)(s:aN)(e:ao)(s':aN),CX w [] H s (fun _ _ _=>False) e s'->False):aa5 q aaQ XP YP r d [] (fun f vs=>PySem.call f vs):=by
 intro w MI s₁ mg mb G Y fa o pm cd vH dV kV ho hd hcd hD hmg hg args Nf as akr aks hrd hwl hlo
 obtain⟨a,e1,e2⟩:=PySem.W.os_pre_some akr
 obtain⟨e3,hwi⟩:=Codec.encAll_of_decAll r.args args a e1
 subst e3
 have KX:=hY w _ Y
 obtain⟨fd,hb,hF⟩:=F w mg fa _ Y KX G.T.g hmg
 refine PySem.W.enter_call (wg (XC (R:=[]) (cl:=classAt MI.heap) (d0:=r.ret.enc (Codec.app r.args r.f a)) KX G.T.g G.T.b G.T.builtins G.T.nolimit hg hwl (Oo _ _) (Ma aks) hr hF hb (by rw[Mb];exact jT)
  (fun H xs hO hS=>hsp w H xs a hO hwi e2 hS) fun H e s'=>hCX w H s₁ e s') fun r' s' hq=>?_)
 obtain⟨u,as',rfl,h1,h2,h3,h4⟩:=hq
 exact⟨.inl ⟨u,_,as',rfl,fun _=>rfl,h1,(OpenSpec.post_iff aaR hwi _ _).mpr rfl,fun z=>fY (show false=true from z)⟩,h2,h3,h4⟩
theorem U3{r:OpenSpec}{k:Nat}{q:bD}{aaQ:List cM}{XP:(cM->Option ao)->cY->Prop}{YP:cC->cY->Prop}{d:DefRec}{K:Mr->ah}{CX:XR}{ps:List cM}{sp:ah->Sp}(aaR:r.wellSaid=true)(hdf:d.params.defaults=[])(jT:r.args.length=ps.length)(hr:lZ k S_)(hY:∀(w:cC)(h:cY),YP w h->(K w.params).In h)(F:∀(w:cC)(mg:cM->Option ao)(fa:ak)(h:cY),YP w h->(K w.params).In h->h.Ns f_ mg->mg d.name=some (.ref fa)->∃fd:iW,(∀(s:aN)(us:List ao),us.length=ps.length->SW s fd ⟨us,[]⟩ (ps.zip us))/\∀base:cY,(K w.params).In base->base.Ns f_ mg->yr r.prog w (K w.params) mg base CX k fa fd ps (sp (K w.params)))(hsp:∀(K:ah)(H:Hp)(xs:List V)(a:Codec.denoteAll r.args),Ss H->Codec.withinAll r.args a=true->Codec.app r.args r.asked a=true->B9 K H xs (Codec.encAll r.args a)->sp K xs H (fun v H'=>Dw K H' v (r.ret.enc (Codec.app r.args r.f a))) fun _ _ _=>False)(hCX:∀(H:Hp)(s:aN)(e:ao)(s':aN),CX [] H s (fun _ _ _=>False) e s'->False):aa5 q aaQ XP YP r d [] (fun f vs=>PySem.call f vs):=
 XD (K:=K) (CX:=fun _=>CX) (sp:=fun w=>sp (K w.params)) aaR hdf jT hr hY F (fun w H xs a h1 h2 h3 h4=>hsp (K w.params) H xs a h1 h2 h3 h4) fun _ H s e s'=>hCX H s e s'
theorem ae5{P:bD}{w:cC}{K:ah}{mg:cM->Option ao}{CS CP CH CC CR CD f:ak}{fd:iW}(G:fT K mg)(TS:iO K CS sR)(TP:iO K CP n9)(TH:iO K CH xP)(TC:iO K CC tF)(TR:iO K CR DA)(TD:iO K CD iQ)(Ik:jL K mg "is_sign" D3 ["number"])(DH:jL K mg "are_signs" yG ["numbers"])(vV:jL K mg "plain_letters" qQ ["signs"])(BG:jL K mg "plain_text" wG ["signs"])(vW:jL K mg "inner_letters" qR ["text"])(uJ:jL K mg "painted_letter" pZ ["letter","prop","value"])(tK:jL K mg "entries_between" oM ["old_letter","new_letter"])(BH:jL K mg "difference" wH ["old_letter","new_letter"])(FJ:jL K mg "is_grain" A1 ["number"])(x9:jL K mg "is_word_sign" sI ["sign"])(zL:jL K mg "word_tokens" uS ["letters"])(DI:jL K mg "tokens_of" yI ["text","grain"])(Il:jL K mg "word_of" D4 ["token"])(DJ:jL K mg "keep_cost" yJ ["old_token","new_token"])(FL:jL K mg "keep_row" A3 ["old_token","new_tokens","new_words"])(BI:jL K mg "keep_table" wJ ["old_tokens","new_tokens"])(vX:jL K mg "last_cost_row" qU ["new_sizes"])(FN:jL K mg "cost_row" A4 ["old_size","new_sizes","keeps","below"])(BJ:jL K mg "cost_table" wK ["old_sizes","new_sizes","keeps"])(x_:E1 K mg CS "Scripts" "Scripts.__init__" m9 ["self","old_text","new_text","grain"])(BK:iZ K CS "least_cost" "Scripts.least_cost" lA ["self"])(FO:iZ K CS "may_keep" "Scripts.may_keep" m_ ["self","i","j"])(FP:iZ K CS "may_drop" "Scripts.may_drop" ng ["self","i","j"])(DK:iZ K CS "step_from" "Scripts.step_from" l9 ["self","i","j"])(yb:iZ K CS "chosen_steps" "Scripts.chosen_steps" jZ ["self"])(BL:E1 K mg CP "Piece" "Piece.__init__" p7 ["self","fate","letter","entries"])(zM:jL K mg "kept_pieces" uU ["old_letters","new_letters"])(zN:jL K mg "bare_pieces" uV ["fate","letters"])(vY:jL K mg "row_of_pieces" qV ["old_text","new_text","scripts"])(DL:jL K mg "stretches" yK ["marks"])(zO:E1 K mg CH "Change" "Change.__init__" oN ["self","kind","put_places","dropped_places","painted_places","painted_property"])(uK:jL K mg "fate_stretches" p6 ["row","fate"])(zP:jL K mg "entry_value" uT ["piece","prop"])(Mc:jL K mg "paints" Gs ["row"])(BN:jL K mg "letters_at" wL ["row","places"])(BO:jL K mg "first_like" wM ["row","cut_places","puts"])(U4:jL K mg "rank" OW ["change"])(oF:jL K mg "cuts_puts_and_moves" kG ["row","least"])(BP:jL K mg "changes_of" wN ["row","least"])(qA:jL K mg "numbers_of_pieces" l_ ["row","changes"])(pO:jL K mg "numbers_of_entries" lB ["row","changes"])(tM:E1 K mg CC "Comparison" "Comparison.__init__" kH ["self","row","changes","cost"])(rK:jL K mg "distance_between" nh ["old_text","new_text","grain"])(FQ:jL K mg "compared" A6 ["old_text","new_text","grain","least"])(zQ:jL K mg "told_letter" uW ["letter"])(DM:jL K mg "told_text" yL ["text"])(zR:jL K mg "told_tokens" uX ["tokens"])(zS:jL K mg "told_counts" uY ["row"])(yc:jL K mg "told_entries" sM ["entries","numbers"])(FT:jL K mg "told_row" Ba ["comparison"])(yd:jL K mg "told_changes" sN ["changes"])(zT:jL K mg "is_left_out" uZ ["piece","number","accepted"])(uL:jL K mg "version_letter" p8 ["piece","numbers","accepted"])(BQ:jL K mg "version_of" wO ["comparison","numbers"])(zU:E1 K mg CR "CallReader" "CallReader.__init__" kI ["self","calls"])(FU:iZ K CR "has_more" "CallReader.has_more" kJ ["self"])(ye:iZ K CR "read_numbers" "CallReader.read_numbers" jo ["self","amount"])(zV:iZ K CR "read_number" "CallReader.read_number" jB ["self"])(FW:iZ K CR "read_row" "CallReader.read_row" kK ["self"])(rL:jL K mg "refusal_of_signs" ni ["signs"])(Im:jL K mg "is_text" D5 ["w"])(BR:iZ K CD "hold_texts" "Desk.hold_texts" oO ["self","old_text","new_text"])(Io:iZ K CD "set_old" "Desk.set_old" sO ["self","signs"])(Ip:iZ K CD "set_new" "Desk.set_new" sP ["self","signs"])(FY:iZ K CD "copy_old" "Desk.copy_old" qY ["self"])(BS:iZ K CD "swap_texts" "Desk.swap_texts" oR ["self"])(zW:iZ K CD "text_called" "Desk.text_called" nj ["self","w"])(DN:iZ K CD "tell_text" "Desk.tell_text" p_ ["self","w"])(zX:iZ K CD "tell_tokens" "Desk.tell_tokens" nF ["self","w","grain"])(FZ:iZ K CD "distance" "Desk.distance" q_ ["self","grain"])(zY:iZ K CD "tell_counts" "Desk.tell_counts" nD ["self"])(F0:iZ K CD "tell_row" "Desk.tell_row" qZ ["self"])(yf:iZ K CD "tell_changes" "Desk.tell_changes" mj ["self"])(DO:iZ K CD "put_signs" "Desk.put_signs" p9 ["self","p","signs"])(zZ:iZ K CD "cut_letters" "Desk.cut_letters" nu ["self","p","q"])(vZ:iZ K CD "paint_letters" "Desk.paint_letters" lD ["self","w","p","q","k","v"])(DP:E1 K mg CD "Desk" "Desk.__init__" qX ["self"])(v9:iZ K CD "compare_texts" "Desk.compare_texts" lE ["self","grain","least"])(uM:iZ K CD "refusal_of_set" "Desk.refusal_of_set" kM ["self","numbers"])(yg:iZ K CD "tell_version" "Desk.tell_version" mq ["self","numbers"])(yh:iZ K CD "take_version" "Desk.take_version" mw ["self","numbers"])(tO:jL K mg "answer_of_texts" oU ["desk","number","reader"])(nW:jL K mg "answer_of_comparison" j4 ["desk","number","reader"])(pP:jL K mg "answer_of_question" lF ["desk","number","reader"])(z_:jL K mg "next_answer" u0 ["desk","reader"])(F:Zd K "answers" "answers" ur f fd)(base:cY):yr P w K mg base Rc 12 f fd ["calls"] (Sm K):=by
 have HK:=Ue (P:=P) (w:=w) (base:=base) G Ik
 have rS:=O4 (P:=P) (w:=w) (base:=base) G DH HK
 have jQ:=HL (P:=P) (w:=w) (base:=base) G vV
 have jC:=MV (P:=P) (w:=w) (base:=base) G BG jQ
 have jR:=HM (P:=P) (w:=w) (base:=base) G vW
 have j8:=Gz (P:=P) (w:=w) (base:=base) G uJ
 have jN:=E8 (P:=P) (w:=w) (base:=base) G tK
 have qa:=MW (P:=P) (w:=w) (base:=base) G BH jN
 have nR:=Rr (P:=P) (w:=w) (base:=base) G FJ
 have xG:=Ju (P:=P) (w:=w) (base:=base) G x9
 have zu:=La (P:=P) (w:=w) (base:=base) G zL xG
 have pG:=O6 (P:=P) (w:=w) (base:=base) G DI jR zu
 have wZ:=Uh (P:=P) (w:=w) (base:=base) G Il
 have C7:=O7 (P:=P) (w:=w) (base:=base) G DJ qa
 have E9:=Rv (P:=P) (w:=w) (base:=base) G FL wZ C7
 have Bg:=MX (P:=P) (w:=w) (base:=base) G BI wZ E9
 have vO:=HQ (P:=P) (w:=w) (base:=base) G vX
 have Fb:=Rx (P:=P) (w:=w) (base:=base) G FN
 have Bh:=MZ (P:=P) (w:=w) (base:=base) G BJ vO Fb
 have xh:=Jx (P:=P) (w:=w) (base:=base) G TS x_ pG Bg Bh qa
 have qe:=M0 (P:=P) (w:=w) (base:=base) G TS BK
 have Fe:=RD (P:=P) (w:=w) (base:=base) G TS FO
 have Ff:=RE (P:=P) (w:=w) (base:=base) G TS FP
 have C8:=Pg (P:=P) (w:=w) (base:=base) G TS DK Fe Ff
 have xO:=Jy (P:=P) (w:=w) (base:=base) G TS yb C8
 have D8:=M1 (P:=P) (w:=w) (base:=base) (mg:=mg) TP BL
 have u9:=Lm (P:=P) (w:=w) (base:=base) G zM D8 jN
 have u_:=Ln (P:=P) (w:=w) (base:=base) G zN D8
 have vQ:=HS (P:=P) (w:=w) (base:=base) G TS vY xO u9 u_
 have rQ:=Pn (P:=P) (w:=w) (base:=base) G DL
 have vD:=Lv (P:=P) (w:=w) (base:=base) (mg:=mg) TH zO
 have qc:=GH (P:=P) (w:=w) (base:=base) G TP uK rQ
 have zx:=Lw (P:=P) (w:=w) (base:=base) G TP zP
 have LM:=W6 (P:=P) (w:=w) (base:=base) G TP Mc rQ zx vD
 have wU:=M5 (P:=P) (w:=w) (base:=base) G TP BN
 have Bx:=M6 (P:=P) (w:=w) (base:=base) G BO wU
 have UJ:=acg (P:=P) (w:=w) (base:=base) G TH U4
 have oB:=Bw (P:=P) (w:=w) (base:=base) G oF qc Bx vD
 have BA:=Na (P:=P) (w:=w) (base:=base) G BP oB LM UJ
 have qx:=Dv (P:=P) (w:=w) (base:=base) (CP:=CP) G TH qA
 have pM:=Ck (P:=P) (w:=w) (base:=base) (CP:=CP) G TH pO
 have By:=Fv (P:=P) (w:=w) (base:=base) G TC tM qx pM
 have rJ:=EB (P:=P) (w:=w) (base:=base) G rK xh qe
 have FA:=R_ (P:=P) (w:=w) (base:=base) G FQ xh vQ By BA qe
 have ou:=LP (P:=P) (w:=w) (base:=base) G zQ
 have rT:=Pz (P:=P) (w:=w) (base:=base) G DM ou
 have zF:=LQ (P:=P) (w:=w) (base:=base) G zR
 have zG:=LR (P:=P) (w:=w) (base:=base) G TP zS
 have xW:=JE (P:=P) (w:=w) (base:=base) G yc
 have Fy:=Se (P:=P) (w:=w) (base:=base) (CH:=CH) G TP TC FT ou xW
 have xX:=JF (P:=P) (w:=w) (base:=base) G TH yd
 have zD:=LU (P:=P) (w:=w) (base:=base) G TP zT
 have uI:=GZ (P:=P) (w:=w) (base:=base) G TP uL j8
 have qh:=Nb (P:=P) (w:=w) (base:=base) (CH:=CH) G TP TC BQ zD uI
 have BE:=LV (P:=P) (w:=w) (base:=base) (mg:=mg) TR zU
 have FH:=Sg (P:=P) (w:=w) (base:=base) G TR FU
 have eT:=JG (P:=P) (w:=w) (base:=base) G TR ye
 have gw:=LW (P:=P) (w:=w) (base:=base) G zV eT
 have nT:=Sh (P:=P) (w:=w) (base:=base) G FW eT gw
 have jv:=EC (P:=P) (w:=w) (base:=base) G rL rS
 have qg:=UO (P:=P) (w:=w) (base:=base) G Im
 have dg:=Nc (P:=P) (w:=w) (base:=base) (mg:=mg) TD BR
 have Ii:=UP (P:=P) (w:=w) (base:=base) (CP:=CP) (CH:=CH) (CC:=CC) G TD Io jv jC dg
 have Ij:=UQ (P:=P) (w:=w) (base:=base) (CP:=CP) (CH:=CH) (CC:=CC) G TD Ip jv jC dg
 have FE:=Sj (P:=P) (w:=w) (base:=base) (CP:=CP) (CH:=CH) (CC:=CC) G TD FY dg
 have BD:=Nd (P:=P) (w:=w) (base:=base) (CP:=CP) (CH:=CH) (CC:=CC) G TD BS dg
 have jD:=LX (P:=P) (w:=w) (base:=base) (CP:=CP) (CH:=CH) (CC:=CC) G TD zW
 have DF:=PR (P:=P) (w:=w) (base:=base) (CP:=CP) (CH:=CH) (CC:=CC) G DN qg jD rT
 have zJ:=LY (P:=P) (w:=w) (base:=base) (CP:=CP) (CH:=CH) (CC:=CC) G zX qg nR jD pG zF
 have FG:=Sk (P:=P) (w:=w) (base:=base) (CP:=CP) (CH:=CH) (CC:=CC) G TD FZ nR rJ
 have zI:=LZ (P:=P) (w:=w) (base:=base) (CP:=CP) (CH:=CH) (CC:=CC) G TD TC zY zG
 have FF:=Sl (P:=P) (w:=w) (base:=base) (CP:=CP) (CH:=CH) (CC:=CC) G TD F0 Fy
 have xY:=JI (P:=P) (w:=w) (base:=base) (CP:=CP) (CH:=CH) (CC:=CC) G TD TC yf xX
 have DE:=PU (P:=P) (w:=w) (base:=base) (CP:=CP) (CH:=CH) (CC:=CC) G TD DO rS jQ dg
 have zH:=L5 (P:=P) (w:=w) (base:=base) (CP:=CP) (CH:=CH) (CC:=CC) G TD zZ dg
 have vR:=Ig (P:=P) (w:=w) (base:=base) (CP:=CP) (CH:=CH) (CC:=CC) G TD vZ qg jD j8 dg
 have UX:=PV (P:=P) (w:=w) (base:=base) (CP:=CP) (CH:=CH) (CC:=CC) G TD DP jC
 have vU:=Ih (P:=P) (w:=w) (base:=base) (CP:=CP) (CH:=CH) (CC:=CC) G TD TC v9 nR FA
 have j_:=G2 (P:=P) (w:=w) (base:=base) (CP:=CP) (CH:=CH) (CC:=CC) G TD TC uM
 have xZ:=JJ (P:=P) (w:=w) (base:=base) (CP:=CP) (CH:=CH) (CC:=CC) G TD yg j_ qh rT
 have x8:=JK (P:=P) (w:=w) (base:=base) (CP:=CP) (CH:=CH) (CC:=CC) G TD yh j_ qh jR dg
 have tH:=FD (P:=P) (w:=w) (base:=base) (CP:=CP) (CH:=CH) (CC:=CC) (C:=CD) (CR:=CR) G tO Ii Ij FE DE zH vR BD nT gw eT
 have nU:=Ax (P:=P) (w:=w) (base:=base) (CP:=CP) (CH:=CH) (CC:=CC) (C:=CD) (CR:=CR) G nW vU zI FF xY xZ x8 nT eT
 have pN:=Cn (P:=P) (w:=w) (base:=base) (CP:=CP) (CH:=CH) (CC:=CC) (C:=CD) (CR:=CR) G pP DF zJ FG gw eT
 have zK:=L7 (P:=P) (w:=w) (base:=base) (CP:=CP) (CH:=CH) (CC:=CC) (C:=CD) (CR:=CR) G z_ gw tH nU pN
 exact UW (P:=P) (w:=w) (base:=base) (CP:=CP) (CH:=CH) (CC:=CC) (C:=CD) (CR:=CR) G F UX BE FH zK
section
variable {K:ah} {h:cY} {mg:cM->Option ao} {R:Prop} {C f:ak} {oc kV vH pm cd ct:ao} {od an:Option ak} {sl:Array (Option ao)} {st:d9} {ps:List cM}
theorem gq(x:cM)(X:K.In h)(G:h.Ns f_ mg)(hb:∀(kV vH pm:ao)(an:Option ak)(iB ct:ao)(us:List ao),us.length=ps.length->Vf (jc x x (sF st) (m7 st) (aY st) .none kV vH pm an iB ct) ⟨us,[]⟩=pure (ps.zip us))(a:BY K f_ x=some (some (.ref f)))(l:K.lookup f=some ⟨oc,od,.func (jc x x (sF st) (m7 st) (aY st) .none kV vH pm an cd ct),sl⟩)(c:pR K cd x=true)(k:jb K (.ref f)=true)(o9:jL K mg x st ps->R):R:=
 o9 ⟨f,_,EZ l c k,Ad X G a,(EZ l c k).binds hb⟩
theorem k_meth(x jg:cM)(cl:Tw K C)(hb:∀(kV vH pm:ao)(an:Option ak)(iB ct:ao)(us:List ao),us.length=ps.length->Vf (jc x jg (sF st) (m7 st) (aY st) .none kV vH pm an iB ct) ⟨us,[]⟩=pure (ps.zip us))(a:gU K (.ref C) x=some (some (.ref f)))(i:BV K (.ref f)=true)(l:K.lookup f=some ⟨oc,od,.func (jc x jg (sF st) (m7 st) (aY st) .none kV vH pm an cd ct),sl⟩)(c:pR K cd jg=true)(k:jb K (.ref f)=true)(o9:iZ K C x jg st ps->R):R:=
 o9 ⟨cl,f,_,EZ l c k,⟨a,i,k⟩,(EZ l c k).binds hb⟩
theorem Iq(x jg:cM)(_:Tw K C)(hm:mg x=some (.ref C))(mk:JY K C=true)(kc:jb K (.ref C)=true)(hb:∀(kV vH pm:ao)(an:Option ak)(iB ct:ao)(us:List ao),us.length=ps.length->Vf (jc "__init__" jg (sF st) (m7 st) (aY st) .none kV vH pm an iB ct) ⟨us,[]⟩=pure (ps.zip us))(a:gU K (.ref C) "__init__"=some (some (.ref f)))(i:BV K (.ref f)=true)(l:K.lookup f=some ⟨oc,od,.func (jc "__init__" jg (sF st) (m7 st) (aY st) .none kV vH pm an cd ct),sl⟩)(c:pR K cd jg=true)(k:jb K (.ref f)=true)(o9:E1 K mg C x jg st ps->R):R:=
 o9 ⟨hm,f,_,EZ l c k,⟨mk,a,i,kc⟩,(EZ l c k).binds hb⟩
theorem k_cls(x:cM)(X:K.In h)(G:h.Ns f_ mg)(a:BY K f_ x=some (some (.ref C)))(pg:uO K C Str.empty=true)(hd:yY K C=true)(po:Hf K C=true)(sa:gU K (.ref C) "__setattr__"=some (some (.builtin "object.__setattr__")))(o9:mg x=some (.ref C)->Tw K C->R):R:=o9 (Ad X G a) ⟨pg,hd,po,sa⟩
theorem oh{fs:List cM}(x:cM)(n:gU K (.ref C) x=some none)(r:∀f∈fs,AX K C f):∀f∈x::fs,AX K C f:=fun f hf=>by
 rcases aW.mp hf with e|e
 ·rw[e];exact n
 ·exact r f e
theorem gr(x:cM)(i:Int){t:Tok}(X:K.In h)(G:h.Ns f_ mg)(a:BY K f_ x=some (some (.int i t)))(o9:mS mg x i->R):R:=o9 ⟨t,Ad X G a⟩
theorem ahq{P:bD}{w:cC}{fa:ak}(X:K.In h)(G:h.Ns f_ mg)(hfa:mg "answers"=some (.ref fa))(a:BY K f_ "answers"=some (some (.ref f)))(l:K.lookup f=some ⟨oc,od,.func (jc "answers" "answers" (sF ur) (m7 ur) (aY ur) .none kV vH pm an cd ct),sl⟩)(c:pR K cd "answers"=true)(k:jb K (.ref f)=true)(F:∀fd,Zd K "answers" "answers" ur f fd->∀base:cY,yr P w K mg base Rc 12 f fd ["calls"] (Sm K)):∃fd:iW,(∀(s:aN)(us:List ao),us.length=(["calls"]:List cM).length->SW s fd ⟨us,[]⟩ ((["calls"]:List cM).zip us))/\∀base:cY,K.In base->base.Ns f_ mg->yr P w K mg base Rc 12 fa fd ["calls"] (Sm K):=by
 have e:=hfa.symm.trans (Ad X G a)
 cases e
 exact⟨_,fun s us hu=>match us,hu with|[_],_=>.of_eq rfl,fun base _ _=>F _ (EZ l c k) base⟩
theorem acF{pl:ak}{dd:Option ak}{fi:Array ao}{n:Nat}{sl':Array (Option ao)}{t1 t2 t3 t4:Tok}(X:K.In h)(G:h.Ns f_ mg)(a:BY K f_ "PLAIN_LOOK"=some (some (.ref pl)))(l:K.lookup pl=some ⟨.type "tuple",dd,.seq fi n,sl'⟩)(e:fi=#[.int 0 t1,.int 0 t2,.int 0 t3,.int 0 t4])(o9:(∃pl,mg "PLAIN_LOOK"=some (.ref pl)/\∀H,rN K H pl [.int 0,.int 0,.int 0,.int 0])->R):R:=by
 subst e
 exact o9 ⟨pl,Ad X G a,fun H=>.inr ⟨_,_,n,l,rfl,rfl,(by show 4<=aK;decide),.cons ⟨_,rfl⟩ (.cons ⟨_,rfl⟩ (.cons ⟨_,rfl⟩ (.cons ⟨_,rfl⟩ .nil)))⟩⟩
end
end L2
open PySem PySem.W PyProof.Rows L2
set_option maxHeartbeats 0 in
theorem PySem.Challenge.cw_trackmarks_s01_answers_holds : PySem.Challenge.rw_trackmarks_s01_answers.Holds := by
 w_on;k_headS;(case hw=>exact⟨[.list [.int 2]],by decide+kernel,by decide+kernel⟩)
 k_fillS
 refine U3 (r:=PySem.Challenge.rw_trackmarks_s01_answers) (k:=12) (CX:=Rc) (ps:=["calls"]) (sp:=Sm) (by decide+kernel) rfl rfl ⟨rfl,by decide,by decide⟩ (fun w h Y=>PySem.W.kIn_of Y) ?F ?S (fun _ _ _ _ z=>z)
 case S=>
  intro K H xs a hO hwi akt hx
  cases hx with
  |cons h1 h2=>
   cases h2
   cases h1 with
   |lst hs ha=>
    have e:=V_ a.1 _ ha
    subst e
    have q:((Codec.inLen 0 17000 a.1&&a.1.all (Codec.inInt (-1000000000000000000) 1000000000000000000))&&true)=true:=hwi
    rw[bx,bx]at q
    obtain⟨ks,l1,l2,l3⟩:=U1 (ns:=a.1) akt
    have hl:a.1.length<=17000:=(Codec.inNat_iff.mp q.1.1).2
    refine⟨_,a.1,ks,rfl,hs,by omega,l1,l2,fun v H' hv=>?_⟩
    rw[<-l3]at hv
    obtain⟨b,rfl,hb⟩:=qf hv
    exact .lst (cG.of hb) (V9 _)
 case F=>
  intro w mg fa h Y KX G hmg
  refine' k_cls "Scripts" KX G ?a0 ?pg0 ?hd0 ?po0 ?sa0 (fun XE uN=>?r0);(case a0|pg0|hd0|po0|sa0=>k_is)
  refine' k_cls "Piece" KX G ?a1 ?pg1 ?hd1 ?po1 ?sa1 (fun acG Wd=>?r1);(case a1|pg1|hd1|po1|sa1=>k_is)
  refine' k_cls "Change" KX G ?a2 ?pg2 ?hd2 ?po2 ?sa2 (fun aaS Sw=>?r2);(case a2|pg2|hd2|po2|sa2=>k_is)
  refine' k_cls "Comparison" KX G ?a3 ?pg3 ?hd3 ?po3 ?sa3 (fun PZ G7=>?r3);(case a3|pg3|hd3|po3|sa3=>k_is)
  refine' k_cls "CallReader" KX G ?a4 ?pg4 ?hd4 ?po4 ?sa4 (fun P0 qi=>?r4);(case a4|pg4|hd4|po4|sa4=>k_is)
  refine' k_cls "Desk" KX G ?a5 ?pg5 ?hd5 ?po5 ?sa5 (fun ae6 lN=>?r5);(case a5|pg5|hd5|po5|sa5=>k_is)
  have TS:iO _ _ sR:=⟨uN,(oh "old_tokens" (by k_is) (oh "new_tokens" (by k_is) (oh "old_sizes" (by k_is) (oh "new_sizes" (by k_is) (oh "keeps" (by k_is) (oh "costs" (by k_is) (oh "last_ends_cost" (by k_is) (fun f hf=>absurd hf (by simp)))))))))⟩
  have TP:iO _ _ n9:=⟨Wd,(oh "fate" (by k_is) (oh "letter" (by k_is) (oh "entries" (by k_is) (fun f hf=>absurd hf (by simp)))))⟩
  have TH:iO _ _ xP:=⟨Sw,(oh "kind" (by k_is) (oh "put_places" (by k_is) (oh "dropped_places" (by k_is) (oh "painted_places" (by k_is) (oh "painted_property" (by k_is) (fun f hf=>absurd hf (by simp)))))))⟩
  have TC:iO _ _ tF:=⟨G7,(oh "row" (by k_is) (oh "changes" (by k_is) (oh "cost" (by k_is) (oh "piece_numbers" (by k_is) (oh "entry_numbers" (by k_is) (fun f hf=>absurd hf (by simp)))))))⟩
  have TR:iO _ _ DA:=⟨qi,(oh "calls" (by k_is) (oh "place" (by k_is) (fun f hf=>absurd hf (by simp))))⟩
  have TD:iO _ _ iQ:=⟨lN,(oh "old_text" (by k_is) (oh "new_text" (by k_is) (oh "comparison" (by k_is) (fun f hf=>absurd hf (by simp)))))⟩
  refine' gq (st:=D3) (ps:=["number"]) "is_sign" KX G (fun _ _ _ _ _ _ us hl=>match us,hl with|[_],_=>rfl) ?a12 ?l12 ?c12 ?k12 (fun Ik=>?r12);(case a12|l12|c12|k12=>k_is)
  refine' gq (st:=yG) (ps:=["numbers"]) "are_signs" KX G (fun _ _ _ _ _ _ us hl=>match us,hl with|[_],_=>rfl) ?a13 ?l13 ?c13 ?k13 (fun DH=>?r13);(case a13|l13|c13|k13=>k_is)
  refine' gq (st:=qQ) (ps:=["signs"]) "plain_letters" KX G (fun _ _ _ _ _ _ us hl=>match us,hl with|[_],_=>rfl) ?a14 ?l14 ?c14 ?k14 (fun vV=>?r14);(case a14|l14|c14|k14=>k_is)
  refine' gq (st:=wG) (ps:=["signs"]) "plain_text" KX G (fun _ _ _ _ _ _ us hl=>match us,hl with|[_],_=>rfl) ?a15 ?l15 ?c15 ?k15 (fun BG=>?r15);(case a15|l15|c15|k15=>k_is)
  refine' gq (st:=qR) (ps:=["text"]) "inner_letters" KX G (fun _ _ _ _ _ _ us hl=>match us,hl with|[_],_=>rfl) ?a16 ?l16 ?c16 ?k16 (fun vW=>?r16);(case a16|l16|c16|k16=>k_is)
  refine' gq (st:=pZ) (ps:=["letter","prop","value"]) "painted_letter" KX G (fun _ _ _ _ _ _ us hl=>match us,hl with|[_,_,_],_=>rfl) ?a17 ?l17 ?c17 ?k17 (fun uJ=>?r17);(case a17|l17|c17|k17=>k_is)
  refine' gq (st:=oM) (ps:=["old_letter","new_letter"]) "entries_between" KX G (fun _ _ _ _ _ _ us hl=>match us,hl with|[_,_],_=>rfl) ?a18 ?l18 ?c18 ?k18 (fun tK=>?r18);(case a18|l18|c18|k18=>k_is)
  refine' gq (st:=wH) (ps:=["old_letter","new_letter"]) "difference" KX G (fun _ _ _ _ _ _ us hl=>match us,hl with|[_,_],_=>rfl) ?a19 ?l19 ?c19 ?k19 (fun BH=>?r19);(case a19|l19|c19|k19=>k_is)
  refine' gq (st:=A1) (ps:=["number"]) "is_grain" KX G (fun _ _ _ _ _ _ us hl=>match us,hl with|[_],_=>rfl) ?a20 ?l20 ?c20 ?k20 (fun FJ=>?r20);(case a20|l20|c20|k20=>k_is)
  refine' gq (st:=sI) (ps:=["sign"]) "is_word_sign" KX G (fun _ _ _ _ _ _ us hl=>match us,hl with|[_],_=>rfl) ?a21 ?l21 ?c21 ?k21 (fun x9=>?r21);(case a21|l21|c21|k21=>k_is)
  refine' gq (st:=uS) (ps:=["letters"]) "word_tokens" KX G (fun _ _ _ _ _ _ us hl=>match us,hl with|[_],_=>rfl) ?a22 ?l22 ?c22 ?k22 (fun zL=>?r22);(case a22|l22|c22|k22=>k_is)
  refine' gq (st:=yI) (ps:=["text","grain"]) "tokens_of" KX G (fun _ _ _ _ _ _ us hl=>match us,hl with|[_,_],_=>rfl) ?a23 ?l23 ?c23 ?k23 (fun DI=>?r23);(case a23|l23|c23|k23=>k_is)
  refine' gq (st:=D4) (ps:=["token"]) "word_of" KX G (fun _ _ _ _ _ _ us hl=>match us,hl with|[_],_=>rfl) ?a24 ?l24 ?c24 ?k24 (fun Il=>?r24);(case a24|l24|c24|k24=>k_is)
  refine' gq (st:=yJ) (ps:=["old_token","new_token"]) "keep_cost" KX G (fun _ _ _ _ _ _ us hl=>match us,hl with|[_,_],_=>rfl) ?a25 ?l25 ?c25 ?k25 (fun DJ=>?r25);(case a25|l25|c25|k25=>k_is)
  refine' gq (st:=A3) (ps:=["old_token","new_tokens","new_words"]) "keep_row" KX G (fun _ _ _ _ _ _ us hl=>match us,hl with|[_,_,_],_=>rfl) ?a26 ?l26 ?c26 ?k26 (fun FL=>?r26);(case a26|l26|c26|k26=>k_is)
  refine' gq (st:=wJ) (ps:=["old_tokens","new_tokens"]) "keep_table" KX G (fun _ _ _ _ _ _ us hl=>match us,hl with|[_,_],_=>rfl) ?a27 ?l27 ?c27 ?k27 (fun BI=>?r27);(case a27|l27|c27|k27=>k_is)
  refine' gq (st:=qU) (ps:=["new_sizes"]) "last_cost_row" KX G (fun _ _ _ _ _ _ us hl=>match us,hl with|[_],_=>rfl) ?a28 ?l28 ?c28 ?k28 (fun vX=>?r28);(case a28|l28|c28|k28=>k_is)
  refine' gq (st:=A4) (ps:=["old_size","new_sizes","keeps","below"]) "cost_row" KX G (fun _ _ _ _ _ _ us hl=>match us,hl with|[_,_,_,_],_=>rfl) ?a29 ?l29 ?c29 ?k29 (fun FN=>?r29);(case a29|l29|c29|k29=>k_is)
  refine' gq (st:=wK) (ps:=["old_sizes","new_sizes","keeps"]) "cost_table" KX G (fun _ _ _ _ _ _ us hl=>match us,hl with|[_,_,_],_=>rfl) ?a30 ?l30 ?c30 ?k30 (fun BJ=>?r30);(case a30|l30|c30|k30=>k_is)
  refine' Iq (st:=m9) (ps:=["self","old_text","new_text","grain"]) "Scripts" "Scripts.__init__" uN XE ?aku ?akv (fun _ _ _ _ _ _ us hl=>match us,hl with|[_,_,_,_],_=>rfl) ?a31 ?i31 ?l31 ?c31 ?k31 (fun x_=>?r31);(case aku|akv|a31|i31|l31|c31|k31=>k_is)
  refine' k_meth (st:=lA) (ps:=["self"]) "least_cost" "Scripts.least_cost" uN (fun _ _ _ _ _ _ us hl=>match us,hl with|[_],_=>rfl) ?a32 ?i32 ?l32 ?c32 ?k32 (fun BK=>?r32);(case a32|i32|l32|c32|k32=>k_is)
  refine' k_meth (st:=m_) (ps:=["self","i","j"]) "may_keep" "Scripts.may_keep" uN (fun _ _ _ _ _ _ us hl=>match us,hl with|[_,_,_],_=>rfl) ?a33 ?i33 ?l33 ?c33 ?k33 (fun FO=>?r33);(case a33|i33|l33|c33|k33=>k_is)
  refine' k_meth (st:=ng) (ps:=["self","i","j"]) "may_drop" "Scripts.may_drop" uN (fun _ _ _ _ _ _ us hl=>match us,hl with|[_,_,_],_=>rfl) ?a34 ?i34 ?l34 ?c34 ?k34 (fun FP=>?r34);(case a34|i34|l34|c34|k34=>k_is)
  refine' k_meth (st:=l9) (ps:=["self","i","j"]) "step_from" "Scripts.step_from" uN (fun _ _ _ _ _ _ us hl=>match us,hl with|[_,_,_],_=>rfl) ?a35 ?i35 ?l35 ?c35 ?k35 (fun DK=>?r35);(case a35|i35|l35|c35|k35=>k_is)
  refine' k_meth (st:=jZ) (ps:=["self"]) "chosen_steps" "Scripts.chosen_steps" uN (fun _ _ _ _ _ _ us hl=>match us,hl with|[_],_=>rfl) ?a36 ?i36 ?l36 ?c36 ?k36 (fun yb=>?r36);(case a36|i36|l36|c36|k36=>k_is)
  refine' Iq (st:=p7) (ps:=["self","fate","letter","entries"]) "Piece" "Piece.__init__" Wd acG ?akw ?akx (fun _ _ _ _ _ _ us hl=>match us,hl with|[_,_,_,_],_=>rfl) ?a37 ?i37 ?l37 ?c37 ?k37 (fun BL=>?r37);(case akw|akx|a37|i37|l37|c37|k37=>k_is)
  refine' gq (st:=uU) (ps:=["old_letters","new_letters"]) "kept_pieces" KX G (fun _ _ _ _ _ _ us hl=>match us,hl with|[_,_],_=>rfl) ?a38 ?l38 ?c38 ?k38 (fun zM=>?r38);(case a38|l38|c38|k38=>k_is)
  refine' gq (st:=uV) (ps:=["fate","letters"]) "bare_pieces" KX G (fun _ _ _ _ _ _ us hl=>match us,hl with|[_,_],_=>rfl) ?a39 ?l39 ?c39 ?k39 (fun zN=>?r39);(case a39|l39|c39|k39=>k_is)
  refine' gq (st:=qV) (ps:=["old_text","new_text","scripts"]) "row_of_pieces" KX G (fun _ _ _ _ _ _ us hl=>match us,hl with|[_,_,_],_=>rfl) ?a40 ?l40 ?c40 ?k40 (fun vY=>?r40);(case a40|l40|c40|k40=>k_is)
  refine' gq (st:=yK) (ps:=["marks"]) "stretches" KX G (fun _ _ _ _ _ _ us hl=>match us,hl with|[_],_=>rfl) ?a41 ?l41 ?c41 ?k41 (fun DL=>?r41);(case a41|l41|c41|k41=>k_is)
  refine' Iq (st:=oN) (ps:=["self","kind","put_places","dropped_places","painted_places","painted_property"]) "Change" "Change.__init__" Sw aaS ?aky ?akz (fun _ _ _ _ _ _ us hl=>match us,hl with|[_,_,_,_,_,_],_=>rfl) ?a42 ?i42 ?l42 ?c42 ?k42 (fun zO=>?r42);(case aky|akz|a42|i42|l42|c42|k42=>k_is)
  refine' gq (st:=p6) (ps:=["row","fate"]) "fate_stretches" KX G (fun _ _ _ _ _ _ us hl=>match us,hl with|[_,_],_=>rfl) ?a43 ?l43 ?c43 ?k43 (fun uK=>?r43);(case a43|l43|c43|k43=>k_is)
  refine' gq (st:=uT) (ps:=["piece","prop"]) "entry_value" KX G (fun _ _ _ _ _ _ us hl=>match us,hl with|[_,_],_=>rfl) ?a44 ?l44 ?c44 ?k44 (fun zP=>?r44);(case a44|l44|c44|k44=>k_is)
  refine' gq (st:=Gs) (ps:=["row"]) "paints" KX G (fun _ _ _ _ _ _ us hl=>match us,hl with|[_],_=>rfl) ?a45 ?l45 ?c45 ?k45 (fun Mc=>?r45);(case a45|l45|c45|k45=>k_is)
  refine' gq (st:=wL) (ps:=["row","places"]) "letters_at" KX G (fun _ _ _ _ _ _ us hl=>match us,hl with|[_,_],_=>rfl) ?a46 ?l46 ?c46 ?k46 (fun BN=>?r46);(case a46|l46|c46|k46=>k_is)
  refine' gq (st:=wM) (ps:=["row","cut_places","puts"]) "first_like" KX G (fun _ _ _ _ _ _ us hl=>match us,hl with|[_,_,_],_=>rfl) ?a47 ?l47 ?c47 ?k47 (fun BO=>?r47);(case a47|l47|c47|k47=>k_is)
  refine' gq (st:=OW) (ps:=["change"]) "rank" KX G (fun _ _ _ _ _ _ us hl=>match us,hl with|[_],_=>rfl) ?a48 ?l48 ?c48 ?k48 (fun U4=>?r48);(case a48|l48|c48|k48=>k_is)
  refine' gq (st:=kG) (ps:=["row","least"]) "cuts_puts_and_moves" KX G (fun _ _ _ _ _ _ us hl=>match us,hl with|[_,_],_=>rfl) ?a49 ?l49 ?c49 ?k49 (fun oF=>?r49);(case a49|l49|c49|k49=>k_is)
  refine' gq (st:=wN) (ps:=["row","least"]) "changes_of" KX G (fun _ _ _ _ _ _ us hl=>match us,hl with|[_,_],_=>rfl) ?a50 ?l50 ?c50 ?k50 (fun BP=>?r50);(case a50|l50|c50|k50=>k_is)
  refine' gq (st:=l_) (ps:=["row","changes"]) "numbers_of_pieces" KX G (fun _ _ _ _ _ _ us hl=>match us,hl with|[_,_],_=>rfl) ?a51 ?l51 ?c51 ?k51 (fun qA=>?r51);(case a51|l51|c51|k51=>k_is)
  refine' gq (st:=lB) (ps:=["row","changes"]) "numbers_of_entries" KX G (fun _ _ _ _ _ _ us hl=>match us,hl with|[_,_],_=>rfl) ?a52 ?l52 ?c52 ?k52 (fun pO=>?r52);(case a52|l52|c52|k52=>k_is)
  refine' Iq (st:=kH) (ps:=["self","row","changes","cost"]) "Comparison" "Comparison.__init__" G7 PZ ?akA ?akB (fun _ _ _ _ _ _ us hl=>match us,hl with|[_,_,_,_],_=>rfl) ?a53 ?i53 ?l53 ?c53 ?k53 (fun tM=>?r53);(case akA|akB|a53|i53|l53|c53|k53=>k_is)
  refine' gq (st:=nh) (ps:=["old_text","new_text","grain"]) "distance_between" KX G (fun _ _ _ _ _ _ us hl=>match us,hl with|[_,_,_],_=>rfl) ?a54 ?l54 ?c54 ?k54 (fun rK=>?r54);(case a54|l54|c54|k54=>k_is)
  refine' gq (st:=A6) (ps:=["old_text","new_text","grain","least"]) "compared" KX G (fun _ _ _ _ _ _ us hl=>match us,hl with|[_,_,_,_],_=>rfl) ?a55 ?l55 ?c55 ?k55 (fun FQ=>?r55);(case a55|l55|c55|k55=>k_is)
  refine' gq (st:=uW) (ps:=["letter"]) "told_letter" KX G (fun _ _ _ _ _ _ us hl=>match us,hl with|[_],_=>rfl) ?a56 ?l56 ?c56 ?k56 (fun zQ=>?r56);(case a56|l56|c56|k56=>k_is)
  refine' gq (st:=yL) (ps:=["text"]) "told_text" KX G (fun _ _ _ _ _ _ us hl=>match us,hl with|[_],_=>rfl) ?a57 ?l57 ?c57 ?k57 (fun DM=>?r57);(case a57|l57|c57|k57=>k_is)
  refine' gq (st:=uX) (ps:=["tokens"]) "told_tokens" KX G (fun _ _ _ _ _ _ us hl=>match us,hl with|[_],_=>rfl) ?a58 ?l58 ?c58 ?k58 (fun zR=>?r58);(case a58|l58|c58|k58=>k_is)
  refine' gq (st:=uY) (ps:=["row"]) "told_counts" KX G (fun _ _ _ _ _ _ us hl=>match us,hl with|[_],_=>rfl) ?a59 ?l59 ?c59 ?k59 (fun zS=>?r59);(case a59|l59|c59|k59=>k_is)
  refine' gq (st:=sM) (ps:=["entries","numbers"]) "told_entries" KX G (fun _ _ _ _ _ _ us hl=>match us,hl with|[_,_],_=>rfl) ?a60 ?l60 ?c60 ?k60 (fun yc=>?r60);(case a60|l60|c60|k60=>k_is)
  refine' gq (st:=Ba) (ps:=["comparison"]) "told_row" KX G (fun _ _ _ _ _ _ us hl=>match us,hl with|[_],_=>rfl) ?a61 ?l61 ?c61 ?k61 (fun FT=>?r61);(case a61|l61|c61|k61=>k_is)
  refine' gq (st:=sN) (ps:=["changes"]) "told_changes" KX G (fun _ _ _ _ _ _ us hl=>match us,hl with|[_],_=>rfl) ?a62 ?l62 ?c62 ?k62 (fun yd=>?r62);(case a62|l62|c62|k62=>k_is)
  refine' gq (st:=uZ) (ps:=["piece","number","accepted"]) "is_left_out" KX G (fun _ _ _ _ _ _ us hl=>match us,hl with|[_,_,_],_=>rfl) ?a63 ?l63 ?c63 ?k63 (fun zT=>?r63);(case a63|l63|c63|k63=>k_is)
  refine' gq (st:=p8) (ps:=["piece","numbers","accepted"]) "version_letter" KX G (fun _ _ _ _ _ _ us hl=>match us,hl with|[_,_,_],_=>rfl) ?a64 ?l64 ?c64 ?k64 (fun uL=>?r64);(case a64|l64|c64|k64=>k_is)
  refine' gq (st:=wO) (ps:=["comparison","numbers"]) "version_of" KX G (fun _ _ _ _ _ _ us hl=>match us,hl with|[_,_],_=>rfl) ?a65 ?l65 ?c65 ?k65 (fun BQ=>?r65);(case a65|l65|c65|k65=>k_is)
  refine' Iq (st:=kI) (ps:=["self","calls"]) "CallReader" "CallReader.__init__" qi P0 ?akC ?akD (fun _ _ _ _ _ _ us hl=>match us,hl with|[_,_],_=>rfl) ?a66 ?i66 ?l66 ?c66 ?k66 (fun zU=>?r66);(case akC|akD|a66|i66|l66|c66|k66=>k_is)
  refine' k_meth (st:=kJ) (ps:=["self"]) "has_more" "CallReader.has_more" qi (fun _ _ _ _ _ _ us hl=>match us,hl with|[_],_=>rfl) ?a67 ?i67 ?l67 ?c67 ?k67 (fun FU=>?r67);(case a67|i67|l67|c67|k67=>k_is)
  refine' k_meth (st:=jo) (ps:=["self","amount"]) "read_numbers" "CallReader.read_numbers" qi (fun _ _ _ _ _ _ us hl=>match us,hl with|[_,_],_=>rfl) ?a68 ?i68 ?l68 ?c68 ?k68 (fun ye=>?r68);(case a68|i68|l68|c68|k68=>k_is)
  refine' k_meth (st:=jB) (ps:=["self"]) "read_number" "CallReader.read_number" qi (fun _ _ _ _ _ _ us hl=>match us,hl with|[_],_=>rfl) ?a69 ?i69 ?l69 ?c69 ?k69 (fun zV=>?r69);(case a69|i69|l69|c69|k69=>k_is)
  refine' k_meth (st:=kK) (ps:=["self"]) "read_row" "CallReader.read_row" qi (fun _ _ _ _ _ _ us hl=>match us,hl with|[_],_=>rfl) ?a70 ?i70 ?l70 ?c70 ?k70 (fun FW=>?r70);(case a70|i70|l70|c70|k70=>k_is)
  refine' gq (st:=ni) (ps:=["signs"]) "refusal_of_signs" KX G (fun _ _ _ _ _ _ us hl=>match us,hl with|[_],_=>rfl) ?a71 ?l71 ?c71 ?k71 (fun rL=>?r71);(case a71|l71|c71|k71=>k_is)
  refine' gq (st:=D5) (ps:=["w"]) "is_text" KX G (fun _ _ _ _ _ _ us hl=>match us,hl with|[_],_=>rfl) ?a72 ?l72 ?c72 ?k72 (fun Im=>?r72);(case a72|l72|c72|k72=>k_is)
  refine' k_meth (st:=oO) (ps:=["self","old_text","new_text"]) "hold_texts" "Desk.hold_texts" lN (fun _ _ _ _ _ _ us hl=>match us,hl with|[_,_,_],_=>rfl) ?a73 ?i73 ?l73 ?c73 ?k73 (fun BR=>?r73);(case a73|i73|l73|c73|k73=>k_is)
  refine' k_meth (st:=sO) (ps:=["self","signs"]) "set_old" "Desk.set_old" lN (fun _ _ _ _ _ _ us hl=>match us,hl with|[_,_],_=>rfl) ?a74 ?i74 ?l74 ?c74 ?k74 (fun Io=>?r74);(case a74|i74|l74|c74|k74=>k_is)
  refine' k_meth (st:=sP) (ps:=["self","signs"]) "set_new" "Desk.set_new" lN (fun _ _ _ _ _ _ us hl=>match us,hl with|[_,_],_=>rfl) ?a75 ?i75 ?l75 ?c75 ?k75 (fun Ip=>?r75);(case a75|i75|l75|c75|k75=>k_is)
  refine' k_meth (st:=qY) (ps:=["self"]) "copy_old" "Desk.copy_old" lN (fun _ _ _ _ _ _ us hl=>match us,hl with|[_],_=>rfl) ?a76 ?i76 ?l76 ?c76 ?k76 (fun FY=>?r76);(case a76|i76|l76|c76|k76=>k_is)
  refine' k_meth (st:=oR) (ps:=["self"]) "swap_texts" "Desk.swap_texts" lN (fun _ _ _ _ _ _ us hl=>match us,hl with|[_],_=>rfl) ?a77 ?i77 ?l77 ?c77 ?k77 (fun BS=>?r77);(case a77|i77|l77|c77|k77=>k_is)
  refine' k_meth (st:=nj) (ps:=["self","w"]) "text_called" "Desk.text_called" lN (fun _ _ _ _ _ _ us hl=>match us,hl with|[_,_],_=>rfl) ?a78 ?i78 ?l78 ?c78 ?k78 (fun zW=>?r78);(case a78|i78|l78|c78|k78=>k_is)
  refine' k_meth (st:=p_) (ps:=["self","w"]) "tell_text" "Desk.tell_text" lN (fun _ _ _ _ _ _ us hl=>match us,hl with|[_,_],_=>rfl) ?a79 ?i79 ?l79 ?c79 ?k79 (fun DN=>?r79);(case a79|i79|l79|c79|k79=>k_is)
  refine' k_meth (st:=nF) (ps:=["self","w","grain"]) "tell_tokens" "Desk.tell_tokens" lN (fun _ _ _ _ _ _ us hl=>match us,hl with|[_,_,_],_=>rfl) ?a80 ?i80 ?l80 ?c80 ?k80 (fun zX=>?r80);(case a80|i80|l80|c80|k80=>k_is)
  refine' k_meth (st:=q_) (ps:=["self","grain"]) "distance" "Desk.distance" lN (fun _ _ _ _ _ _ us hl=>match us,hl with|[_,_],_=>rfl) ?a81 ?i81 ?l81 ?c81 ?k81 (fun FZ=>?r81);(case a81|i81|l81|c81|k81=>k_is)
  refine' k_meth (st:=nD) (ps:=["self"]) "tell_counts" "Desk.tell_counts" lN (fun _ _ _ _ _ _ us hl=>match us,hl with|[_],_=>rfl) ?a82 ?i82 ?l82 ?c82 ?k82 (fun zY=>?r82);(case a82|i82|l82|c82|k82=>k_is)
  refine' k_meth (st:=qZ) (ps:=["self"]) "tell_row" "Desk.tell_row" lN (fun _ _ _ _ _ _ us hl=>match us,hl with|[_],_=>rfl) ?a83 ?i83 ?l83 ?c83 ?k83 (fun F0=>?r83);(case a83|i83|l83|c83|k83=>k_is)
  refine' k_meth (st:=mj) (ps:=["self"]) "tell_changes" "Desk.tell_changes" lN (fun _ _ _ _ _ _ us hl=>match us,hl with|[_],_=>rfl) ?a84 ?i84 ?l84 ?c84 ?k84 (fun yf=>?r84);(case a84|i84|l84|c84|k84=>k_is)
  refine' k_meth (st:=p9) (ps:=["self","p","signs"]) "put_signs" "Desk.put_signs" lN (fun _ _ _ _ _ _ us hl=>match us,hl with|[_,_,_],_=>rfl) ?a85 ?i85 ?l85 ?c85 ?k85 (fun DO=>?r85);(case a85|i85|l85|c85|k85=>k_is)
  refine' k_meth (st:=nu) (ps:=["self","p","q"]) "cut_letters" "Desk.cut_letters" lN (fun _ _ _ _ _ _ us hl=>match us,hl with|[_,_,_],_=>rfl) ?a86 ?i86 ?l86 ?c86 ?k86 (fun zZ=>?r86);(case a86|i86|l86|c86|k86=>k_is)
  refine' k_meth (st:=lD) (ps:=["self","w","p","q","k","v"]) "paint_letters" "Desk.paint_letters" lN (fun _ _ _ _ _ _ us hl=>match us,hl with|[_,_,_,_,_,_],_=>rfl) ?a87 ?i87 ?l87 ?c87 ?k87 (fun vZ=>?r87);(case a87|i87|l87|c87|k87=>k_is)
  refine' Iq (st:=qX) (ps:=["self"]) "Desk" "Desk.__init__" lN ae6 ?akE ?akF (fun _ _ _ _ _ _ us hl=>match us,hl with|[_],_=>rfl) ?a88 ?i88 ?l88 ?c88 ?k88 (fun DP=>?r88);(case akE|akF|a88|i88|l88|c88|k88=>k_is)
  refine' k_meth (st:=lE) (ps:=["self","grain","least"]) "compare_texts" "Desk.compare_texts" lN (fun _ _ _ _ _ _ us hl=>match us,hl with|[_,_,_],_=>rfl) ?a89 ?i89 ?l89 ?c89 ?k89 (fun v9=>?r89);(case a89|i89|l89|c89|k89=>k_is)
  refine' k_meth (st:=kM) (ps:=["self","numbers"]) "refusal_of_set" "Desk.refusal_of_set" lN (fun _ _ _ _ _ _ us hl=>match us,hl with|[_,_],_=>rfl) ?a90 ?i90 ?l90 ?c90 ?k90 (fun uM=>?r90);(case a90|i90|l90|c90|k90=>k_is)
  refine' k_meth (st:=mq) (ps:=["self","numbers"]) "tell_version" "Desk.tell_version" lN (fun _ _ _ _ _ _ us hl=>match us,hl with|[_,_],_=>rfl) ?a91 ?i91 ?l91 ?c91 ?k91 (fun yg=>?r91);(case a91|i91|l91|c91|k91=>k_is)
  refine' k_meth (st:=mw) (ps:=["self","numbers"]) "take_version" "Desk.take_version" lN (fun _ _ _ _ _ _ us hl=>match us,hl with|[_,_],_=>rfl) ?a92 ?i92 ?l92 ?c92 ?k92 (fun yh=>?r92);(case a92|i92|l92|c92|k92=>k_is)
  refine' gq (st:=oU) (ps:=["desk","number","reader"]) "answer_of_texts" KX G (fun _ _ _ _ _ _ us hl=>match us,hl with|[_,_,_],_=>rfl) ?a93 ?l93 ?c93 ?k93 (fun tO=>?r93);(case a93|l93|c93|k93=>k_is)
  refine' gq (st:=j4) (ps:=["desk","number","reader"]) "answer_of_comparison" KX G (fun _ _ _ _ _ _ us hl=>match us,hl with|[_,_,_],_=>rfl) ?a94 ?l94 ?c94 ?k94 (fun nW=>?r94);(case a94|l94|c94|k94=>k_is)
  refine' gq (st:=lF) (ps:=["desk","number","reader"]) "answer_of_question" KX G (fun _ _ _ _ _ _ us hl=>match us,hl with|[_,_,_],_=>rfl) ?a95 ?l95 ?c95 ?k95 (fun pP=>?r95);(case a95|l95|c95|k95=>k_is)
  refine' gq (st:=u0) (ps:=["desk","reader"]) "next_answer" KX G (fun _ _ _ _ _ _ us hl=>match us,hl with|[_,_],_=>rfl) ?a96 ?l96 ?c96 ?k96 (fun z_=>?r96);(case a96|l96|c96|k96=>k_is)
  refine' gr "PARAGRAPH_END" (10) KX G ?a97 (fun JM=>?r97);(case a97=>k_is)
  refine' gr "LOWEST_SIGN" (32) KX G ?a98 (fun Ng=>?r98);(case a98=>k_is)
  refine' gr "HIGHEST_SIGN" (126) KX G ?a99 (fun Me=>?r99);(case a99=>k_is)
  refine' gr "MOST_INNER_LETTERS" (120) KX G ?akG (fun DQ=>?auT);(case akG=>k_is)
  refine' gr "PROPERTIES" (4) KX G ?akH (fun P1=>?auU);(case akH=>k_is)
  refine' gr "HIGHEST_VALUE" (99) KX G ?akI (fun JN=>?auV);(case akI=>k_is)
  refine' acF KX G ?akJ ?akK ?akL (fun PL=>?auW);(case akJ|akK=>k_is);(case akL=>rfl)
  refine' gr "LETTER_GRAIN" (0) KX G ?akM (fun Mf=>?auX);(case akM=>k_is)
  refine' gr "WORD_GRAIN" (1) KX G ?akN (fun P4=>?auY);(case akN=>k_is)
  refine' gr "KEEP" (0) KX G ?akO (fun ae7=>?auZ);(case akO=>k_is)
  refine' gr "DROP" (1) KX G ?akP (fun ae8=>?au0);(case akP=>k_is)
  refine' gr "PUT" (2) KX G ?akQ (fun ahr=>?au1);(case akQ=>k_is)
  refine' gr "PUT_KIND" (1) KX G ?akR (fun U5=>?au2);(case akR=>k_is)
  refine' gr "CUT_KIND" (2) KX G ?akS (fun U6=>?au3);(case akS=>k_is)
  refine' gr "PAINT_KIND" (3) KX G ?akT (fun P5=>?au4);(case akT=>k_is)
  refine' gr "MOVE_KIND" (4) KX G ?akU (fun Sx=>?au5);(case akU=>k_is)
  refine' gr "NO_SUCH_PLACE" (-1) KX G ?akV (fun JO=>?au6);(case akV=>k_is)
  refine' gr "NO_SUCH_VALUE" (-2) KX G ?akW (fun JP=>?au7);(case akW=>k_is)
  refine' gr "NO_COMPARISON" (-4) KX G ?akX (fun JQ=>?au8);(case akX=>k_is)
  refine' gr "TOO_LONG" (-5) KX G ?akY (fun U7=>?au9);(case akY=>k_is)
  refine' gr "OLD_TEXT" (0) KX G ?akZ (fun U8=>?au_);(case akZ=>k_is)
  refine' gr "NEW_TEXT" (1) KX G ?ak0 (fun U9=>?au');(case ak0=>k_is)
  refine' gr "LONGEST_LEAST" (200) KX G ?ak1 (fun JR=>?ava);(case ak1=>k_is)
  refine' gr "OLD_CALL" (0) KX G ?ak2 (fun U_=>?avb);(case ak2=>k_is)
  refine' gr "NEW_CALL" (1) KX G ?ak3 (fun U'=>?avc);(case ak3=>k_is)
  refine' gr "COPY_CALL" (2) KX G ?ak4 (fun Sy=>?avd);(case ak4=>k_is)
  refine' gr "PUT_CALL" (3) KX G ?ak5 (fun Va=>?ave);(case ak5=>k_is)
  refine' gr "CUT_CALL" (4) KX G ?ak6 (fun Vb=>?avf);(case ak6=>k_is)
  refine' gr "PAINT_CALL" (5) KX G ?ak7 (fun P6=>?avg);(case ak7=>k_is)
  refine' gr "SWAP_CALL" (6) KX G ?ak8 (fun Sz=>?avh);(case ak8=>k_is)
  refine' gr "COMPARE_CALL" (7) KX G ?ak9 (fun Mg=>?avi);(case ak9=>k_is)
  refine' gr "COUNTS_CALL" (8) KX G ?ak_ (fun Nh=>?avj);(case ak_=>k_is)
  refine' gr "ROW_CALL" (9) KX G ?ak' (fun Vc=>?avk);(case ak'=>k_is)
  refine' gr "CHANGES_CALL" (10) KX G ?ala (fun Mh=>?avl);(case ala=>k_is)
  refine' gr "VERSION_CALL" (11) KX G ?alb (fun Mi=>?avm);(case alb=>k_is)
  refine' gr "TAKE_CALL" (12) KX G ?alc (fun SA=>?avn);(case alc=>k_is)
  refine' gr "TEXT_CALL" (13) KX G ?ald (fun SD=>?avo);(case ald=>k_is)
  refine' gr "TOKENS_CALL" (14) KX G ?ale (fun Ni=>?avp);(case ale=>k_is)
  refine' gr "DISTANCE_CALL" (15) KX G ?alf (fun JS=>?avq);(case alf=>k_is)
  have GL:fT _ mg:=⟨JM,Ng,Me,DQ,P1,JN,PL,Mf,P4,ae7,ae8,ahr,U5,U6,P5,Sx,JO,JP,JQ,U7,U8,U9,JR,U_,U',Sy,Va,Vb,P6,Sz,Mg,Nh,Vc,Mh,Mi,SA,SD,Ni,JS,gh (n:="len") KX G (by k_is),gh (n:="all") KX G (by k_is),gh (n:="sum") KX G (by k_is),gh (n:="min") KX G (by k_is),gh (n:="list") KX G (by k_is),gh (n:="tuple") KX G (by k_is),gh (n:="range") KX G (by k_is),gh (n:="enumerate") KX G (by k_is),gh (n:="zip") KX G (by k_is),gh (n:="reversed") KX G (by k_is),gh (n:="sorted") KX G (by k_is)⟩
  refine' ahq KX G hmg ?alg ?alh ?ali ?alj (fun fd F base=>ae5 GL TS TP TH TC TR TD Ik DH vV BG vW uJ tK BH FJ x9 zL DI Il DJ FL BI vX FN BJ x_ BK FO FP DK yb BL zM zN vY DL zO uK zP Mc BN BO U4 oF BP qA pO tM rK FQ zQ DM zR zS yc FT yd zT uL BQ zU FU ye zV FW rL Im BR Io Ip FY BS zW DN zX FZ zY F0 yf DO zZ vZ DP v9 uM yg yh tO nW pP z_ F base);(case alg|alh|ali|alj=>k_is)
